import PyProof.Rows.All
import Wide.All
import OpenK.AllK
import Wide.FinOn
import HandS.ForMost
import HandS.Walk
import KE.GoesNew
import HandS.IsInst
import HandS.Codes
import KE.SortData
import HandS.ExcIs
import HandS.Strs
import HandS.SetKeys
import HandS.Text
import HandS.ForExc
import HandS.RaiseMore
import HandS.FStr
import HandS.CallRecv
import HandS.TryOnly
import HandS.Style
import PySem.Challenge.RW_radixtrail_k13_whole_no_single_child
set_option Elab.async false
set_option linter.all false
set_option maxRecDepth 100000
set_option maxHeartbeats 4000000
/-! zip of two texts, walked by a tuple target -/
namespace RT
open PySem PySem.Spec PyProof.Rows L2
/-- the signs of two texts, in new pairs -/
def Itzs (x y : Str) : It :=
  ⟨fun i _ => i < x.cps.size ∧ i < y.cps.size,
    fun i H v H' => ∃ T c d, v = .ref T ∧ H T = none ∧ H' = upd H T (.tup [.str ⟨#[c]⟩, .str ⟨#[d]⟩]) ∧ x.cps[i]? = some c ∧ y.cps[i]? = some d,
    fun i _ => i = min x.cps.size y.cps.size⟩
theorem sub5 {N : Addr} (b : Addr) (hb : b ∈ [N + 4, N + 3, N, N + 1]) : b ∈ [N + 4, N + 2, N + 3, N, N + 1] := by
  simp only [List.mem_cons, List.not_mem_nil, or_false] at hb ⊢
  rcases hb with h | h | h | h <;> simp [h]
theorem turn_zipS {P : Program} {w : World} {K : PySem.W.Frag} {elts : List Expr} {kk : Nat} {tpos : Pos} {x y : Str} {tx ty : Tok} {N : Addr} :
    Turn P w K (.Tuple elts kk tpos) (Itzs x y) [N + 4, N + 2, N + 3, N, N + 1] (N + 4)
      (fun i h => (IsZip h (N + 4) (N + 2) (N + 3) .none ∧ IsTupOf2 h (N + 2) (.ref N) (.ref (N + 1)) ∧ (∃ a1 a2, IsTupOf2 h (N + 3) a1 a2) ∧ h.IsStrIter N (strIterType x) x tx i ∧ h.IsStrIter (N + 1) (strIterType y) y ty i)) where
  mem := by simp
  obj := fun i h stt c hc => by
    obtain ⟨gZ, gI, ⟨a1, a2, gO⟩, ⟨oA, eA, _, dA⟩, ⟨oB, eB, _, dB⟩⟩ := stt
    have five : c = N + 4 ∨ c = N + 2 ∨ c = N + 3 ∨ c = N ∨ c = N + 1 := by simpa using hc
    rcases five with rfl | rfl | rfl | rfl | rfl
    · exact ⟨_, gZ, fun _ q => nomatch q⟩
    · exact ⟨_, gI, fun _ q => nomatch q⟩
    · exact ⟨_, gO, fun _ q => nomatch q⟩
    · exact ⟨oA, eA, fun _ q => by rw [dA] at q; cases q⟩
    · exact ⟨oB, eB, fun _ q => by rw [dB] at q; cases q⟩
  keep := fun i h h' st k => by
    obtain ⟨hz, hTI, ⟨a1, a2, hTO⟩, ⟨o1, e1, r1⟩, ⟨o2, e2, r2⟩⟩ := st
    exact ⟨k (N + 4) (by simp) _ hz, k (N + 2) (by simp) _ hTI, ⟨a1, a2, k (N + 3) (by simp) _ hTO⟩, ⟨o1, k N (by simp) _ e1, r1⟩, ⟨o2, k (N + 1) (by simp) _ e2, r2⟩⟩
  item := by
    intro X eP eW eK calm i pins s σ H E I hf st hg
    subst eP eW eK
    have hh := I.ok.hd calm
    have G := GoesN.zip2 (A := X.A) (elts := elts) (x1 := kk) (pos := tpos) (zip_sep2 (N := N) (fp1 := []) (fp2 := []) (by simp) (by simp)) (Draws.text (prog := X.prog) (w := X.w) (A := X.A.in1) hh N x tx) (Draws.text (prog := X.prog) (w := X.w) (A := X.A.in1) hh (N + 1) y ty)
    have hlt : i < min x.cps.size y.cps.size := by have := hg.1; have := hg.2; omega
    refine thn (G.goes i s (fun v s2 => ∃ x1 H', Inv X pins σ H' s2 ∧ RelV x1 v ∧ (Itzs x y).yld i H x1 H' ∧ _ ∧ ∀ b ∈ [N + 4, N + 2, N + 3, N, N + 1], H' b = none) E hlt st fun v h' tk hY st' hk htk => ?_) fun r s1 ⟨v, hr, q⟩ => ⟨v, hr, thn q fun _ s2 z => z⟩
    obtain ⟨T, u1, u2, rfl, hT, ⟨c, t1, hc1, rfl⟩, ⟨d, t2, hd1, rfl⟩, hTup⟩ := hY
    have new : ObjOk X.prog X.w (upd H T (.tup [.str ⟨#[c]⟩, .str ⟨#[d]⟩])) h' T (.tup [.str ⟨#[c]⟩, .str ⟨#[d]⟩]) :=
      ⟨by show 2 ≤ sizeLine; decide, [.str ⟨#[c]⟩ t1, .str ⟨#[d]⟩ t2], .cons ⟨_, rfl⟩ (.cons ⟨_, rfl⟩ .nil), hTup⟩
    have I1 : Inv X pins σ (upd H T (.tup [.str ⟨#[c]⟩, .str ⟨#[d]⟩])) { s with heap := h', toks := tk } :=
      I.turnedNew (ch := [N + 4, N + 2, N + 3, N, N + 1]) (fun b o hb q => hk b o (fun z => hb (sub5 b z)) q) hf hT new
    refine ⟨.ref T, _, I1, rfl, ⟨T, c, d, rfl, I.hok.fresh hT, rfl, hc1, hd1⟩, st', fun b hb => ?_⟩
    have hlt : b < s.heap.objs.size := by
      obtain ⟨gZ, gI, ⟨a1, a2, gO⟩, ⟨oA, eA, _⟩, ⟨oB, eB, _⟩⟩ := st
      have five : b = N + 4 ∨ b = N + 2 ∨ b = N + 3 ∨ b = N ∨ b = N + 1 := by simpa using hb
      rcases five with rfl | rfl | rfl | rfl | rfl
      · exact Heap.lt_size gZ
      · exact Heap.lt_size gI
      · exact Heap.lt_size gO
      · exact Heap.lt_size eA
      · exact Heap.lt_size eB
    rw [upd_ne (Nat.ne_of_lt (Nat.lt_of_lt_of_le hlt hT))]
    exact (hf b hb).1
  done := by
    intro X eP eW eK calm i pins s σ H E I hf st hg
    subst eP eW eK
    have hh := I.ok.hd calm
    have G := GoesN.zip2 (A := X.A) (elts := elts) (x1 := kk) (pos := tpos) (zip_sep2 (N := N) (fp1 := []) (fp2 := []) (by simp) (by simp)) (Draws.text (prog := X.prog) (w := X.w) (A := X.A.in1) hh N x tx) (Draws.text (prog := X.prog) (w := X.w) (A := X.A.in1) hh (N + 1) y ty)
    have hi : i = min x.cps.size y.cps.size := hg
    subst hi
    exact G.stops s _ E st fun h' tk hk htk => I.turnedL (ch := [N + 4, N + 2, N + 3, N, N + 1]) (fun b o hb q => hk b o (fun z => hb (sub5 b z)) q) hf
  self := fun _ _ _ _ _ stt q => wpAny_pyIter_zip stt.1 q
def iZipS (ta : TA) : TI := fun σ H R => ta σ H fun vs H1 => ∃ x y, vs = [.str x, .str y] ∧ R (Itzs x y) H1
theorem pi_zipS {X : Cx} {e e2 : Expr} {ta : TA} {p pos tpos : Pos} {elts : List Expr} {kk : Nat} (hg : Gl X "zip") (hm : X.mg "zip" = none) (ha : PA X [e, e2] ta)
    (noStar : starEach [e, e2] X.env = (false, eval e X.env) :: starEach [e2] X.env := by rfl)
    (noStar2 : (backTo pos (starEach [e2] X.env)).any (·.1) = false := by rfl) :
    PI X (.Tuple elts kk tpos) (.Call (.Name "zip" p) [e, e2] [] pos) (iZipS ta) := by
  constructor
  intro pins s σ H R I hw
  refine Call_ (ld_blt I hg hm PyProof.Rows.boot_zip ?_)
  refine PyProof.Rows.callWith_type1 (thn (ha.run pos pins s σ H _ I hw) fun us s1 told => ?_) noStar noStar2
  obtain ⟨vs, H1, I1, r1, q1⟩ := told
  obtain ⟨x, y, ex, q⟩ := q1
  subst ex
  cases r1 with
  | cons r rr =>
    cases rr with
    | cons r' rr =>
      cases rr
      obtain ⟨tx, rfl⟩ := r
      obtain ⟨ty, rfl⟩ := r'
      refine zip_begins2 (begins_text x tx) (begins_text y ty) trivial trivial fun h' hz hTI hTO h1 h2 hsz hk => wpAny_pyIter_zip hz ?_
      have J := I1.kept (t' := s1.toks) hk
      refine ⟨s1.heap.objs.size + 4, [s1.heap.objs.size + 4, s1.heap.objs.size + 2, s1.heap.objs.size + 3, s1.heap.objs.size, s1.heap.objs.size + 1], _, _, H1, rfl, J, turn_zipS (tx := tx) (ty := ty), ⟨hz, hTI, ⟨_, _, hTO⟩, ⟨_, h1, rfl, rfl⟩, ⟨_, h2, rfl, rfl⟩⟩, fun c hc => ?_, q⟩
      have up : ∀ k : Nat, s1.heap.objs.size ≤ s1.heap.objs.size + k := fun k => Nat.le_add_right _ k
      have new : s1.heap.objs.size ≤ c := by
        have five : c = s1.heap.objs.size + 4 ∨ c = s1.heap.objs.size + 2 ∨ c = s1.heap.objs.size + 3 ∨ c = s1.heap.objs.size ∨ c = s1.heap.objs.size + 1 := by simpa using hc
        rcases five with rfl | rfl | rfl | rfl | rfl
        · exact up 4
        · exact up 2
        · exact up 3
        · exact Nat.le_refl _
        · exact up 1
      exact I1.fpOk new (I1.hok.fresh new)
end RT

/-! texts as lists of signs -/
namespace RT
open PySem PySem.Spec PyProof.Rows L2
abbrev st (l : List Nat) : Str := ⟨l.toArray⟩
theorem st_inj {a b : List Nat} (h : st a = st b) : a = b := by
  have := congrArg (fun z => z.cps.toList) h
  simpa using this
theorem st_iff {a b : List Nat} : (V.str (st a) = V.str (st b)) ↔ a = b := ⟨fun h => st_inj (V.str.inj h), fun h => by rw [h]⟩
theorem st_len (a : List Nat) : (st a).length = a.length := by
  show a.toArray.size = a.length
  simp
theorem st_of (z : Str) : z = st z.cps.toList := by
  cases z; simp [st]
theorem st_add (a b : List Nat) : st a ++ st b = st (a ++ b) := by
  show (⟨a.toArray ++ b.toArray⟩ : Str) = ⟨(a ++ b).toArray⟩
  simp
theorem cut_from (a : List Nat) (i : Nat) : cutS (st a) (some (i : Int)) none = st (a.drop i) := by
  show (⟨_⟩ : Str) = ⟨_⟩
  rw [st_len, HT.sIx_nat, HT.sIx_none]
  congr 2
  show ((a.drop (min i a.length)).take (a.length - min i a.length)) = a.drop i
  by_cases h : i ≤ a.length
  · rw [Nat.min_eq_left h, List.take_of_length_le (by simp)]
  · rw [Nat.min_eq_right (by omega)]; simp; omega
theorem cut_to (a : List Nat) (i : Nat) : cutS (st a) none (some (i : Int)) = st (a.take i) := by
  show (⟨_⟩ : Str) = ⟨_⟩
  rw [st_len, HT.sIx_nat, HT.sIx_none]
  congr 2
  show ((a.drop 0).take (min i a.length - 0)) = a.take i
  rw [List.drop_zero, Nat.sub_zero]
  by_cases h : i ≤ a.length
  · rw [Nat.min_eq_left h]
  · rw [Nat.min_eq_right (by omega), List.take_length, List.take_of_length_le (by omega)]
theorem cut_mid (a : List Nat) (i j : Nat) : cutS (st a) (some (i : Int)) (some (j : Int)) = st ((a.drop i).take (j - i)) := by
  show (⟨_⟩ : Str) = ⟨_⟩
  rw [st_len, HT.sIx_nat, HT.sIx_nat]
  congr 2
  show ((a.drop (min i a.length)).take (min j a.length - min i a.length)) = (a.drop i).take (j - i)
  by_cases h : i ≤ a.length
  · rw [Nat.min_eq_left h]
    by_cases h2 : j ≤ a.length
    · rw [Nat.min_eq_left h2]
    · rw [Nat.min_eq_right (by omega : a.length ≤ j), List.take_of_length_le (by simp), List.take_of_length_le (by simp; omega)]
  · rw [Nat.min_eq_right (by omega : a.length ≤ i), List.drop_of_length_le (l := a) (i := a.length) (Nat.le_refl _), List.drop_of_length_le (l := a) (i := i) (by omega)]; simp
/-! ### the longest text with which two begin -/
def lcp : List Nat → List Nat → Nat
  | a :: r, b :: s => if a = b then lcp r s + 1 else 0
  | _, _ => 0
theorem lcp_le1 : ∀ a b : List Nat, lcp a b ≤ a.length
  | [], b => by simp [lcp]
  | a :: r, [] => by simp [lcp]
  | a :: r, b :: s => by
    unfold lcp
    split
    · have := lcp_le1 r s; simp; omega
    · simp
theorem lcp_comm : ∀ a b : List Nat, lcp a b = lcp b a
  | [], [] => rfl
  | [], b :: s => rfl
  | a :: r, [] => rfl
  | a :: r, b :: s => by
    unfold lcp
    by_cases h : a = b
    · subst h; simp [lcp_comm r s]
    · rw [if_neg h, if_neg (fun q => h (Eq.symm q))]
theorem lcp_le2 (a b : List Nat) : lcp a b ≤ b.length := by rw [lcp_comm]; exact lcp_le1 b a
theorem lcp_take : ∀ a b : List Nat, a.take (lcp a b) = b.take (lcp a b)
  | [], [] => rfl
  | [], b :: s => rfl
  | a :: r, [] => rfl
  | a :: r, b :: s => by
    unfold lcp
    by_cases h : a = b
    · subst h; simp [lcp_take r s]
    · simp [h]
theorem lcp_of : ∀ {a b : List Nat} {i : Nat}, a.take i = b.take i → i ≤ a.length → i ≤ b.length → (a.length ≤ i ∨ b.length ≤ i ∨ a[i]? ≠ b[i]?) → lcp a b = i
  | [], b, i, _, h1, _, _ => by simp at h1; subst h1; rfl
  | a :: r, [], i, _, _, h2, _ => by simp at h2; subst h2; rfl
  | a :: r, b :: s, 0, _, _, _, h => by
    have : a ≠ b := by
      intro e; subst e
      rcases h with h | h | h
      · simp at h
      · simp at h
      · simp at h
    unfold lcp; simp [this]
  | a :: r, b :: s, i + 1, h, h1, h2, h3 => by
    simp only [List.take_succ_cons, List.cons.injEq] at h
    obtain ⟨e, h⟩ := h
    subst e
    unfold lcp
    simp only [if_true]
    rw [lcp_of (i := i) h (by simpa using h1) (by simpa using h2) (by simpa using h3)]
theorem take_grow {a b : List Nat} {i : Nat} {c : Nat} (h : a.take i = b.take i) (h1 : a[i]? = some c) (h2 : b[i]? = some c) : a.take (i + 1) = b.take (i + 1) := by
  rw [List.take_add_one, List.take_add_one, h, h1, h2]
/-! ### startswith -/
theorem starts (a b : List Nat) : Txt.startswith (st a) (st b) = decide (b <+: a) := by
  unfold Txt.startswith
  unfold Builtin.Str.subAt
  rw [st_len, st_len]
  have e0 : (a.toArray.extract 0 (0 + b.length) == b.toArray) = (a.take b.length == b) := by simp
  show (decide (0 + b.length ≤ a.length) && (a.toArray.extract 0 (0 + b.length) == b.toArray)) = _
  rw [e0, Nat.zero_add]
  by_cases h : b <+: a
  · have e : a.take b.length = b := (List.prefix_iff_eq_take.mp h).symm
    rw [decide_eq_true h, decide_eq_true h.length_le, e]
    simp
  · rw [decide_eq_false h, Bool.and_eq_false_iff]
    refine .inr (beq_eq_false_iff_ne.mpr fun e => h ?_)
    have e' : a.take b.length = b := by simpa using e
    exact List.prefix_iff_eq_take.mpr e'.symm
/-! ### what the script's cells make -/
def cell (ns : List Int) (k : Int) : Int := (ns[k.toNat]?).getD 0
def signTab : List Nat := ((List.range 95).map (fun k => 32 + k)).filter fun c => c != 37
theorem signTab_len : signTab.length = 94 := by decide
def sgn (c : Int) : Nat := signTab.getD (c % 94).toNat 0
def lcg (n : Int) : Int := (n * 48271 + 11) % 2147483647
def wordGo (c : Int) : Nat → Int × List Nat
  | 0 => (c, [])
  | k + 1 => (lcg (wordGo c k).1, (wordGo c k).2 ++ [sgn (65 + lcg (wordGo c k).1 / 7 % (if c % 2 = 0 then 2 else 94))])
def word (c : Int) (n : Int) : List Nat := (wordGo c n.toNat).2
theorem wordGo_len (c : Int) : ∀ k, (wordGo c k).2.length = k
  | 0 => rfl
  | k + 1 => by simp [wordGo, wordGo_len c k]
theorem word_len (c n : Int) : (word c n).length = n.toNat := wordGo_len c _
theorem sgn_at (c : Int) : signTab[(c % 94).toNat]? = some (sgn c) := by
  have h : (c % 94).toNat < signTab.length := by rw [signTab_len]; omega
  unfold sgn
  rw [List.getD_eq_getElem?_getD, List.getElem?_eq_getElem h]
  rfl
theorem sgn_mem (c : Int) : sgn c ∈ signTab := List.mem_of_getElem? (sgn_at c)
theorem wordGo_mem (c : Int) : ∀ k, ∀ x ∈ (wordGo c k).2, x ∈ signTab
  | 0, x, h => by simp [wordGo] at h
  | k + 1, x, h => by
    simp only [wordGo, List.mem_append, List.mem_singleton] at h
    rcases h with h | h
    · exact wordGo_mem c k x h
    · rw [h]; exact sgn_mem _
theorem word_mem (c n : Int) : ∀ x ∈ word c n, x ∈ signTab := wordGo_mem c _
end RT

namespace RT
open PySem PySem.Spec PyProof.Rows L2
/-- a def of the top that lets no exception out -/
structure Has (P : Program) (w : World) (K : PySem.W.Frag) (mg : Str → Option Value) (base : Heap) (x : Str) (ps : List Str) (k : Nat) (sp : Sp) : Prop where
  ex : ∃ (f : Addr) (fd : FuncData), FnOk P w K mg base CX0 k f fd ps sp ∧ Binds K fd ps [] ∧ PySem.W.keepIn K (.ref f) = true ∧ mg x = some (.ref f)
theorem Has.mono {P : Program} {w : World} {K : PySem.W.Frag} {mg : Str → Option Value} {base : Heap} {x : Str} {ps : List Str} {j k : Nat} {sp : Sp} (h : Has P w K mg base x ps j sp) (hl : j ≤ k) : Has P w K mg base x ps k sp := by
  obtain ⟨f, fd, G, b, kp, m⟩ := h.ex
  exact ⟨f, fd, G.mono hl, b, kp, m⟩
section
variable {X : Cx} {x : Str} {ps : List Str} {k j : Nat} {sp : Sp} {e : Expr} {es : List Expr} {t : TA} {p pos : Pos}
theorem pe_has (h : Has X.prog X.w X.K X.mg X.base x ps k sp) (hr : Room j X.A) (hl : k ≤ j) (ha : PA X (e :: es) t) (hg : Gl X x := by rfl)
    (noDebug : (x == ("__debug__" : Str)) = false := by decide)
    (noStar : starEach (e :: es) X.env = (false, eval e X.env) :: starEach es X.env := by rfl)
    (noStars : (backTo pos (starEach es X.env)).any (·.1) = false := by rfl) :
    PE X (.Call (.Name x p) (e :: es) [] pos) (tCall sp [] E0 t) := by
  obtain ⟨f, fd, G, b, kp, m⟩ := h.ex
  exact pe_call G (hr.mono hl) hg m kp b .nil pass0 ha noDebug noStar noStars
end
theorem same_new {H : Hp} {p : Addr} (free : H p = none) (o : HO) : Same H (upd H p o) := fun b u there => (upd_ne (ne_of_none there free)).trans there
theorem smallZ {n : Nat} (h : n ≤ 100000) : n ≤ sizeLine := Nat.le_trans h (by decide)
/-! ### promises -/
def spCell (K : PySem.W.Frag) : Sp := fun vs H Q _ => ∃ (a : Addr) (ns : List Int) (k : Int), vs = [.ref a, .int k] ∧ SqL K H a (ns.map V.int) ∧ 0 ≤ k ∧ Q (.int (cell ns k)) H
def spSign : Sp := fun vs H Q _ => ∃ c : Int, vs = [.int c] ∧ Q (.str (st [sgn c])) H
def spWord : Sp := fun vs H Q _ => ∃ c n : Int, vs = [.int c, .int n] ∧ -1000 ≤ n ∧ n ≤ 1000 ∧ ∀ H', Same H H' → Q (.str (st (word c n))) H'
def spSame : Sp := fun vs H Q _ => ∃ a b : List Nat, vs = [.str (st a), .str (st b)] ∧ a.length ≤ 1000 ∧ b.length ≤ 1000 ∧ Q (.int (lcp a b : Nat)) H
def spCommon : Sp := fun vs H Q _ => ∃ a b : List Nat, vs = [.str (st a), .str (st b)] ∧ a.length ≤ 1000 ∧ b.length ≤ 1000 ∧ ∀ H', Same H H' → Q (.str (st (a.take (lcp a b)))) H'
def spRest : Sp := fun vs H Q _ => ∃ a b : List Nat, vs = [.str (st a), .str (st b)] ∧ a.length ≤ 1000 ∧ b.length ≤ 1000 ∧ Q (if b <+: a then .str (st (a.drop b.length)) else .non) H
/-- what law(script) promises -/
def spLaw (K : PySem.W.Frag) : Sp := fun vs H Q _ =>
  ∃ (a : Addr) (ns : List Int), vs = [.ref a] ∧ SqL K H a (ns.map V.int) ∧
    ns.length ≤ 63 ∧ ∀ H', Q (.bl true) H'
abbrev psCell : List Str := ["_law_script", "_law_k"]
abbrev psWord : List Str := ["_law_cell", "_law_size"]
end RT
namespace RT
open PySem PySem.Spec PyProof.Rows L2
/-- a def of the top as it stands -/
def DefAt (K : PySem.W.Frag) (mg : Str → Option Value) (x : Str) (s : Stmt) (f : Addr) (fd : FuncData) : Prop := Fun K x x s f fd ∧ mg x = some (.ref f)
theorem defAt {K : PySem.W.Frag} {h : Heap} {mg : Str → Option Value} {x : Str} {s : Stmt} {f : Addr} {od an : Option Addr} {sl : Array (Option Value)} {oc kV dc pm cd ct : Value} (X : K.In h) (G : h.Ns mainGlobals mg)
    (a : PySem.W.nsIn K mainGlobals x = some (some (.ref f))) (l : K.lookup f = some ⟨oc, od, .func (PySem.W.fnOf x x (defArgs s) (defBody s) (defScope s) .none kV dc pm an cd ct), sl⟩) (c : PySem.W.codeIn K cd x = true) (k : PySem.W.keepIn K (.ref f) = true) :
    ∃ fd, DefAt K mg x s f fd := ⟨_, fun_mk (st := s) l c k, PySem.W.mg_of X G a⟩
theorem DefAt.has {P : Program} {w : World} {K : PySem.W.Frag} {mg : Str → Option Value} {base : Heap} {x : Str} {s : Stmt} {f : Addr} {fd : FuncData} {ps : List Str} {k : Nat} {sp : Sp} (D : DefAt K mg x s f fd) (b : Binds K fd ps []) (F : FnOk P w K mg base CX0 k f fd ps sp) : Has P w K mg base x ps k sp :=
  ⟨f, fd, F, b, D.1.kp, D.2⟩
end RT

/-! trees, data in the heap -/
namespace RT
open PySem PySem.Spec PyProof.Rows L2
inductive Tr where
  | leaf (t : List Nat) (n : Int)
  | fork (t : List Nat) (bs : List (List Nat × Tr))
mutual
def Tr.toD : Tr → PyData
  | .leaf t n => .tuple [.str (Str.ofString "leaf"), .str (st t), .int n]
  | .fork t bs => .tuple [.str (Str.ofString "fork"), .str (st t), .tuple (toDs bs)]
def toDs : List (List Nat × Tr) → List PyData
  | [] => []
  | (s, t) :: r => .tuple [.str (st s), t.toD] :: toDs r
end
/-- a tree, or None -/
def oD : Option Tr → PyData
  | none => .none
  | some t => t.toD
theorem toDs_map : ∀ bs : List (List Nat × Tr), toDs bs = bs.map fun b => PyData.tuple [.str (st b.1), b.2.toD]
  | [] => rfl
  | (s, t) :: r => by simp [toDs, toDs_map r]
/-! ### data that stands -/
theorem sameT {K : PySem.W.Frag} {H H' : Hp} {a : Addr} {xs : List V} (e : Same H H') (h : SqT K H a xs) : SqT K H' a xs := by
  rcases h with (h | ⟨o, h⟩) | h
  · exact .inl (.inl (e _ _ h))
  · exact .inl (.inr ⟨o, e _ _ h⟩)
  · exact .inr h
mutual
theorem Dp_same {K : PySem.W.Frag} {H H' : Hp} (e : Same H H') : ∀ {v : V} {d : PyData}, Dp K H v d → Dp K H' v d
  | _, _, .non => .non
  | _, _, .bl b => .bl b
  | _, _, .int i => .int i
  | _, _, .str x => .str x
  | _, _, .lst s a => .lst (e.seq s) (DpAll_same e a)
  | _, _, .tup s a => .tup (sameT e s) (DpAll_same e a)
theorem DpAll_same {K : PySem.W.Frag} {H H' : Hp} (e : Same H H') : ∀ {vs : List V} {ds : List PyData}, DpAll K H vs ds → DpAll K H' vs ds
  | _, _, .nil => .nil
  | _, _, .cons a r => .cons (Dp_same e a) (DpAll_same e r)
end
section
variable {K : PySem.W.Frag} {H H' : Hp} {v : V} {vs ws : List V} {d : PyData} {ds es : List PyData}
theorem Dp_non (h : Dp K H v .none) : v = .non := by cases h; rfl
theorem Dp_int {i : Int} (h : Dp K H v (.int i)) : v = .int i := by cases h; rfl
theorem Dp_str {x : Str} (h : Dp K H v (.str x)) : v = .str x := by cases h; rfl
theorem Dp_tup (h : Dp K H v (.tuple ds)) : ∃ a xs, v = .ref a ∧ SqT K H a xs ∧ DpAll K H xs ds := by
  cases h with
  | tup s r => exact ⟨_, _, rfl, s, r⟩
theorem Dp_lst (h : Dp K H v (.list ds)) : ∃ a xs, v = .ref a ∧ SqL K H a xs ∧ DpAll K H xs ds := by
  cases h with
  | lst s r => exact ⟨_, _, rfl, s, r⟩
theorem DpAll_len : ∀ {vs : List V} {ds : List PyData}, DpAll K H vs ds → vs.length = ds.length
  | _, _, .nil => rfl
  | _, _, .cons _ r => congrArg (· + 1) (DpAll_len r)
theorem DpAll_get : ∀ {vs : List V} {ds : List PyData} {i : Nat} {d : PyData}, DpAll K H vs ds → ds[i]? = some d → ∃ v, vs[i]? = some v ∧ Dp K H v d
  | _, _, _, _, .nil, h => by simp at h
  | _, _, 0, _, .cons a r, h => ⟨_, rfl, by have := Option.some.inj h; rw [← this]; exact a⟩
  | _, _, i + 1, _, .cons a r, h => DpAll_get (i := i) r (by simpa using h)
theorem DpAll_get' : ∀ {vs : List V} {ds : List PyData} {i : Nat} {v : V}, DpAll K H vs ds → vs[i]? = some v → ∃ d, ds[i]? = some d ∧ Dp K H v d
  | _, _, _, _, .nil, h => by simp at h
  | _, _, 0, _, .cons a r, h => ⟨_, rfl, by have := Option.some.inj h; rw [← this]; exact a⟩
  | _, _, i + 1, _, .cons a r, h => DpAll_get' (i := i) r (by simpa using h)
theorem DpAll_app : ∀ {vs : List V} {ds : List PyData}, DpAll K H vs ds → DpAll K H ws es → DpAll K H (vs ++ ws) (ds ++ es)
  | _, _, .nil, h => h
  | _, _, .cons a r, h => .cons a (DpAll_app r h)
theorem DpAll_cons (h : DpAll K H vs (d :: ds)) : ∃ x xs, vs = x :: xs ∧ Dp K H x d ∧ DpAll K H xs ds := by
  cases h with
  | cons a r => exact ⟨_, _, rfl, a, r⟩
theorem DpAll_nil (h : DpAll K H vs []) : vs = [] := by cases h; rfl
/-- a tuple of three, looked into -/
theorem Dp_three {a b c : PyData} (h : Dp K H v (.tuple [a, b, c])) : ∃ p x y z, v = .ref p ∧ SqT K H p [x, y, z] ∧ Dp K H x a ∧ Dp K H y b ∧ Dp K H z c := by
  obtain ⟨p, xs, rfl, hs, r⟩ := Dp_tup h
  obtain ⟨x, _, rfl, ha, r⟩ := DpAll_cons r
  obtain ⟨y, _, rfl, hb, r⟩ := DpAll_cons r
  obtain ⟨z, _, rfl, hc, r⟩ := DpAll_cons r
  cases DpAll_nil r
  exact ⟨p, x, y, z, rfl, hs, ha, hb, hc⟩
theorem Dp_two {a b : PyData} (h : Dp K H v (.tuple [a, b])) : ∃ p x y, v = .ref p ∧ SqT K H p [x, y] ∧ Dp K H x a ∧ Dp K H y b := by
  obtain ⟨p, xs, rfl, hs, r⟩ := Dp_tup h
  obtain ⟨x, _, rfl, ha, r⟩ := DpAll_cons r
  obtain ⟨y, _, rfl, hb, r⟩ := DpAll_cons r
  cases DpAll_nil r
  exact ⟨p, x, y, rfl, hs, ha, hb⟩
/-! ### types -/
def tyN : PyData → String
  | .none => "NoneType"
  | .bool _ => "bool"
  | .int _ => "int"
  | .str _ => "str"
  | .list _ => "list"
  | .tuple _ => "tuple"
  | .dict _ => "dict"
theorem tyx_of (h : Dp K H v d) : TyX K H v (.type (tyN d)) := by
  cases h with
  | non => exact .base .non
  | bl b => exact .base (.bl b)
  | int i => exact .base (.int i)
  | str x => exact .base (.str x)
  | lst s _ =>
    rcases s with (s | ⟨o, s⟩) | ⟨o, its, n, hk, hc, _⟩
    · exact .base (.lst s)
    · exact .base (.frz s)
    · exact .kList hk hc
  | tup s _ =>
    rcases s with (s | ⟨o, s⟩) | ⟨o, its, n, hk, hc, _⟩
    · exact .base (.tup s)
    · exact .fTuple s
    · exact .kTuple hk hc
/-- isinstance(x, T) of such data -/
theorem isi_of {T : String} {b : Bool} {Q : VK} (h : Dp K H v d) (e : kitB (tyN d) T = some b) (q : Q (.bl b) H) : rIsi K [v, .ty T] H Q :=
  ⟨v, .ty T, .type (tyN d), .type T, b, rfl, .ty T, tyx_of h, kit_ty e, q⟩
end
/-! ### data without truth values -/
mutual
def plain : PyData → Bool
  | .none => true
  | .int _ => true
  | .str _ => true
  | .list xs => decide (xs.length ≤ 10000) && plains xs
  | .tuple xs => decide (xs.length ≤ 10000) && plains xs
  | _ => false
def plains : List PyData → Bool
  | [] => true
  | x :: r => plain x && plains r
end
mutual
def dep : PyData → Nat
  | .list xs => deps xs + 1
  | .tuple xs => deps xs + 1
  | _ => 1
def deps : List PyData → Nat
  | [] => 0
  | x :: r => max (dep x) (deps r)
end
theorem plains_get : ∀ {ds : List PyData} {i : Nat} {d : PyData}, plains ds = true → ds[i]? = some d → plain d = true
  | [], _, _, _, h => by simp at h
  | x :: r, 0, d, h, e => by simp [plains] at h e; rw [← e]; exact h.1
  | x :: r, i + 1, d, h, e => by simp [plains] at h; exact plains_get (i := i) h.2 (by simpa using e)
theorem deps_get : ∀ {ds : List PyData} {i : Nat} {d : PyData}, ds[i]? = some d → dep d ≤ deps ds
  | [], _, _, h => by simp at h
  | x :: r, 0, d, e => by simp at e; subst e; exact Nat.le_max_left _ _
  | x :: r, i + 1, d, e => Nat.le_trans (deps_get (i := i) (by simpa using e)) (Nat.le_max_right _ _)
theorem dep_pos (d : PyData) : 1 ≤ dep d := by cases d <;> simp [dep]
mutual
def Tr.many : Tr → Nat
  | .leaf _ _ => 1
  | .fork _ bs => manys bs + 1
def manys : List (List Nat × Tr) → Nat
  | [] => 0
  | (_, t) :: r => t.many + manys r
end
theorem Tr.many_pos (t : Tr) : 1 ≤ t.many := by cases t <;> simp [Tr.many]
theorem manys_len : ∀ bs : List (List Nat × Tr), bs.length ≤ manys bs
  | [] => by simp
  | (s, t) :: r => by have := manys_len r; have := t.many_pos; simp [manys]; omega
mutual
theorem Tr.plain : ∀ t : Tr, t.many ≤ 10000 → RT.plain t.toD = true
  | .leaf t n, _ => by simp [Tr.toD, RT.plain, plains]
  | .fork t bs, h => by
    have h1 := manys_len bs
    have h2 : manys bs ≤ 10000 := by simp [Tr.many] at h; omega
    have h3 : (toDs bs).length ≤ 10000 := by rw [toDs_map, List.length_map]; omega
    simp [Tr.toD, RT.plain, plains, toDs_plain bs h2, h3]
theorem toDs_plain : ∀ bs : List (List Nat × Tr), manys bs ≤ 10000 → plains (toDs bs) = true
  | [], _ => rfl
  | (s, t) :: r, h => by
    have h1 : t.many ≤ 10000 := by simp [manys] at h; omega
    have h2 : manys r ≤ 10000 := by simp [manys] at h; omega
    simp [toDs, RT.plain, plains, Tr.plain t h1, toDs_plain r h2]
end
mutual
def Tr.deep : Tr → Nat
  | .leaf _ _ => 1
  | .fork _ bs => deeps bs + 1
def deeps : List (List Nat × Tr) → Nat
  | [] => 0
  | (_, t) :: r => max t.deep (deeps r)
end
theorem Tr.deep_pos (t : Tr) : 1 ≤ t.deep := by cases t <;> simp [Tr.deep]
mutual
/-- the data's depth by the tree's -/
theorem Tr.dep_le : ∀ t : Tr, dep t.toD ≤ 3 * t.deep
  | .leaf t n => by simp [Tr.toD, dep, deps, Tr.deep]
  | .fork t bs => by
    have := toDs_dep bs
    simp [Tr.toD, dep, deps, Tr.deep]
    omega
theorem toDs_dep : ∀ bs : List (List Nat × Tr), deps (toDs bs) ≤ 3 * deeps bs + 1
  | [] => by simp [toDs, deps]
  | (s, t) :: r => by
    have h0 := t.deep_pos
    have h1 := Tr.dep_le t
    have h2 := toDs_dep r
    simp [toDs, deps, dep, deeps]
    omega
end
/-! ### promises -/
def spWhole (K : PySem.W.Frag) : Sp := fun vs H Q _ => ∃ (v : V) (i : Int), vs = [v] ∧ Dp K H v (.int i) ∧ Q (.bl true) H
def spAlike (K : PySem.W.Frag) (n : Nat) : Sp := fun vs H Q _ => ∃ (v u : V) (d : PyData), vs = [v, u] ∧ Dp K H v d ∧ Dp K H u d ∧ plain d = true ∧ dep d ≤ n ∧ ∀ H', Same H H' → Q (.bl true) H'
/-- what is made is the data D, at a new place or none -/
def gives (K : PySem.W.Frag) (H : Hp) (D : PyData) (Q : VK) : Prop := ∀ (v : V) (H' : Hp), Same H H' → Dp K H' v D → Q v H'
def numGo (c : Int) : Nat → Int × Int
  | 0 => (c, 0)
  | k + 1 => (lcg (numGo c k).1, (numGo c k).2 * 10 + lcg (numGo c k).1 / 7 % 10)
def numOf (c : Int) : Int :=
  if c % 5 > 1 then c / 5 % 39 - 19 else
    (if c / 5 % 2 = 0 then 1 else -1) * (numGo c (if c % 5 = 0 then 60 else 1 + c / 10 % 60).toNat).2
def spNum : Sp := fun vs H Q _ => ∃ c : Int, vs = [.int c] ∧ ∀ H', Same H H' → Q (.int (numOf c)) H'
end RT
namespace RT
open PySem PySem.Spec PyProof.Rows L2
def Tr.text : Tr → List Nat
  | .leaf t _ => t
  | .fork t _ => t
/-- the tree of the names with b ahead of each -/
def Tr.ahd (b : List Nat) : Tr → Tr
  | .leaf t n => .leaf (b ++ t) n
  | .fork t bs => .fork (b ++ t) bs
def spAhead (K : PySem.W.Frag) : Sp := fun vs H Q _ => ∃ (v : V) (o : Option Tr) (b : List Nat), vs = [v, .str (st b)] ∧ Dp K H v (oD o) ∧ b.length ≤ 5000 ∧ (∀ t, o = some t → t.text.length ≤ 1000) ∧ gives K H (oD (o.map (Tr.ahd b))) Q
/-- a tree's data, looked into -/
theorem Dp_tree {K : PySem.W.Frag} {H : Hp} {v : V} {t : Tr} (h : Dp K H v t.toD) : ∃ p x z, v = .ref p ∧ SqT K H p [x, .str (st t.text), z] ∧
    ((∃ n, t = .leaf t.text n ∧ x = .str (Str.ofString "leaf") ∧ z = .int n) ∨ ∃ bs, t = .fork t.text bs ∧ x = .str (Str.ofString "fork") ∧ Dp K H z (.tuple (toDs bs))) := by
  cases t with
  | leaf t n =>
    obtain ⟨p, x, y, z, rfl, hs, h1, h2, h3⟩ := Dp_three h
    cases Dp_str h1
    cases Dp_str h2
    cases Dp_int h3
    exact ⟨p, _, _, rfl, hs, .inl ⟨n, rfl, rfl, rfl⟩⟩
  | fork t bs =>
    obtain ⟨p, x, y, z, rfl, hs, h1, h2, h3⟩ := Dp_three h
    cases Dp_str h1
    cases Dp_str h2
    exact ⟨p, _, _, rfl, hs, .inr ⟨bs, rfl, rfl, h3⟩⟩
/-- a pair, a triple laid anew -/
theorem Dp_new {K : PySem.W.Frag} {H : Hp} {p : Addr} {xs : List V} {ds : List PyData} (np : H p = none) (h : DpAll K H xs ds) : Dp K (upd H p (.tup xs)) (.ref p) (.tuple ds) :=
  .tup (SqT.of upd_same) (DpAll_same (same_new np _) h)
end RT
namespace RT
open PySem PySem.Spec PyProof.Rows L2
/-! ### what lists leave alone -/
mutual
def nolist : PyData → Bool
  | .list _ => false
  | .tuple xs => nolists xs
  | _ => true
def nolists : List PyData → Bool
  | [] => true
  | x :: r => nolist x && nolists r
end
/-- all that was tracked is as it was, but for lists -/
def Keep (H H' : Hp) : Prop := ∀ b o, H b = some o → (∃ ys, o = .lst ys) ∨ H' b = some o
theorem keep_of {H H' : Hp} (s : Same H H') : Keep H H' := fun b o e => .inr (s b o e)
theorem Keep.trans {H H1 H2 : Hp} (a : Keep H H1) (b : Keep H1 H2) : Keep H H2 := fun c o e => by
  rcases a c o e with h | h
  · exact .inl h
  · exact b c o h
theorem keep_upd {H : Hp} {L : Addr} {xs : List V} (h : H L = some (.lst xs)) (o : HO) : Keep H (upd H L o) := fun b u e => by
  by_cases hb : b = L
  · subst hb; rw [h] at e; exact .inl ⟨xs, (Option.some.inj e).symm⟩
  · exact .inr (by rw [upd_ne hb]; exact e)
mutual
theorem Dp_keep {K : PySem.W.Frag} {H H' : Hp} (e : Keep H H') : ∀ {v : V} {d : PyData}, nolist d = true → Dp K H v d → Dp K H' v d
  | _, _, _, .non => .non
  | _, _, _, .bl b => .bl b
  | _, _, _, .int i => .int i
  | _, _, _, .str x => .str x
  | _, _, h, .lst s a => by simp [nolist] at h
  | _, _, h, .tup s a => .tup (by
      rcases s with (s | ⟨o, s⟩) | s
      · rcases e _ _ s with ⟨_, z⟩ | z
        · cases z
        · exact .inl (.inl z)
      · rcases e _ _ s with ⟨_, z⟩ | z
        · cases z
        · exact .inl (.inr ⟨o, z⟩)
      · exact .inr s) (DpAll_keep e (by simpa [nolist] using h) a)
theorem DpAll_keep {K : PySem.W.Frag} {H H' : Hp} (e : Keep H H') : ∀ {vs : List V} {ds : List PyData}, nolists ds = true → DpAll K H vs ds → DpAll K H' vs ds
  | _, _, _, .nil => .nil
  | _, _, h, .cons a r => by
    simp only [nolists, Bool.and_eq_true] at h
    have h1 := h
    exact .cons (Dp_keep e h1.1 a) (DpAll_keep e h1.2 r)
end
mutual
theorem Tr.nolist : ∀ t : Tr, RT.nolist t.toD = true
  | .leaf t n => rfl
  | .fork t bs => by simp [Tr.toD, RT.nolist, nolists, toDs_nolist bs]
theorem toDs_nolist : ∀ bs : List (List Nat × Tr), nolists (toDs bs) = true
  | [] => rfl
  | (s, t) :: r => by simp [toDs, RT.nolist, nolists, Tr.nolist t, toDs_nolist r]
end
theorem toDs_app : ∀ a b : List (List Nat × Tr), toDs (a ++ b) = toDs a ++ toDs b
  | [], b => rfl
  | (s, t) :: r, b => by simp [toDs, toDs_app r b]
theorem oD_nolist (o : Option Tr) : RT.nolist (oD o) = true := by
  cases o with
  | none => rfl
  | some t => exact t.nolist
end RT

/-! sorted of a list of rows (text, number) -/
namespace RT
open PySem PySem.Spec PyProof.Rows L2
abbrev Row := List Nat × Int
def rowD (r : Row) : PyData := .tuple [.str (st r.1), .int r.2]
theorem rowD_lt {p q : Row} (h : p.1 ≠ q.1) : PySem.W.dataLt (rowD p) (rowD q) = decide (p.1 < q.1) := by
  unfold PySem.W.dataLt rowD
  simp only [PySem.W.keyToks, PySem.W.keyToksAll, List.cons_append, List.nil_append]
  rw [PyProof.Rows.lex_self, PyProof.Rows.lex_diff (fun e => h (by injection e))]
  show decide ((st p.1).cps.toList < (st q.1).cps.toList) = _
  simp
theorem le_lt {p q : Row} (h : PySem.W.dataLe false rowD p q = true) (hn : p.1 ≠ q.1) : p.1 < q.1 := by
  have e : (!PySem.W.dataLt (rowD q) (rowD p)) = true := h
  rw [rowD_lt (fun z => hn z.symm)] at e
  have e2 : ¬ q.1 < p.1 := by simpa using e
  refine Decidable.byContradiction fun z => hn ?_
  exact List.le_antisymm (List.not_lt.mp e2) (List.not_lt.mp z)
/-- the rows are told apart by their names -/
def Names (rs : List Row) : Prop := (rs.map (·.1)).Nodup
def Up (rs : List Row) : Prop := rs.Pairwise fun p q => p.1 < q.1
def rSortedR (K : PySem.W.Frag) : List V → Hp → VK → Prop := fun vs H Q => ∃ (a : Addr) (xs : List V) (rs : List Row), vs = [.ref a] ∧ SqL K H a xs ∧ DpAll K H xs (rs.map rowD) ∧ rs.length ≤ 10000 ∧ Names rs ∧
  ∀ (ys : List V) (es : List Row) (p : Addr), es.Perm rs → Up es → DpAll K H ys (es.map rowD) → H p = none → Q (.ref p) (upd H p (.lst ys))
section
variable {X : Cx}
theorem each_up {K : PySem.W.Frag} {H : Hp} {R : Value → Row → Prop} (h : ∀ u r, R u r → ∃ x, RelV x u ∧ Dp K H x (rowD r)) : ∀ {us : List Value} {rs : List Row}, PySem.W.EachIs R us rs → ∃ ys, Vals ys us ∧ DpAll K H ys (rs.map rowD)
  | _, _, .nil => ⟨[], .nil, .nil⟩
  | _, _, .cons a r => by
    obtain ⟨x, h1, h2⟩ := h _ _ a
    obtain ⟨ys, h3, h4⟩ := each_up h r
    exact ⟨x :: ys, .cons h1 h3, .cons h2 h4⟩
theorem each_dn {K : PySem.W.Frag} {H : Hp} : ∀ {xs : List V} {us : List Value} {rs : List Row}, Vals xs us → DpAll K H xs (rs.map rowD) → PySem.W.EachIs (fun u r => ∃ x, RelV x u ∧ Dp K H x (rowD r)) us rs
  | _, _, [], .nil, _ => .nil
  | _, _, [], .cons _ _, h => by cases h
  | _, _, _ :: _, .nil, h => by cases h
  | _, _, r :: rs, .cons a t, h => by
    cases h with
    | cons h1 h2 => exact .cons ⟨_, a, h1⟩ (each_dn t h2)
theorem cr_sortedR (hu : X.A.units + 100 < cLine) : CallR X (.builtin "sorted") (rSortedR X.K) := by
  intro pins s σ H vs us Q I r h
  obtain ⟨a, xs, rs, rfl, hs, hd, hl, hn, q⟩ := h
  obtain ⟨its, rv, pl, hz⟩ := I.list hs
  rw [Vals.ref1 r]
  have e := each_dn rv hd
  have er : PySem.W.EachIs (fun v b => ∃ as, Reads s.heap v (rowD b) as) its rs := e.mono fun u b ⟨x, h1, h2⟩ => Dp.reads I (rowD b) x u h2 h1
  refine PySem.W.sorted_data (enc := rowD) pl.isList e er ?_ (.inl fun d hd => ?_) (Nat.le_trans hl (by decide)) (fun b _ => ?_) fun out ho eo => ?_
  · intro d hd d' hd'
    obtain ⟨b, _, rfl⟩ := List.mem_map.mp hd
    obtain ⟨c, _, rfl⟩ := List.mem_map.mp hd'
    rfl
  · obtain ⟨b, _, rfl⟩ := List.mem_map.mp hd
    exact ⟨_, _, rfl⟩
  · have hd : (rowD b).depth = 1 := by simp [rowD, PyData.depth, PyData.depthAll]
    omega
  · obtain ⟨ys, v1, d1⟩ := each_up (fun u r h => h) eo
    obtain ⟨ep, at'⟩ := PyProof.Rows.sortedAll_at s.heap its out.toArray
    have hp : (rs.mergeSort (PySem.W.dataLe false rowD)).Perm rs := List.mergeSort_perm _ _
    have hys : ys.length = rs.length := by
      have h1 := DpAll_len d1
      rw [List.length_map, hp.length_eq] at h1
      exact h1
    have up : Up (rs.mergeSort (PySem.W.dataLe false rowD)) := by
      have T := PySem.W.sortLe_total (PyProof.Rows.listOrd PyProof.Rows.itemOrd) false fun b : Row => PySem.W.keyToks (rowD b)
      have pw : (rs.mergeSort (PySem.W.dataLe false rowD)).Pairwise fun p q => PySem.W.dataLe false rowD p q = true := List.pairwise_mergeSort T.trans (fun a b => by rcases T.total a b with h | h <;> simp [h]) rs
      have nd : (rs.mergeSort (PySem.W.dataLe false rowD)).Pairwise fun p q => p.1 ≠ q.1 := by
        have : ((rs.mergeSort (PySem.W.dataLe false rowD)).map (·.1)).Nodup := (hp.map _).nodup_iff.mpr hn
        exact List.pairwise_map.mp this
      exact (pw.and nd).imp fun ⟨h1, h2⟩ => le_lt h1 h2
    refine ⟨.ref _, upd H (s.heap.objs.size + 1) (.lst ys), I.laid (t' := s.toks) (fun _ _ => PyProof.Rows.sortedAll_old) (Nat.le_succ _) ⟨by rw [hys]; exact Nat.le_trans hl (by decide), out, ep, v1, at'⟩, rfl, q ys _ _ hp up d1 (I.hok.fresh (Nat.le_succ _))⟩
end
end RT

/-! the one tree of some rows -/
namespace RT
open PySem
/-! ### the order -/
theorem lt_nil (a : List Nat) : ¬ a < [] := List.not_lt_nil a
theorem nil_lt {b : List Nat} (h : b ≠ []) : [] < b := by
  cases b with
  | nil => exact absurd rfl h
  | cons x r => exact List.nil_lt_cons x r
theorem cons_lt {a b : Nat} {r s : List Nat} : a :: r < b :: s ↔ a < b ∨ (a = b ∧ r < s) := List.cons_lt_cons_iff
theorem app_lt (p : List Nat) {a b : List Nat} : p ++ a < p ++ b ↔ a < b := by
  induction p with
  | nil => rfl
  | cons x r ih => rw [List.cons_append, List.cons_append, cons_lt, ih]; simp
theorem lt_irr (a : List Nat) : ¬ a < a := List.lt_irrefl a
theorem lt_trans {a b c : List Nat} (h : a < b) (h2 : b < c) : a < c := List.lt_trans h h2
theorem lt_tri {a b : List Nat} (h : ¬ a < b) (h2 : ¬ b < a) : a = b := List.le_antisymm (List.not_lt.mp h2) (List.not_lt.mp h)
/-- signs: what is ahead by the sign is ahead -/
theorem sign_lt {s t : List Nat} (hs : s.length ≤ 1) (ht : t.length ≤ 1) (h : s < t) (hn : s = [] → x = []) : s ++ x < t ++ y := by
  match s, t, hs, ht, h, hn with
  | [], [], _, _, h, _ => exact absurd h (lt_irr _)
  | [], [d], _, _, _, hn => rw [hn rfl]; exact List.nil_lt_cons _ _
  | [c], [], _, _, h, _ => exact absurd h (lt_nil _)
  | [c], [d], _, _, h, _ =>
    rcases cons_lt.mp h with h | ⟨_, h⟩
    · exact cons_lt.mpr (.inl h)
    · exact absurd h (lt_irr _)
/-- two risen lists of the same rows are one -/
theorem up_ext : ∀ {a b : List Row}, Up a → Up b → (∀ r, r ∈ a ↔ r ∈ b) → a = b
  | [], [], _, _, _ => rfl
  | [], y :: s, _, _, h => by have := (h y).mpr (List.mem_cons_self ..); simp at this
  | x :: r, [], _, _, h => by have := (h x).mp (List.mem_cons_self ..); simp at this
  | x :: r, y :: s, ha, hb, h => by
    obtain ⟨a1, a2⟩ := List.pairwise_cons.mp ha
    obtain ⟨b1, b2⟩ := List.pairwise_cons.mp hb
    have e : x = y := by
      rcases List.mem_cons.mp ((h x).mp (List.mem_cons_self ..)) with e | m1
      · exact e
      rcases List.mem_cons.mp ((h y).mpr (List.mem_cons_self ..)) with e | m2
      · exact e.symm
      exact absurd (lt_trans (a1 y m2) (b1 x m1)) (lt_irr _)
    subst e
    have e2 : r = s := up_ext a2 b2 fun z => by
      constructor
      · intro hz
        rcases List.mem_cons.mp ((h z).mp (List.mem_cons_of_mem _ hz)) with e | m
        · subst e; exact absurd (a1 z hz) (lt_irr _)
        · exact m
      · intro hz
        rcases List.mem_cons.mp ((h z).mpr (List.mem_cons_of_mem _ hz)) with e | m
        · subst e; exact absurd (b1 z hz) (lt_irr _)
        · exact m
    rw [e2]
theorem up_inj {a : List Row} (h : Up a) {x : List Nat} {n m : Int} (h1 : (x, n) ∈ a) (h2 : (x, m) ∈ a) : n = m := by
  induction a with
  | nil => simp at h1
  | cons y r ih =>
    obtain ⟨a1, a2⟩ := List.pairwise_cons.mp h
    rcases List.mem_cons.mp h1 with e1 | m1
    · rcases List.mem_cons.mp h2 with e2 | m2
      · rw [← e1] at e2; injection e2 with _ e2; exact e2.symm
      · exact absurd (a1 _ m2) (by rw [← e1]; exact lt_irr _)
    · rcases List.mem_cons.mp h2 with e2 | m2
      · exact absurd (a1 _ m1) (by rw [← e2]; exact lt_irr _)
      · exact ih a2 m1 m2
theorem up_names {a : List Row} (h : Up a) : Names a := by
  refine List.pairwise_map.mpr (h.imp fun h e => ?_)
  rw [e] at h
  exact lt_irr _ h
/-! ### a tree's rows -/
def pre (p : List Nat) (r : Row) : Row := (p ++ r.1, r.2)
mutual
def Tr.rws : Tr → List Row
  | .leaf t n => [(t, n)]
  | .fork t bs => (rwss bs).map (pre t)
def rwss : List (List Nat × Tr) → List Row
  | [] => []
  | (s, t) :: r => t.rws.map (pre s) ++ rwss r
end
mutual
/-- the form that the document tells -/
def Wf : Tr → Prop
  | .leaf _ _ => True
  | .fork _ bs => 2 ≤ bs.length ∧ WfB bs
def WfB : List (List Nat × Tr) → Prop
  | [] => True
  | (s, t) :: r => s.length ≤ 1 ∧ (s = [] → ∃ n, t = .leaf [] n) ∧ Wf t ∧ (∀ b ∈ r, s < b.1) ∧ WfB r
end
section
variable {P : Tr → Prop} (hl : ∀ t n, P (.leaf t n)) (hf : ∀ t bs, (∀ b ∈ bs, P b.2) → P (.fork t bs))
include hl hf
mutual
theorem Tr.ind : ∀ t, P t
  | .leaf t n => hl t n
  | .fork t bs => hf t bs (Trs_ind bs)
theorem Trs_ind : ∀ (bs : List (List Nat × Tr)), ∀ b ∈ bs, P b.2
  | [], _, h => by simp at h
  | (s, t) :: r, b, h => by
    rcases List.mem_cons.mp h with e | m
    · rw [e]; exact Tr.ind t
    · exact Trs_ind r b m
end
end
/-- a branch as it should be -/
def OkB (b : List Nat × Tr) : Prop := b.1.length ≤ 1 ∧ (b.1 = [] → ∃ n, b.2 = .leaf [] n) ∧ Wf b.2
theorem wfB_iff : ∀ {bs : List (List Nat × Tr)}, WfB bs ↔ (∀ b ∈ bs, OkB b) ∧ bs.Pairwise fun a b => a.1 < b.1
  | [] => by simp [WfB]
  | (s, t) :: r => by
    have ih := wfB_iff (bs := r)
    simp only [WfB, ih, List.mem_cons, List.pairwise_cons]
    constructor
    · rintro ⟨h1, h2, h3, h4, h5, h6⟩
      exact ⟨fun b hb => hb.elim (fun e => by rw [e]; exact ⟨h1, h2, h3⟩) (h5 b), h4, h6⟩
    · rintro ⟨h1, h2, h3⟩
      obtain ⟨a1, a2, a3⟩ := h1 (s, t) (.inl rfl)
      exact ⟨a1, a2, a3, h2, fun b hb => h1 b (.inr hb), h3⟩
theorem mem_rwss : ∀ {bs : List (List Nat × Tr)} {y : List Nat} {m : Int}, (y, m) ∈ rwss bs ↔ ∃ b ∈ bs, ∃ w, y = b.1 ++ w ∧ (w, m) ∈ b.2.rws
  | [], y, m => by simp [rwss]
  | (s, t) :: r, y, m => by
    have ih := mem_rwss (bs := r) (y := y) (m := m)
    simp only [rwss, List.mem_append, List.mem_map, ih, List.mem_cons]
    constructor
    · rintro (⟨⟨w, k⟩, hw, e⟩ | ⟨b, hb, w, h⟩)
      · injection e with e1 e2
        exact ⟨(s, t), .inl rfl, w, e1.symm, by rw [← e2]; exact hw⟩
      · exact ⟨b, .inr hb, w, h⟩
    · rintro ⟨b, (e | hb), w, h1, h2⟩
      · subst e; exact .inl ⟨(w, m), h2, by rw [h1]; rfl⟩
      · exact .inr ⟨b, hb, w, h1, h2⟩
theorem mem_fork {t : List Nat} {bs : List (List Nat × Tr)} {x : List Nat} {m : Int} : (x, m) ∈ (Tr.fork t bs).rws ↔ ∃ y, x = t ++ y ∧ (y, m) ∈ rwss bs := by
  simp only [Tr.rws, List.mem_map]
  constructor
  · rintro ⟨⟨y, k⟩, h, e⟩
    injection e with e1 e2
    exact ⟨y, e1.symm, by rw [← e2]; exact h⟩
  · rintro ⟨y, e, h⟩
    exact ⟨(y, m), h, by rw [e]; rfl⟩
theorem mem_leaf {t x : List Nat} {n m : Int} : (x, m) ∈ (Tr.leaf t n).rws ↔ x = t ∧ m = n := by simp [Tr.rws]
/-- a name's sign and what is behind it -/
theorem sign_of {b : List Nat × Tr} (h : OkB b) {w : List Nat} {m : Int} (hw : (w, m) ∈ b.2.rws) : b.1 = (b.1 ++ w).take 1 ∧ w = (b.1 ++ w).drop 1 := by
  obtain ⟨h1, h2, _⟩ := h
  cases e : b.1 with
  | nil =>
    obtain ⟨n, e2⟩ := h2 e
    rw [e2] at hw
    rw [(mem_leaf.mp hw).1]
    exact ⟨rfl, rfl⟩
  | cons c r =>
    rw [e] at h1
    cases r with
    | nil => exact ⟨rfl, rfl⟩
    | cons d r => simp at h1
theorem pair_eq {bs : List (List Nat × Tr)} (h : bs.Pairwise fun a b => a.1 < b.1) {a b : List Nat × Tr} (ha : a ∈ bs) (hb : b ∈ bs) (e : a.1 = b.1) : a = b := by
  induction bs with
  | nil => simp at ha
  | cons x r ih =>
    obtain ⟨h1, h2⟩ := List.pairwise_cons.mp h
    rcases List.mem_cons.mp ha with ea | ma
    · rcases List.mem_cons.mp hb with eb | mb
      · rw [ea, eb]
      · exact absurd (h1 _ mb) (by rw [← ea, e]; exact lt_irr _)
    · rcases List.mem_cons.mp hb with eb | mb
      · exact absurd (h1 _ ma) (by rw [← eb, e]; exact lt_irr _)
      · exact ih h2 ma mb
theorem up_map {p : List Nat} {rs : List Row} (h : Up rs) : Up (rs.map (pre p)) := by
  refine List.pairwise_map.mpr (h.imp fun h => ?_)
  exact (app_lt p).mpr h
theorem up_rwss : ∀ {bs : List (List Nat × Tr)}, WfB bs → (∀ b ∈ bs, Up b.2.rws) → Up (rwss bs)
  | [], _, _ => List.Pairwise.nil
  | (s, t) :: r, h, hu => by
    have h' := wfB_iff.mp h
    obtain ⟨h1, h2, h3, h4, h5⟩ := h
    refine List.pairwise_append.mpr ⟨up_map (hu (s, t) (List.mem_cons_self ..)), up_rwss h5 fun b hb => hu b (List.mem_cons_of_mem _ hb), ?_⟩
    rintro ⟨x, n⟩ hx ⟨y, m⟩ hy
    obtain ⟨⟨w, k⟩, hw, e⟩ := List.mem_map.mp hx
    injection e with e1 e2
    obtain ⟨b, hb, v, e3, hv⟩ := mem_rwss.mp hy
    show x < y
    rw [← e1, e3]
    refine sign_lt h1 (h'.1 b (List.mem_cons_of_mem _ hb)).1 (h4 b hb) fun e => ?_
    obtain ⟨n', e'⟩ := h2 e
    rw [e'] at hw
    exact (mem_leaf.mp hw).1
theorem up_rws : ∀ t : Tr, Wf t → Up t.rws := by
  refine Tr.ind (fun t n _ => ?_) (fun t bs ih h => ?_)
  · exact List.pairwise_singleton _ _
  · have h2 := wfB_iff.mp h.2
    exact up_map (up_rwss h.2 fun b hb => ih b hb (h2.1 b hb).2.2)
theorem rws_ne : ∀ t : Tr, Wf t → ∃ r, r ∈ t.rws := by
  refine Tr.ind (fun t n _ => ⟨(t, n), by simp [Tr.rws]⟩) (fun t bs ih h => ?_)
  have h2 := wfB_iff.mp h.2
  cases bs with
  | nil => have := h.1; simp at this
  | cons b r =>
    obtain ⟨⟨w, m⟩, hw⟩ := ih b (List.mem_cons_self ..) (h2.1 b (List.mem_cons_self ..)).2.2
    exact ⟨(t ++ (b.1 ++ w), m), mem_fork.mpr ⟨_, rfl, mem_rwss.mpr ⟨b, List.mem_cons_self .., w, rfl, hw⟩⟩⟩
/-- in a fork there is no longer text with which all begin -/
theorem fork_text {t p : List Nat} {bs : List (List Nat × Tr)} (h : Wf (.fork t bs)) (hp : ∀ x m, (x, m) ∈ (Tr.fork t bs).rws → p <+: x) : p <+: t := by
  have h2 := wfB_iff.mp h.2
  match bs, h, h2, hp with
  | [], h, _, _ => have := h.1; simp at this
  | [b], h, _, _ => have := h.1; simp at this
  | a :: b :: r, h, h2, hp =>
    have ma : a ∈ a :: b :: r := List.mem_cons_self ..
    have mb : b ∈ a :: b :: r := List.mem_cons_of_mem _ (List.mem_cons_self ..)
    obtain ⟨⟨w, m⟩, hw⟩ := rws_ne a.2 (h2.1 a ma).2.2
    obtain ⟨⟨v, k⟩, hv⟩ := rws_ne b.2 (h2.1 b mb).2.2
    have p1 := hp _ _ (mem_fork.mpr ⟨_, rfl, mem_rwss.mpr ⟨a, ma, w, rfl, hw⟩⟩)
    have p2 := hp _ _ (mem_fork.mpr ⟨_, rfl, mem_rwss.mpr ⟨b, mb, v, rfl, hv⟩⟩)
    have ne : a.1 ≠ b.1 := fun e => by
      have := (List.pairwise_cons.mp h2.2).1 b (List.mem_cons_self ..)
      rw [e] at this; exact lt_irr _ this
    by_cases hl : p.length ≤ t.length
    · exact List.prefix_of_prefix_length_le p1 (List.prefix_append t _) hl
    · exfalso
      have q1 : t <+: p := List.prefix_of_prefix_length_le (List.prefix_append t _) p1 (by omega)
      obtain ⟨u, rfl⟩ := q1
      have u1 : u <+: a.1 ++ w := (List.prefix_append_right_inj t).mp p1
      have u2 : u <+: b.1 ++ v := (List.prefix_append_right_inj t).mp p2
      have s1 := (sign_of (h2.1 a ma) hw).1
      have s2 := (sign_of (h2.1 b mb) hv).1
      cases u with
      | nil => simp at hl
      | cons c u =>
        obtain ⟨u', e1⟩ := u1
        obtain ⟨u'', e2⟩ := u2
        rw [← e1] at s1
        rw [← e2] at s2
        exact ne (by rw [s1, s2]; rfl)
/-- THE ONE TREE -/
theorem one_tree : ∀ t : Tr, Wf t → ∀ t' : Tr, Wf t' → (∀ r, r ∈ t.rws ↔ r ∈ t'.rws) → t = t' := by
  have two : ∀ {t : List Nat} {bs : List (List Nat × Tr)}, Wf (.fork t bs) → ∃ x y m k, x ≠ y ∧ (x, m) ∈ (Tr.fork t bs).rws ∧ (y, k) ∈ (Tr.fork t bs).rws := fun {t bs} h => by
    have h2 := wfB_iff.mp h.2
    match bs, h, h2 with
    | [], h, _ => have := h.1; simp at this
    | [b], h, _ => have := h.1; simp at this
    | a :: b :: r, h, h2 =>
      have ma : a ∈ a :: b :: r := List.mem_cons_self ..
      have mb : b ∈ a :: b :: r := List.mem_cons_of_mem _ (List.mem_cons_self ..)
      obtain ⟨⟨w, m⟩, hw⟩ := rws_ne a.2 (h2.1 a ma).2.2
      obtain ⟨⟨v, k⟩, hv⟩ := rws_ne b.2 (h2.1 b mb).2.2
      refine ⟨_, _, m, k, fun e => ?_, mem_fork.mpr ⟨_, rfl, mem_rwss.mpr ⟨a, ma, w, rfl, hw⟩⟩, mem_fork.mpr ⟨_, rfl, mem_rwss.mpr ⟨b, mb, v, rfl, hv⟩⟩⟩
      have e2 := List.append_cancel_left e
      have s1 := (sign_of (h2.1 a ma) hw).1
      have s2 := (sign_of (h2.1 b mb) hv).1
      have lt := (List.pairwise_cons.mp h2.2).1 b (List.mem_cons_self ..)
      rw [s1, e2, ← s2] at lt
      exact lt_irr _ lt
  refine Tr.ind (fun t n _ t' h' hr => ?_) (fun t bs ih h t' h' hr => ?_)
  · cases t' with
    | leaf u m =>
      obtain ⟨e1, e2⟩ := mem_leaf.mp ((hr (t, n)).mp (by simp [Tr.rws]))
      rw [e1, e2]
    | fork u cs =>
      obtain ⟨x, y, m, k, ne, h1, h2⟩ := two h'
      have a := (mem_leaf.mp ((hr _).mpr h1)).1
      have b := (mem_leaf.mp ((hr _).mpr h2)).1
      exact absurd (a.trans b.symm) ne
  · cases t' with
    | leaf u m =>
      obtain ⟨x, y, m, k, ne, h1, h2⟩ := two h
      have a := (mem_leaf.mp ((hr _).mp h1)).1
      have b := (mem_leaf.mp ((hr _).mp h2)).1
      exact absurd (a.trans b.symm) ne
    | fork u cs =>
      have w := wfB_iff.mp h.2
      have w' := wfB_iff.mp h'.2
      have p1 : t <+: u := fork_text h' fun x m hx => by
        obtain ⟨y, e, _⟩ := mem_fork.mp ((hr _).mpr hx)
        rw [e]; exact List.prefix_append _ _
      have p2 : u <+: t := fork_text h fun x m hx => by
        obtain ⟨y, e, _⟩ := mem_fork.mp ((hr _).mp hx)
        rw [e]; exact List.prefix_append _ _
      have et : t = u := List.IsPrefix.eq_of_length p1 (Nat.le_antisymm p1.length_le p2.length_le)
      subst et
      have hy : ∀ y m, (y, m) ∈ rwss bs ↔ (y, m) ∈ rwss cs := fun y m => by
        have := hr (t ++ y, m)
        rw [mem_fork, mem_fork] at this
        constructor
        · intro z
          obtain ⟨y', e, z'⟩ := this.mp ⟨y, rfl, z⟩
          rw [List.append_cancel_left e]; exact z'
        · intro z
          obtain ⟨y', e, z'⟩ := this.mpr ⟨y, rfl, z⟩
          rw [List.append_cancel_left e]; exact z'
      -- each branch of the one is a branch of the other
      have half : ∀ {bs cs : List (List Nat × Tr)}, ((∀ b ∈ bs, OkB b) ∧ bs.Pairwise fun a b => a.1 < b.1) → ((∀ b ∈ cs, OkB b) ∧ cs.Pairwise fun a b => a.1 < b.1) → (∀ y m, (y, m) ∈ rwss bs ↔ (y, m) ∈ rwss cs) →
          ∀ b ∈ bs, ∃ c ∈ cs, c.1 = b.1 ∧ ∀ r, r ∈ b.2.rws ↔ r ∈ c.2.rws := fun {bs cs} w w' hy b hb => by
        obtain ⟨⟨v, k⟩, hv⟩ := rws_ne b.2 (w.1 b hb).2.2
        obtain ⟨c, hc, v', e, hv'⟩ := mem_rwss.mp ((hy _ _).mp (mem_rwss.mpr ⟨b, hb, v, rfl, hv⟩))
        have ec : c.1 = b.1 := by
          rw [(sign_of (w'.1 c hc) hv').1, ← e, ← (sign_of (w.1 b hb) hv).1]
        refine ⟨c, hc, ec, fun ⟨z, m⟩ => ⟨fun hz => ?_, fun hz => ?_⟩⟩
        · obtain ⟨c', hc', z', e', hz'⟩ := mem_rwss.mp ((hy _ _).mp (mem_rwss.mpr ⟨b, hb, z, rfl, hz⟩))
          have e1 : c'.1 = b.1 := by rw [(sign_of (w'.1 c' hc') hz').1, ← e', ← (sign_of (w.1 b hb) hz).1]
          have e2 := pair_eq w'.2 hc' hc (e1.trans ec.symm)
          subst e2
          rw [e1] at e'
          rw [List.append_cancel_left e']; exact hz'
        · obtain ⟨b', hb', z', e', hz'⟩ := mem_rwss.mp ((hy _ _).mpr (mem_rwss.mpr ⟨c, hc, z, rfl, hz⟩))
          have e1 : b'.1 = b.1 := by rw [(sign_of (w.1 b' hb') hz').1, ← e', ← (sign_of (w'.1 c hc) hz).1, ec]
          have e2 := pair_eq w.2 hb' hb e1
          subst e2
          rw [ec] at e'
          rw [List.append_cancel_left e']; exact hz'
      have sub1 : ∀ b ∈ bs, b ∈ cs := fun b hb => by
        obtain ⟨c, hc, ec, hm⟩ := half w w' hy b hb
        have := ih b hb (w.1 b hb).2.2 c.2 (w'.1 c hc).2.2 hm
        have e : b = c := Prod.ext ec.symm this
        rw [e]; exact hc
      have sub2 : ∀ b ∈ cs, b ∈ bs := fun c hc => by
        obtain ⟨b, hb, eb, hm⟩ := half w' w (fun y m => (hy y m).symm) c hc
        have := ih b hb (w.1 b hb).2.2 c.2 (w'.1 c hc).2.2 fun r => (hm r).symm
        have e : b = c := Prod.ext eb this
        rw [← e]; exact hb
      have ext : ∀ {as bs : List (List Nat × Tr)}, as.Pairwise (fun a b => a.1 < b.1) → bs.Pairwise (fun a b => a.1 < b.1) → (∀ b ∈ as, b ∈ bs) → (∀ b ∈ bs, b ∈ as) → as = bs := by
        intro as
        induction as with
        | nil => intro bs _ _ _ h; cases bs with
          | nil => rfl
          | cons y s => have := h y (List.mem_cons_self ..); simp at this
        | cons x r ihl =>
          intro bs ha hb h1 h2
          cases bs with
          | nil => have := h1 x (List.mem_cons_self ..); simp at this
          | cons y s =>
            obtain ⟨a1, a2⟩ := List.pairwise_cons.mp ha
            obtain ⟨b1, b2⟩ := List.pairwise_cons.mp hb
            have e : x = y := by
              rcases List.mem_cons.mp (h1 x (List.mem_cons_self ..)) with e | m1
              · exact e
              rcases List.mem_cons.mp (h2 y (List.mem_cons_self ..)) with e | m2
              · exact e.symm
              exact absurd (lt_trans (a1 y m2) (b1 x m1)) (lt_irr _)
            subst e
            have e2 := ihl a2 b2 (fun z hz => by
              rcases List.mem_cons.mp (h1 z (List.mem_cons_of_mem _ hz)) with e | m
              · subst e; exact absurd (a1 z hz) (lt_irr _)
              · exact m) (fun z hz => by
              rcases List.mem_cons.mp (h2 z (List.mem_cons_of_mem _ hz)) with e | m
              · subst e; exact absurd (b1 z hz) (lt_irr _)
              · exact m)
            rw [e2]
      rw [ext w.2 w'.2 sub1 sub2]
/-- a tree, or None, of just these rows -/
def Treed : Option Tr → List Row → Prop
  | none, R => R = []
  | some t, R => Wf t ∧ t.rws = R
theorem treed_one {o o' : Option Tr} {R : List Row} (h : Treed o R) (h' : Treed o' R) : o = o' := by
  cases o with
  | none =>
    cases o' with
    | none => rfl
    | some t =>
      have e : R = [] := h
      obtain ⟨r, hr⟩ := rws_ne t h'.1
      rw [h'.2, e] at hr; simp at hr
  | some t =>
    cases o' with
    | none =>
      have e : R = [] := h'
      obtain ⟨r, hr⟩ := rws_ne t h.1
      rw [h.2, e] at hr; simp at hr
    | some u => rw [one_tree t h.1 u h'.1 fun r => by rw [h.2, h'.2]]
end RT

/-! what the program's functions do with trees -/
namespace RT
open PySem
def innr (bs : List (List Nat × Tr)) (s : List Nat) : Option Tr :=
  match bs with
  | [] => none
  | (a, t) :: r => if a = s then some t else innr r s
theorem innr_mem : ∀ {bs : List (List Nat × Tr)} {s : List Nat} {t : Tr}, innr bs s = some t → (s, t) ∈ bs
  | [], _, _, h => by simp [innr] at h
  | (a, u) :: r, s, t, h => by
    unfold innr at h
    split at h
    · rename_i e; subst e; injection h with h; rw [h]; exact List.mem_cons_self ..
    · exact List.mem_cons_of_mem _ (innr_mem h)
theorem mem_innr : ∀ {bs : List (List Nat × Tr)} {s : List Nat} {t : Tr}, bs.Pairwise (fun a b => a.1 < b.1) → (s, t) ∈ bs → innr bs s = some t
  | [], _, _, _, h => by simp at h
  | (a, u) :: r, s, t, hp, h => by
    obtain ⟨h1, h2⟩ := List.pairwise_cons.mp hp
    unfold innr
    rcases List.mem_cons.mp h with e | m
    · injection e with e1 e2; rw [if_pos e1.symm, e2]
    · have : a ≠ s := fun e => by have := h1 _ m; rw [e] at this; exact lt_irr _ this
      rw [if_neg this]; exact mem_innr h2 m
theorem innr_none {bs : List (List Nat × Tr)} {s : List Nat} (h : innr bs s = none) : ∀ b ∈ bs, b.1 ≠ s := by
  induction bs with
  | nil => intro b hb; simp at hb
  | cons x r ih =>
    obtain ⟨a, u⟩ := x
    unfold innr at h
    split at h
    · cases h
    · rename_i ne
      intro b hb
      rcases List.mem_cons.mp hb with e | m
      · rw [e]; exact ne
      · exact ih h b m
/-! ### found -/
mutual
def fnd : Tr → List Nat → Option Int
  | .leaf t n, x => if x = t then some n else none
  | .fork t bs, x => if t <+: x then fndIn bs ((x.drop t.length).take 1) ((x.drop t.length).drop 1) else none
def fndIn : List (List Nat × Tr) → List Nat → List Nat → Option Int
  | [], _, _ => none
  | (a, t) :: r, s, y => if a = s then fnd t y else fndIn r s y
end
theorem fndIn_eq : ∀ (bs : List (List Nat × Tr)) (s y : List Nat), fndIn bs s y = (innr bs s).bind fun t => fnd t y
  | [], _, _ => rfl
  | (a, t) :: r, s, y => by
    unfold fndIn innr
    by_cases h : a = s
    · rw [if_pos h, if_pos h]; rfl
    · rw [if_neg h, if_neg h]; exact fndIn_eq r s y
/-- a name in a fork: its branch -/
theorem mem_by_sign {t : List Nat} {bs : List (List Nat × Tr)} (h : Wf (.fork t bs)) {z : List Nat} {m : Int} : (t ++ z, m) ∈ (Tr.fork t bs).rws ↔ ∃ u, innr bs (z.take 1) = some u ∧ (z.drop 1, m) ∈ u.rws := by
  have w := wfB_iff.mp h.2
  rw [mem_fork]
  constructor
  · rintro ⟨y, e, hy⟩
    have e := List.append_cancel_left e
    subst e
    obtain ⟨b, hb, v, rfl, hv⟩ := mem_rwss.mp hy
    obtain ⟨s1, s2⟩ := sign_of (w.1 b hb) hv
    rw [← s1, ← s2]
    exact ⟨b.2, mem_innr w.2 hb, hv⟩
  · rintro ⟨u, hu, hz⟩
    exact ⟨z, rfl, mem_rwss.mpr ⟨_, innr_mem hu, z.drop 1, (List.take_append_drop 1 z).symm, hz⟩⟩
theorem fnd_iff : ∀ t : Tr, Wf t → ∀ x n, fnd t x = some n ↔ (x, n) ∈ t.rws := by
  refine Tr.ind (fun t n _ x m => ?_) (fun t bs ih h x m => ?_)
  · unfold fnd
    rw [mem_leaf]
    by_cases e : x = t
    · rw [if_pos e]; simp [e, eq_comm]
    · rw [if_neg e]; simp [e]
  · have w := wfB_iff.mp h.2
    unfold fnd
    by_cases hp : t <+: x
    · rw [if_pos hp]
      obtain ⟨z, rfl⟩ := hp
      rw [List.drop_left, fndIn_eq, mem_by_sign h]
      constructor
      · intro e
        cases hi : innr bs (z.take 1) with
        | none => rw [hi] at e; cases e
        | some u =>
          rw [hi] at e
          have mu := innr_mem hi
          exact ⟨u, rfl, (ih _ mu (w.1 _ mu).2.2 _ _).mp e⟩
      · rintro ⟨u, hu, hz⟩
        have mu := innr_mem hu
        rw [hu]
        exact (ih _ mu (w.1 _ mu).2.2 _ _).mpr hz
    · rw [if_neg hp]
      constructor
      · intro e; cases e
      · intro e
        obtain ⟨y, e, _⟩ := mem_fork.mp e
        exact absurd ⟨y, e.symm⟩ hp
theorem fnd_none {t : Tr} (h : Wf t) {x : List Nat} (hn : ∀ m, (x, m) ∉ t.rws) : fnd t x = none := by
  cases e : fnd t x with
  | none => rfl
  | some n => exact absurd ((fnd_iff t h x n).mp e) (hn n)
def fndO (o : Option Tr) (x : List Nat) : Option Int := o.bind fun t => fnd t x
/-! ### put -/
def placed (bs : List (List Nat × Tr)) (b : List Nat × Tr) : List (List Nat × Tr) := (bs.filter fun a => a.1 < b.1) ++ [b] ++ (bs.filter fun a => b.1 < a.1)
theorem mem_placed {bs : List (List Nat × Tr)} {b c : List Nat × Tr} : c ∈ placed bs b ↔ (c ∈ bs ∧ c.1 ≠ b.1) ∨ c = b := by
  unfold placed
  simp only [List.mem_append, List.mem_filter, decide_eq_true_eq, List.mem_singleton]
  constructor
  · rintro ((⟨h1, h2⟩ | h) | ⟨h1, h2⟩)
    · exact .inl ⟨h1, fun e => by rw [e] at h2; exact lt_irr _ h2⟩
    · exact .inr h
    · exact .inl ⟨h1, fun e => by rw [e] at h2; exact lt_irr _ h2⟩
  · rintro (⟨h1, h2⟩ | h)
    · by_cases l : c.1 < b.1
      · exact .inl (.inl ⟨h1, l⟩)
      · by_cases l2 : b.1 < c.1
        · exact .inr ⟨h1, l2⟩
        · exact absurd (lt_tri l l2) h2
    · exact .inl (.inr h)
theorem placed_pw {bs : List (List Nat × Tr)} {b : List Nat × Tr} (h : bs.Pairwise fun a b => a.1 < b.1) : (placed bs b).Pairwise fun a b => a.1 < b.1 := by
  unfold placed
  refine List.pairwise_append.mpr ⟨List.pairwise_append.mpr ⟨h.filter _, List.pairwise_singleton _ _, ?_⟩, h.filter _, ?_⟩
  · intro x hx y hy
    simp only [List.mem_filter, decide_eq_true_eq, List.mem_singleton] at hx hy
    rw [hy]; exact hx.2
  · intro x hx y hy
    simp only [List.mem_append, List.mem_filter, decide_eq_true_eq, List.mem_singleton] at hx hy
    rcases hx with ⟨_, h1⟩ | h1
    · exact lt_trans h1 hy.2
    · rw [h1]; exact hy.2
theorem two_of {α : Type} {l : List α} {a b : α} (h1 : a ∈ l) (h2 : b ∈ l) (ne : a ≠ b) : 2 ≤ l.length := by
  match l, h1, h2 with
  | [x], h1, h2 => simp at h1 h2; exact absurd (h1.trans h2.symm) ne
  | _ :: _ :: _, _, _ => simp
theorem placed_two {bs : List (List Nat × Tr)} {b : List Nat × Tr} (h : bs.Pairwise fun a b => a.1 < b.1) (h2 : 2 ≤ bs.length) : 2 ≤ (placed bs b).length := by
  match bs, h, h2 with
  | x :: y :: r, h, _ =>
    have lt := (List.pairwise_cons.mp h).1 y (List.mem_cons_self ..)
    have mb : b ∈ placed (x :: y :: r) b := mem_placed.mpr (.inr rfl)
    by_cases e : x.1 = b.1
    · have ne : y.1 ≠ b.1 := fun z => by rw [e, z] at lt; exact lt_irr _ lt
      exact two_of mb (mem_placed.mpr (.inl ⟨List.mem_cons_of_mem _ (List.mem_cons_self ..), ne⟩)) fun z => ne (by rw [z])
    · exact two_of mb (mem_placed.mpr (.inl ⟨List.mem_cons_self .., e⟩)) fun z => e (by rw [z])
def Tr.setText (u : List Nat) : Tr → Tr
  | .leaf _ n => .leaf u n
  | .fork _ bs => .fork u bs
/-- a tree as a branch behind a text of c signs -/
def brn (t : Tr) (c : Nat) : List Nat × Tr := ((t.text.drop c).take 1, t.setText ((t.text.drop c).drop 1))
theorem rws_ahd (p : List Nat) : ∀ t : Tr, (t.ahd p).rws = t.rws.map (pre p)
  | .leaf t n => rfl
  | .fork t bs => by
    show (rwss bs).map (pre (p ++ t)) = ((rwss bs).map (pre t)).map (pre p)
    rw [List.map_map]
    refine List.map_congr_left fun r _ => ?_
    show (p ++ t ++ r.1, r.2) = (p ++ (t ++ r.1), r.2)
    rw [List.append_assoc]
theorem wf_set {t : Tr} {u : List Nat} (h : Wf t) : Wf (t.setText u) := by cases t <;> exact h
theorem wf_ahd {t : Tr} {u : List Nat} (h : Wf t) : Wf (t.ahd u) := by cases t <;> exact h
theorem set_ahd {t : Tr} {p u : List Nat} (h : t.text = p ++ u) : (t.setText u).ahd p = t := by
  cases t with
  | leaf t n => have h : t = p ++ u := h; rw [h]; rfl
  | fork t bs => have h : t = p ++ u := h; rw [h]; rfl
theorem mem_set {t : Tr} {p u x : List Nat} {m : Int} (h : t.text = p ++ u) : (x, m) ∈ t.rws ↔ ∃ y, x = p ++ y ∧ (y, m) ∈ (t.setText u).rws := by
  conv => lhs; rw [← set_ahd h, rws_ahd]
  rw [List.mem_map]
  constructor
  · rintro ⟨⟨y, k⟩, hy, e⟩
    injection e with e1 e2
    exact ⟨y, e1.symm, by rw [← e2]; exact hy⟩
  · rintro ⟨y, e, hy⟩
    exact ⟨(y, m), hy, by rw [e]; rfl⟩
/-- two trees of which neither text begins the other's names alone: a new fork above them -/
def splitT (t u : Tr) : Tr := .fork (t.text.take (lcp t.text u.text)) (placed [brn t (lcp t.text u.text)] (brn u (lcp t.text u.text)))
theorem brn_ok {t : Tr} {c : Nat} (h : Wf t) (hf : (∃ n, t = .leaf t.text n) ∨ c < t.text.length) : OkB (brn t c) := by
  refine ⟨by simp [brn, List.length_take]; omega, fun e => ?_, wf_set h⟩
  have e : (t.text.drop c).take 1 = [] := e
  have e2 : t.text.drop c = [] := by
    cases hd : t.text.drop c with
    | nil => rfl
    | cons x r => rw [hd] at e; simp at e
  have hl : t.text.length ≤ c := by
    have := congrArg List.length e2
    simp at this; omega
  rcases hf with ⟨n, hn⟩ | hc
  · refine ⟨n, ?_⟩
    show t.setText ((t.text.drop c).drop 1) = _
    rw [e2, hn]; rfl
  · omega
theorem mem_brn {t : Tr} {c : Nat} (hc : c ≤ t.text.length) {x : List Nat} {m : Int} : (x, m) ∈ t.rws ↔ ∃ w, x = t.text.take c ++ ((brn t c).1 ++ w) ∧ (w, m) ∈ (brn t c).2.rws := by
  have e : t.text = (t.text.take c ++ (brn t c).1) ++ (t.text.drop c).drop 1 := by
    show t.text = (t.text.take c ++ (t.text.drop c).take 1) ++ (t.text.drop c).drop 1
    rw [List.append_assoc, List.take_append_drop, List.take_append_drop]
  rw [mem_set e]
  constructor
  · rintro ⟨y, e1, e2⟩; exact ⟨y, by rw [e1, List.append_assoc], e2⟩
  · rintro ⟨y, e1, e2⟩; exact ⟨y, by rw [e1, List.append_assoc], e2⟩
theorem drop_ne {a b : List Nat} (h : ¬ (lcp a b = a.length ∧ lcp a b = b.length)) : (a.drop (lcp a b)).take 1 ≠ (b.drop (lcp a b)).take 1 := by
  intro e
  have l1 := lcp_le1 a b
  have l2 := lcp_le2 a b
  have g : ∀ l : List Nat, (l.drop (lcp a b)).take 1 = (l[lcp a b]?).toList := fun l => by
    cases hd : l[lcp a b]? with
    | none =>
      have : l.length ≤ lcp a b := List.getElem?_eq_none_iff.mp hd
      rw [List.drop_of_length_le this]; rfl
    | some x =>
      obtain ⟨hlt, hx⟩ := List.getElem?_eq_some_iff.mp hd
      rw [List.drop_eq_getElem_cons hlt, hx]; rfl
  rw [g, g] at e
  cases ha : a[lcp a b]? with
  | none =>
    rw [ha] at e
    have h1 : a.length ≤ lcp a b := List.getElem?_eq_none_iff.mp ha
    cases hb : b[lcp a b]? with
    | none =>
      have h2 : b.length ≤ lcp a b := List.getElem?_eq_none_iff.mp hb
      exact h ⟨by omega, by omega⟩
    | some y => rw [hb] at e; simp at e
  | some x =>
    cases hb : b[lcp a b]? with
    | none => rw [ha, hb] at e; simp at e
    | some y =>
      rw [ha, hb] at e
      have e : x = y := by simpa using e
      subst e
      have h1 : lcp a b < a.length := (List.getElem?_eq_some_iff.mp ha).1
      have h2 : lcp a b < b.length := (List.getElem?_eq_some_iff.mp hb).1
      have hg := take_grow (lcp_take a b) ha hb
      have more : ∀ {a b : List Nat} {k : Nat}, a.take k = b.take k → k ≤ a.length → k ≤ b.length → k ≤ lcp a b := by
        intro a
        induction a with
        | nil => intro b k _ h1 _; simp at h1; omega
        | cons x r ih =>
          intro b k e h1 h2
          cases b with
          | nil => simp at h2; omega
          | cons y s =>
            cases k with
            | zero => omega
            | succ k =>
              simp only [List.take_succ_cons, List.cons.injEq] at e
              obtain ⟨e1, e2⟩ := e
              subst e1
              have := ih e2 (by simpa using h1) (by simpa using h2)
              unfold lcp; simp; exact this
      have := more hg (by omega) (by omega)
      omega
theorem lcp_eq_iff {a b : List Nat} : a.take (lcp a b) = a ↔ a <+: b := by
  constructor
  · intro e
    have h := lcp_take a b
    rw [e] at h
    rw [h]; exact List.take_prefix _ _
  · intro h
    have h2 := List.prefix_iff_eq_take.mp h
    have : lcp a b = a.length := lcp_of (by rw [List.take_length]; exact h2) (Nat.le_refl _) h.length_le (.inl (Nat.le_refl _))
    rw [this, List.take_length]
theorem lcp_len_iff {a b : List Nat} : lcp a b = a.length ↔ a <+: b := by
  rw [← lcp_eq_iff]
  constructor
  · intro e; rw [e, List.take_length]
  · intro e
    have := congrArg List.length e
    rw [List.length_take] at this
    have := lcp_le1 a b
    omega
theorem split_wf {t u : Tr} (ht : Wf t) (hu : Wf u) (f1 : (∃ n, t = .leaf t.text n) ∨ ¬ t.text <+: u.text) (f2 : (∃ n, u = .leaf u.text n) ∨ ¬ u.text <+: t.text) (ne : t.text ≠ u.text) :
    Wf (splitT t u) ∧ ∀ r, r ∈ (splitT t u).rws ↔ r ∈ t.rws ∨ r ∈ u.rws := by
  have l1 := lcp_le1 t.text u.text
  have l2 := lcp_le2 t.text u.text
  have dn : (brn t (lcp t.text u.text)).1 ≠ (brn u (lcp t.text u.text)).1 := drop_ne fun ⟨h1, h2⟩ => ne (by
    have p1 := lcp_len_iff.mp h1
    exact List.IsPrefix.eq_of_length p1 (by omega))
  have o1 : OkB (brn t (lcp t.text u.text)) := brn_ok ht (f1.imp id fun h => Nat.lt_of_le_of_ne l1 fun e => h (lcp_len_iff.mp e))
  have o2 : OkB (brn u (lcp t.text u.text)) := brn_ok hu (f2.imp id fun h => Nat.lt_of_le_of_ne l2 fun e => h (lcp_len_iff.mp (by rw [lcp_comm]; exact e)))
  have mp : ∀ c, c ∈ placed [brn t (lcp t.text u.text)] (brn u (lcp t.text u.text)) ↔ c = brn t (lcp t.text u.text) ∨ c = brn u (lcp t.text u.text) := fun c => by
    rw [mem_placed, List.mem_singleton]
    constructor
    · rintro (⟨h, _⟩ | h)
      · exact .inl h
      · exact .inr h
    · rintro (h | h)
      · exact .inl ⟨h, by rw [h]; exact dn⟩
      · exact .inr h
  refine ⟨⟨two_of ((mp _).mpr (.inl rfl)) ((mp _).mpr (.inr rfl)) fun e => dn (by rw [e]), wfB_iff.mpr ⟨fun b hb => ?_, placed_pw (List.pairwise_singleton _ _)⟩⟩, fun ⟨x, m⟩ => ?_⟩
  · rcases (mp b).mp hb with e | e
    · rw [e]; exact o1
    · rw [e]; exact o2
  · rw [mem_brn l1, mem_brn (t := u) l2]
    unfold splitT
    rw [mem_fork]
    constructor
    · rintro ⟨y, e, hy⟩
      obtain ⟨b, hb, w, e2, hw⟩ := mem_rwss.mp hy
      rcases (mp b).mp hb with eb | eb
      · rw [eb] at e2 hw; exact .inl ⟨w, by rw [e, e2], hw⟩
      · rw [eb] at e2 hw; exact .inr ⟨w, by rw [e, e2, lcp_take], hw⟩
    · rintro (⟨w, e, hw⟩ | ⟨w, e, hw⟩)
      · exact ⟨_, e, mem_rwss.mpr ⟨_, (mp _).mpr (.inl rfl), w, rfl, hw⟩⟩
      · exact ⟨_, by rw [e, lcp_take], mem_rwss.mpr ⟨_, (mp _).mpr (.inr rfl), w, rfl, hw⟩⟩
mutual
def ptt : Tr → List Nat → Int → Tr
  | .leaf t m, x, n => if t = x then .leaf x n else splitT (.leaf t m) (.leaf x n)
  | .fork t bs, x, n => if t <+: x then .fork t (placed bs ((x.drop t.length).take 1, pttIn bs ((x.drop t.length).take 1) ((x.drop t.length).drop 1) n)) else splitT (.fork t bs) (.leaf x n)
def pttIn : List (List Nat × Tr) → List Nat → List Nat → Int → Tr
  | [], _, y, n => .leaf y n
  | (a, t) :: r, s, y, n => if a = s then ptt t y n else pttIn r s y n
end
def pttO (o : Option Tr) (x : List Nat) (n : Int) : Tr :=
  match o with
  | none => .leaf x n
  | some t => ptt t x n
theorem pttIn_eq : ∀ (bs : List (List Nat × Tr)) (s y : List Nat) (n : Int), pttIn bs s y n = pttO (innr bs s) y n
  | [], _, _, _ => by simp [pttIn, innr, pttO]
  | (a, t) :: r, s, y, n => by
    unfold pttIn innr
    by_cases h : a = s
    · rw [if_pos h, if_pos h]; rfl
    · rw [if_neg h, if_neg h]; exact pttIn_eq r s y n
theorem ptt_ok : ∀ t : Tr, Wf t → ∀ x n, Wf (ptt t x n) ∧ ∀ y m, (y, m) ∈ (ptt t x n).rws ↔ ((y, m) ∈ t.rws ∧ y ≠ x) ∨ (y = x ∧ m = n) := by
  refine Tr.ind (fun t k _ x n => ?_) (fun t bs ih h x n => ?_)
  · unfold ptt
    by_cases e : t = x
    · rw [if_pos e]
      refine ⟨trivial, fun y m => ?_⟩
      rw [mem_leaf, mem_leaf]
      constructor
      · exact .inr
      · rintro (⟨⟨h1, _⟩, h2⟩ | h)
        · exact absurd (h1.trans e) h2
        · exact h
    · rw [if_neg e]
      obtain ⟨h1, h2⟩ := split_wf (t := .leaf t k) (u := .leaf x n) trivial trivial (.inl ⟨k, rfl⟩) (.inl ⟨n, rfl⟩) e
      refine ⟨h1, fun y m => ?_⟩
      rw [h2, mem_leaf, mem_leaf]
      constructor
      · rintro (⟨a, b⟩ | ⟨a, b⟩)
        · exact .inl ⟨⟨a, b⟩, fun z => e (a.symm.trans z)⟩
        · exact .inr ⟨a, b⟩
      · rintro (⟨a, _⟩ | a)
        · exact .inl a
        · exact .inr a
  · have w := wfB_iff.mp h.2
    unfold ptt
    by_cases hp : t <+: x
    · rw [if_pos hp]
      obtain ⟨z, rfl⟩ := hp
      rw [List.drop_left, pttIn_eq]
      have inner : Wf (pttO (innr bs (z.take 1)) (z.drop 1) n) ∧ ∀ y m, (y, m) ∈ (pttO (innr bs (z.take 1)) (z.drop 1) n).rws ↔ ((∃ u, innr bs (z.take 1) = some u ∧ (y, m) ∈ u.rws) ∧ y ≠ z.drop 1) ∨ (y = z.drop 1 ∧ m = n) := by
        cases hi : innr bs (z.take 1) with
        | none =>
          refine ⟨trivial, fun y m => ?_⟩
          show _ ∈ (Tr.leaf _ _).rws ↔ _
          rw [mem_leaf]; simp
        | some u =>
          have mu := innr_mem hi
          obtain ⟨i1, i2⟩ := ih _ mu (w.1 _ mu).2.2 (z.drop 1) n
          refine ⟨i1, fun y m => ?_⟩
          show _ ∈ (ptt u _ _).rws ↔ _
          rw [i2]; simp
      have ok : OkB (z.take 1, pttO (innr bs (z.take 1)) (z.drop 1) n) := by
        refine ⟨by simp [List.length_take]; omega, fun e => ?_, inner.1⟩
        have e : z.take 1 = [] := e
        have ez : z = [] := by cases z with
          | nil => rfl
          | cons c r => simp at e
        subst ez
        show ∃ k, pttO (innr bs []) [] n = .leaf [] k
        cases hi : innr bs [] with
        | none => exact ⟨n, rfl⟩
        | some u =>
          obtain ⟨k, ek⟩ := (w.1 _ (innr_mem hi)).2.1 rfl
          have ek : u = .leaf [] k := ek
          refine ⟨n, ?_⟩
          show ptt u [] n = _
          rw [ek]; simp [ptt]
      refine ⟨⟨placed_two w.2 h.1, wfB_iff.mpr ⟨fun b hb => ?_, placed_pw w.2⟩⟩, fun y m => ?_⟩
      · rcases mem_placed.mp hb with ⟨hb, _⟩ | e
        · exact w.1 b hb
        · rw [e]; exact ok
      · rw [mem_fork, mem_fork]
        constructor
        · rintro ⟨v, rfl, hv⟩
          obtain ⟨b, hb, q, rfl, hq⟩ := mem_rwss.mp hv
          rcases mem_placed.mp hb with ⟨hb, ne⟩ | e
          · refine .inl ⟨⟨_, rfl, mem_rwss.mpr ⟨b, hb, q, rfl, hq⟩⟩, fun e => ne ?_⟩
            have e := List.append_cancel_left e
            show b.1 = z.take 1
            rw [← e]; exact (sign_of (w.1 b hb) hq).1
          · subst e
            rcases (inner.2 q m).mp hq with ⟨⟨u, hu, hz⟩, ne⟩ | ⟨e1, e2⟩
            · refine .inl ⟨⟨_, rfl, mem_rwss.mpr ⟨_, innr_mem hu, q, rfl, hz⟩⟩, fun e => ne ?_⟩
              have e := List.append_cancel_left e
              have : z.take 1 ++ q = z.take 1 ++ z.drop 1 := by rw [List.take_append_drop]; exact e
              exact List.append_cancel_left this
            · refine .inr ⟨?_, e2⟩
              show t ++ (z.take 1 ++ q) = _
              rw [e1, List.take_append_drop]
        · rintro (⟨⟨v, rfl, hv⟩, ne⟩ | ⟨rfl, rfl⟩)
          · obtain ⟨b, hb, q, rfl, hq⟩ := mem_rwss.mp hv
            refine ⟨_, rfl, ?_⟩
            by_cases e : b.1 = z.take 1
            · refine mem_rwss.mpr ⟨_, mem_placed.mpr (.inr rfl), q, by rw [e], (inner.2 q m).mpr (.inl ⟨⟨b.2, by rw [← e]; exact mem_innr w.2 hb, hq⟩, fun e2 => ne ?_⟩)⟩
              rw [e, e2, List.take_append_drop]
            · exact mem_rwss.mpr ⟨b, mem_placed.mpr (.inl ⟨hb, e⟩), q, rfl, hq⟩
          · exact ⟨z, rfl, mem_rwss.mpr ⟨_, mem_placed.mpr (.inr rfl), z.drop 1, (List.take_append_drop 1 z).symm, (inner.2 _ _).mpr (.inr ⟨rfl, rfl⟩)⟩⟩
    · rw [if_neg hp]
      obtain ⟨h1, h2⟩ := split_wf (t := .fork t bs) (u := .leaf x n) h trivial (.inr hp) (.inl ⟨n, rfl⟩) (fun e => hp (by rw [show t = x from e]; exact List.prefix_refl _))
      refine ⟨h1, fun y m => ?_⟩
      rw [h2, mem_leaf]
      constructor
      · rintro (a | a)
        · refine .inl ⟨a, fun z => hp ?_⟩
          obtain ⟨v, e, _⟩ := mem_fork.mp a
          exact ⟨v, by rw [← e]; exact z⟩
        · exact .inr a
      · rintro (⟨a, _⟩ | a)
        · exact .inl a
        · exact .inr a
/-- rows with a name's row put in -/
def putR (R : List Row) (x : List Nat) (n : Int) : List Row → Prop := fun S => Up S ∧ ∀ y m, (y, m) ∈ S ↔ ((y, m) ∈ R ∧ y ≠ x) ∨ (y = x ∧ m = n)
theorem pttO_ok {o : Option Tr} {R S : List Row} (h : Treed o R) (hS : putR R x n S) : Treed (some (pttO o x n)) S := by
  have key : Wf (pttO o x n) ∧ ∀ y m, (y, m) ∈ (pttO o x n).rws ↔ ((y, m) ∈ R ∧ y ≠ x) ∨ (y = x ∧ m = n) := by
    cases o with
    | none =>
      have e : R = [] := h
      subst e
      refine ⟨trivial, fun y m => ?_⟩
      show _ ∈ (Tr.leaf _ _).rws ↔ _
      rw [mem_leaf]; simp
    | some t =>
      obtain ⟨h1, h2⟩ := ptt_ok t h.1 x n
      refine ⟨h1, fun y m => ?_⟩
      rw [← h.2]; exact h2 y m
  exact ⟨key.1, up_ext (up_rws _ key.1) hS.1 fun ⟨y, m⟩ => by rw [key.2, hS.2]⟩
/-! ### how deep, how many -/
theorem deep_le : ∀ t : Tr, Wf t → ∀ L, (∀ x m, (x, m) ∈ t.rws → x.length ≤ L) → t.deep ≤ L + 1 := by
  refine Tr.ind (fun t n _ L _ => by simp [Tr.deep]) (fun t bs ih h L hL => ?_)
  have w := wfB_iff.mp h.2
  have hb : ∀ b ∈ bs, b.2.deep ≤ L := fun b hb => by
    obtain ⟨⟨v, k⟩, hv⟩ := rws_ne b.2 (w.1 b hb).2.2
    have m0 : ∀ w' m, (w', m) ∈ b.2.rws → t.length + b.1.length + w'.length ≤ L := fun w' m hw => by
      have := hL _ _ (mem_fork.mpr ⟨_, rfl, mem_rwss.mpr ⟨b, hb, w', rfl, hw⟩⟩)
      simp at this; omega
    by_cases e : b.1 = []
    · obtain ⟨n, en⟩ := (w.1 b hb).2.1 e
      rw [en]
      have two : ∃ c ∈ bs, c.1 ≠ [] := by
        match bs, h.1, w.2 with
        | x :: y :: r, _, pw =>
          have lt := (List.pairwise_cons.mp pw).1 y (List.mem_cons_self ..)
          exact ⟨y, List.mem_cons_of_mem _ (List.mem_cons_self ..), fun z => by rw [z] at lt; exact lt_nil _ lt⟩
      obtain ⟨c, hc, ne⟩ := two
      obtain ⟨⟨v', k'⟩, hv'⟩ := rws_ne c.2 (w.1 c hc).2.2
      have := hL _ _ (mem_fork.mpr ⟨_, rfl, mem_rwss.mpr ⟨c, hc, v', rfl, hv'⟩⟩)
      have lc : 0 < c.1.length := List.length_pos_iff.mpr ne
      simp at this
      simp [Tr.deep]; omega
    · have lb : 0 < b.1.length := List.length_pos_iff.mpr e
      have := m0 _ _ hv
      have := ih b hb (w.1 b hb).2.2 (L - 1) fun w' m hw => by have := m0 w' m hw; omega
      omega
  have : ∀ bs : List (List Nat × Tr), (∀ b ∈ bs, b.2.deep ≤ L) → deeps bs ≤ L := fun bs h => by
    induction bs with
    | nil => simp [deeps]
    | cons x r ih =>
      obtain ⟨s, u⟩ := x
      have h1 := h (s, u) (List.mem_cons_self ..)
      have h2 := ih fun b hb => h b (List.mem_cons_of_mem _ hb)
      exact Nat.max_le.mpr ⟨h1, h2⟩
  have := this bs hb
  simp [Tr.deep]; omega
theorem many_le : ∀ t : Tr, Wf t → t.many + 1 ≤ 2 * t.rws.length := by
  refine Tr.ind (fun t n _ => by simp [Tr.many, Tr.rws]) (fun t bs ih h => ?_)
  have w := wfB_iff.mp h.2
  have : ∀ bs : List (List Nat × Tr), (∀ b ∈ bs, b.2.many + 1 ≤ 2 * b.2.rws.length) → manys bs + bs.length ≤ 2 * (rwss bs).length := fun bs h => by
    induction bs with
    | nil => simp [manys, rwss]
    | cons x r ih =>
      obtain ⟨s, u⟩ := x
      have h1 := h (s, u) (List.mem_cons_self ..)
      have h2 := ih fun b hb => h b (List.mem_cons_of_mem _ hb)
      simp [manys, rwss] at *; omega
  have h2 := this bs fun b hb => ih b hb (w.1 b hb).2.2
  have := h.1
  simp [Tr.many, Tr.rws]; omega
/-- what alike wants to know -/
theorem treed_small {o : Option Tr} {R : List Row} (h : Treed o R) {L : Nat} (hl : R.length ≤ 4000) (hn : ∀ r ∈ R, r.1.length ≤ L) : plain (oD o) = true ∧ dep (oD o) ≤ 3 * L + 3 := by
  cases o with
  | none => exact ⟨rfl, by simp [oD, dep]⟩
  | some t =>
    have h1 := many_le t h.1
    have h2 := deep_le t h.1 L fun x m hx => hn (x, m) (by rw [← h.2]; exact hx)
    have h3 := t.dep_le
    rw [h.2] at h1
    exact ⟨Tr.plain t (by omega), by show dep t.toD ≤ _; omega⟩
end RT

/-! promises about trees; lists made by comprehensions -/
namespace RT
open PySem PySem.Spec PyProof.Rows L2
/-- a tree of the document, of names of at most 1000 signs, at most 5000 of them -/
def Fits (t : Tr) : Prop := Wf t ∧ (∀ x m, (x, m) ∈ t.rws → x.length ≤ 1000) ∧ t.rws.length ≤ 5000
def FitsO (o : Option Tr) : Prop := ∀ t, o = some t → Fits t
def dpt : Option Tr → Nat
  | none => 0
  | some t => t.deep
theorem rwss_len : ∀ {bs : List (List Nat × Tr)} {b : List Nat × Tr}, b ∈ bs → b.2.rws.length ≤ (rwss bs).length
  | [], _, h => by simp at h
  | (s, t) :: r, b, h => by
    simp only [rwss, List.length_append, List.length_map]
    rcases List.mem_cons.mp h with e | m
    · rw [e]; exact Nat.le_add_right _ _
    · have := rwss_len m; omega
theorem bs_len : ∀ {bs : List (List Nat × Tr)}, (∀ b ∈ bs, Wf b.2) → bs.length ≤ (rwss bs).length
  | [], _ => by simp
  | (s, t) :: r, h => by
    obtain ⟨x, hx⟩ := rws_ne t (h (s, t) (List.mem_cons_self ..))
    have h1 := List.length_pos_of_mem hx
    have := bs_len (bs := r) fun b hb => h b (List.mem_cons_of_mem _ hb)
    simp only [rwss, List.length_append, List.length_map, List.length_cons]; omega
section
variable {t : List Nat} {bs : List (List Nat × Tr)}
theorem Fits.len (h : Fits (.fork t bs)) : bs.length ≤ 5000 := by
  have w := wfB_iff.mp h.1.2
  have h1 := bs_len (bs := bs) fun b hb => (w.1 b hb).2.2
  have h2 := h.2.2
  simp only [Tr.rws, List.length_map] at h2
  omega
theorem Fits.sub (h : Fits (.fork t bs)) {b : List Nat × Tr} (hb : b ∈ bs) : Fits b.2 ∧ b.2.deep < (Tr.fork t bs).deep ∧ b.1.length ≤ 1 := by
  have w := wfB_iff.mp h.1.2
  refine ⟨⟨(w.1 b hb).2.2, fun x m hx => ?_, ?_⟩, ?_, (w.1 b hb).1⟩
  · have := h.2.1 _ _ (mem_fork.mpr ⟨_, rfl, mem_rwss.mpr ⟨b, hb, x, rfl, hx⟩⟩)
    simp at this; omega
  · have h1 := rwss_len hb
    have h2 := h.2.2
    simp only [Tr.rws, List.length_map] at h2
    omega
  · have : ∀ {bs : List (List Nat × Tr)}, b ∈ bs → b.2.deep ≤ deeps bs := fun {bs} hb => by
      induction bs with
      | nil => simp at hb
      | cons x r ih =>
        obtain ⟨s, u⟩ := x
        rcases List.mem_cons.mp hb with e | m
        · rw [e]; exact Nat.le_max_left _ _
        · exact Nat.le_trans (ih m) (Nat.le_max_right _ _)
    exact Nat.lt_succ_of_le (this hb)
end
theorem Fits.text {t : Tr} (h : Fits t) : t.text.length ≤ 1000 := by
  obtain ⟨⟨x, m⟩, hx⟩ := rws_ne t h.1
  have h1 := h.2.1 x m hx
  cases t with
  | leaf t n => rw [(mem_leaf.mp hx).1] at h1; exact h1
  | fork t bs =>
    obtain ⟨y, rfl, _⟩ := mem_fork.mp hx
    simp at h1
    show t.length ≤ 1000
    omega
theorem treed_fits {o : Option Tr} {R : List Row} (h : Treed o R) (hl : R.length ≤ 5000) (hn : ∀ r ∈ R, r.1.length ≤ 1000) : FitsO o := fun t e => by
  subst e
  exact ⟨h.1, fun x m hx => hn (x, m) (by rw [← h.2]; exact hx), by rw [h.2]; exact hl⟩
def brD (b : List Nat × Tr) : PyData := .tuple [.str (st b.1), b.2.toD]
theorem toDs_br (bs : List (List Nat × Tr)) : toDs bs = bs.map brD := toDs_map bs
/-! ### promises -/
def optV : Option Int → V
  | none => .non
  | some n => .int n
def spInner (K : PySem.W.Frag) : Sp := fun vs H Q _ => ∃ (v : V) (bs : List (List Nat × Tr)) (s : List Nat), vs = [v, .str (st s)] ∧ Dp K H v (.tuple (toDs bs)) ∧ ∀ u, Dp K H u (oD (innr bs s)) → Q u H
def spPlaced (K : PySem.W.Frag) : Sp := fun vs H Q _ => ∃ (v u : V) (bs : List (List Nat × Tr)) (b : List Nat × Tr), vs = [v, u] ∧ Dp K H v (.tuple (toDs bs)) ∧ Dp K H u (brD b) ∧ bs.length ≤ 5000 ∧ gives K H (.tuple (toDs (placed bs b))) Q
def spBranch (K : PySem.W.Frag) : Sp := fun vs H Q _ => ∃ (v : V) (t : Tr) (b : List Nat), vs = [v, .str (st b)] ∧ Dp K H v t.toD ∧ t.text.length ≤ 1000 ∧ b.length ≤ 1000 ∧ gives K H (brD (brn t b.length)) Q
def spFound (K : PySem.W.Frag) (n : Nat) : Sp := fun vs H Q _ => ∃ (v : V) (o : Option Tr) (x : List Nat), vs = [v, .str (st x)] ∧ Dp K H v (oD o) ∧ FitsO o ∧ dpt o < n ∧ x.length ≤ 1000 ∧ Q (optV (fndO o x)) H
def spPut (K : PySem.W.Frag) (n : Nat) : Sp := fun vs H Q _ => ∃ (v : V) (o : Option Tr) (x : List Nat) (k : Int), vs = [v, .str (st x), .int k] ∧ Dp K H v (oD o) ∧ FitsO o ∧ dpt o < n ∧ x.length ≤ 1000 ∧ gives K H (pttO o x k).toD Q
/-! ### lists that grow -/
def LcP (K : PySem.W.Frag) (H : Hp) (D : Addr) (ds : Nat → List PyData) (i : Nat) (H' : Hp) : Prop := Same H H' ∧ ∃ acc, H' D = some (.lst acc) ∧ DpAll K H' acc (ds i)
section
variable {K : PySem.W.Frag} {H H' H4 : Hp} {D : Addr} {ds : Nat → List PyData} {i : Nat} {y : V} {d : PyData}
theorem lcp0 (hD : H D = none) (h : ds 0 = []) : LcP K H D ds 0 (upd H D (.lst [])) := ⟨same_new hD _, [], upd_same, by rw [h]; exact .nil⟩
theorem same_off (hD : H D = none) (s : Same H H4) (o : HO) : Same H (upd H4 D o) := fun b u e => by
  rw [upd_ne (ne_of_none e hD)]; exact s b u e
theorem lcp_add (h : LcP K H D ds i H') (hD : H D = none) (s : Same H' H4) (hy : Dp K H4 y d) (e : ds (i + 1) = ds i ++ [d]) (n1 : nolists (ds i) = true) (n2 : nolist d = true) (hl : (ds i).length ≤ 20000) :
    ∃ acc, H4 D = some (.lst acc) ∧ acc.length < sizeLine ∧ LcP K H D ds (i + 1) (upd H4 D (.lst (acc ++ [y]))) := by
  obtain ⟨s0, acc, ha, hd⟩ := h
  have h4 := s _ _ ha
  have hk := keep_upd h4 (.lst (acc ++ [y]))
  refine ⟨acc, h4, by rw [DpAll_len hd]; exact Nat.lt_of_le_of_lt hl (by decide), same_off hD (s0.trans s) _, acc ++ [y], upd_same, ?_⟩
  rw [e]
  exact DpAll_app (DpAll_keep hk n1 (DpAll_same s hd)) (.cons (Dp_keep hk n2 hy) .nil)
theorem lcp_skip (h : LcP K H D ds i H') (s : Same H' H4) (e : ds (i + 1) = ds i) : LcP K H D ds (i + 1) H4 := by
  obtain ⟨s0, acc, ha, hd⟩ := h
  exact ⟨s0.trans s, acc, s _ _ ha, by rw [e]; exact DpAll_same s hd⟩
end
/-- the first i, kept by a test, turned by a function -/
def fm {α : Type} (l : List α) (p : α → Bool) (g : α → PyData) (i : Nat) : List PyData := ((l.take i).filter p).map g
theorem fm_yes {α : Type} {l : List α} {p : α → Bool} {g : α → PyData} {i : Nat} {a : α} (h : l[i]? = some a) (hp : p a = true) : fm l p g (i + 1) = fm l p g i ++ [g a] := by
  unfold fm
  rw [List.take_add_one, h]
  simp [hp]
theorem fm_no {α : Type} {l : List α} {p : α → Bool} {g : α → PyData} {i : Nat} {a : α} (h : l[i]? = some a) (hp : p a = false) : fm l p g (i + 1) = fm l p g i := by
  unfold fm
  rw [List.take_add_one, h]
  simp [hp]
theorem fm_len {α : Type} {l : List α} {p : α → Bool} {g : α → PyData} {i : Nat} : (fm l p g i).length ≤ l.length := by
  unfold fm
  rw [List.length_map]
  exact Nat.le_trans (List.length_filter_le _ _) (by rw [List.length_take]; exact Nat.min_le_right _ _)
theorem fm_all {α : Type} {l : List α} {p : α → Bool} {g : α → PyData} : fm l p g l.length = (l.filter p).map g := by
  unfold fm; rw [List.take_length]
theorem fm_nolist {α : Type} {l : List α} {p : α → Bool} {g : α → PyData} (h : ∀ a, nolist (g a) = true) {i : Nat} : nolists (fm l p g i) = true := by
  unfold fm
  induction (l.take i).filter p with
  | nil => rfl
  | cons x r ih => simp [nolists, h, ih]
theorem brD_nolist (b : List Nat × Tr) : nolist (brD b) = true := by simp [brD, nolist, nolists, Tr.nolist]
theorem rowD_nolist (b : Row) : nolist (rowD b) = true := rfl
theorem DpAll_map {α : Type} {K : PySem.W.Frag} {H : Hp} {xs : List V} {l : List α} {g : α → PyData} {i : Nat} {x : V} (h : DpAll K H xs (l.map g)) (hx : xs[i]? = some x) : ∃ a, l[i]? = some a ∧ Dp K H x (g a) := by
  obtain ⟨d, hd, hp⟩ := DpAll_get' h hx
  rw [List.getElem?_map] at hd
  cases ha : l[i]? with
  | none => rw [ha] at hd; cases hd
  | some a => rw [ha] at hd; cases hd; exact ⟨a, rfl, hp⟩
end RT
namespace RT
open PySem PySem.Spec PyProof.Rows L2
def GoodR (r : Row) : Prop := r.1.length ≤ 40 ∧ (∀ c ∈ r.1, c ∈ signTab) ∧ r.2.natAbs < 10 ^ 60
/-- rows as the law makes them -/
def Good (R : List Row) : Prop := Up R ∧ R.length ≤ 150 ∧ ∀ r ∈ R, GoodR r
def spCount : Sp := fun vs H Q _ => ∃ c : Int, vs = [.int c] ∧ ∀ n : Int, 0 ≤ n → n ≤ 150 → Q (.int n) H
def spRows (K : PySem.W.Frag) : Sp := fun vs H Q _ => ∃ (a : Addr) (ns : List Int) (i n : Int), vs = [.ref a, .int i, .int n] ∧ SqL K H a (ns.map V.int) ∧ 0 ≤ i ∧ 0 ≤ n ∧ n ≤ 150 ∧
  ∀ (R : List Row) (v : V) (H' : Hp), Good R → Same H H' → Dp K H' v (.list (R.map rowD)) → Q v H'
/-- the same, the list a new one -/
def spRowsL (K : PySem.W.Frag) : Sp := fun vs H Q _ => ∃ (a : Addr) (ns : List Int) (i n : Int), vs = [.ref a, .int i, .int n] ∧ SqL K H a (ns.map V.int) ∧ 0 ≤ i ∧ 0 ≤ n ∧ n ≤ 150 ∧
  ∀ (R : List Row) (L : Addr) (acc : List V) (H' : Hp), Good R → Same H H' → H' L = some (.lst acc) → DpAll K H' acc (R.map rowD) → Q (.ref L) H'
theorem rowsL {K : PySem.W.Frag} (vs : List V) (H : Hp) (Q : VK) (E : XK) (h : spRows K vs H Q E) : spRowsL K vs H Q E := by
  obtain ⟨a, ns, i, n, e, h1, h2, h3, h4, q⟩ := h
  exact ⟨a, ns, i, n, e, h1, h2, h3, h4, fun R L acc H' g s l d => q R _ H' g s (.lst (SqL.of l) d)⟩
theorem Has.imp {P : Program} {w : World} {K : PySem.W.Frag} {mg : Str → Option Value} {base : Heap} {x : Str} {ps : List Str} {k : Nat} {sp sp' : Sp} (h : Has P w K mg base x ps k sp) (i : ∀ vs H Q E, sp' vs H Q E → sp vs H Q E) : Has P w K mg base x ps k sp' := by
  obtain ⟨f, fd, G, b, kp, m⟩ := h.ex
  exact ⟨f, fd, G.imp i, b, kp, m⟩
theorem numGo_lt (c : Int) : ∀ k, 0 ≤ (numGo c k).2 ∧ (numGo c k).2 < 10 ^ k
  | 0 => by simp [numGo]
  | k + 1 => by
    have ih := numGo_lt c k
    have h : 0 ≤ lcg (numGo c k).1 / 7 % 10 ∧ lcg (numGo c k).1 / 7 % 10 < 10 := by omega
    simp only [numGo, Int.pow_succ]
    omega
theorem numOf_lt (c : Int) : (numOf c).natAbs < 10 ^ 60 := by
  unfold numOf
  split
  · have : (60 : Nat) ≤ 10 ^ 60 := by decide
    omega
  · generalize hk : (if c % 5 = 0 then (60 : Int) else 1 + c / 10 % 60).toNat = k
    have hk' : k ≤ 60 := by
      rw [← hk]; split
      · decide
      · have : c / 10 % 60 < 60 := by omega
        have : 0 ≤ c / 10 % 60 := by omega
        omega
    obtain ⟨h1, h2⟩ := numGo_lt c k
    have h3 : (10 : Nat) ^ k ≤ 10 ^ 60 := Nat.pow_le_pow_right (by decide) hk'
    have h4 : ((numGo c k).2).natAbs < 10 ^ 60 := by
      have e : ((10 ^ k : Nat) : Int) = (10 : Int) ^ k := by rw [Int.natCast_pow]; rfl
      omega
    rw [Int.natAbs_mul]
    split
    · simpa using h4
    · simpa using h4
end RT
namespace RT
open PySem PySem.Spec PyProof.Rows L2
theorem room_units {k : Nat} {A : Around} (r : Room k A) : A.units + 100 < cLine := by have := r.un; omega
theorem sgn_inj {c d : Int} (h : sgn c = sgn d) : c % 94 = d % 94 := by
  have nd : signTab.Nodup := by decide
  have h1 := sgn_at c
  have h2 := sgn_at d
  rw [← h] at h2
  have e := nd_ix nd h1 h2
  omega
end RT
namespace RT
open PySem PySem.Spec PyProof.Rows L2
theorem tab_ok : ∀ c ∈ signTab, c < 127 := by decide
theorem st_ok {l : List Nat} (h : ∀ c ∈ l, c ∈ signTab) : PyData.strOk (st l) = true := by
  unfold PyData.strOk
  simp only [List.all_toArray, List.all_eq_true, decide_eq_true_eq]
  intro c hc
  have := tab_ok c (h c hc)
  omega
theorem rows_shaped {R : List Row} (h : ∀ r ∈ R, ∀ c ∈ r.1, c ∈ signTab) : SeqAt.shaped (.list (R.map rowD)) = true := by
  have h1 : ∀ R : List Row, (∀ r ∈ R, ∀ c ∈ r.1, c ∈ signTab) → PyData.canLayAll0 (R.map rowD) = true ∧ PyData.depthAll (R.map rowD) ≤ 1 := fun R h => by
    induction R with
    | nil => exact ⟨rfl, by simp [PyData.depthAll]⟩
    | cons x r ih =>
      obtain ⟨i1, i2⟩ := ih fun a ha => h a (List.mem_cons_of_mem _ ha)
      have hx := st_ok (h x (List.mem_cons_self ..))
      constructor
      · simp [PyData.canLayAll0, rowD, PyData.canLay0, hx, i1]
      · simp only [List.map_cons, PyData.depthAll, rowD, PyData.depth]; omega
  obtain ⟨a, b⟩ := h1 R h
  unfold SeqAt.shaped
  rw [show PyData.canLay0 (.list (R.map rowD)) = true by simpa [PyData.canLay0] using a]
  rw [decide_eq_true (show PyData.depth (.list (R.map rowD)) ≤ 64 by simp only [PyData.depth]; omega)]
  rfl
/-! ### rows by their number -/
def rd (r : Nat → Row) (i : Nat) : List PyData := ((List.range i).map r).map rowD
theorem rd_succ (r : Nat → Row) (i : Nat) : rd r (i + 1) = rd r i ++ [rowD (r i)] := by
  unfold rd; rw [List.range_succ, List.map_append, List.map_append]; rfl
theorem rd_nolist (r : Nat → Row) (i : Nat) : nolists (rd r i) = true := by
  unfold rd
  induction (List.range i).map r with
  | nil => rfl
  | cons x l ih => simp [nolists, rowD, nolist, ih]
theorem rd_len (r : Nat → Row) (i : Nat) : (rd r i).length = i := by simp [rd]
theorem names_range {r : Nat → Row} {n : Nat} (h : ∀ i j, i < j → j < n → (r i).1 ≠ (r j).1) : Names ((List.range n).map r) := by
  unfold Names
  rw [List.map_map]
  refine List.pairwise_map.mpr (List.Pairwise.imp_of_mem (fun ha hb hlt => ?_) List.pairwise_lt_range)
  exact h _ _ hlt (List.mem_range.mp hb)
theorem up_range {r : Nat → Row} {n : Nat} (h : ∀ i j, i < j → j < n → (r i).1 < (r j).1) : Up ((List.range n).map r) := by
  refine List.pairwise_map.mpr (List.Pairwise.imp_of_mem (fun ha hb hlt => ?_) List.pairwise_lt_range)
  exact h _ _ hlt (List.mem_range.mp hb)
theorem take_lt {l : List Nat} {i j : Nat} (h : i < j) (hj : j ≤ l.length) : l.take i < l.take j := by
  have e : l.take j = l.take i ++ (l.take j).drop i := by
    have h1 : (l.take j).take i = l.take i := by rw [List.take_take, Nat.min_eq_left (by omega)]
    rw [← h1, List.take_append_drop]
  have h2 := (app_lt (l.take i) (a := []) (b := (l.take j).drop i)).mpr (nil_lt fun z => by
    have := congrArg List.length z
    simp at this; omega)
  rw [List.append_nil, ← e] at h2
  exact h2
theorem word_tab (c n : Int) : ∀ x ∈ word c n, x ∈ signTab := word_mem c n
/-- sorted rows are as good -/
theorem good_perm {R S : List Row} (p : S.Perm R) (u : Up S) (hl : R.length ≤ 150) (h : ∀ r ∈ R, GoodR r) : Good S := ⟨u, by rw [p.length_eq]; exact hl, fun r hr => h r (p.mem_iff.mp hr)⟩
theorem mem_range_map {r : Nat → Row} {n : Nat} {P : Row → Prop} (h : ∀ i, i < n → P (r i)) : ∀ x ∈ (List.range n).map r, P x := fun x hx => by
  obtain ⟨i, hi, rfl⟩ := List.mem_map.mp hx
  exact h i (List.mem_range.mp hi)
end RT
namespace RT
open PySem PySem.Spec PyProof.Rows L2
theorem yes_if {σ : L2.St} {H : Hp} {F G : Hp → Prop} (h : F H) : tYes σ H fun b H3 => if b = true then F H3 else G H3 := by
  show (if true = true then F H else G H)
  rw [if_pos rfl]
  exact h
end RT

/-! the law's own tree of rows -/
namespace RT
open PySem PySem.Spec PyProof.Rows L2
theorem between {p : List Nat} : ∀ {a b x : List Nat}, p <+: a → p <+: b → ¬ x < a → ¬ b < x → p <+: x := by
  induction p with
  | nil => intro a b x _ _ _ _; exact List.nil_prefix
  | cons c p ih =>
    intro a b x ha hb h1 h2
    obtain ⟨a', rfl⟩ := ha
    obtain ⟨b', rfl⟩ := hb
    cases x with
    | nil => exact absurd (List.nil_lt_cons _ _) h1
    | cons d x =>
      have e1 : ¬ d < c := fun z => h1 (cons_lt.mpr (.inl z))
      have e2 : ¬ c < d := fun z => h2 (cons_lt.mpr (.inl z))
      have e : c = d := by omega
      subst e
      have := ih (a := p ++ a') (b := p ++ b') (x := x) (List.prefix_append _ _) (List.prefix_append _ _) (fun z => h1 (cons_lt.mpr (.inr ⟨rfl, z⟩))) (fun z => h2 (cons_lt.mpr (.inr ⟨rfl, z⟩)))
      exact (List.prefix_cons_inj c).mpr this
/-- a row's sign behind k signs, and what is behind it -/
def sg (k : Nat) (r : Row) : List Nat := (r.1.drop k).take 1
def strip (k : Nat) (r : Row) : Row := (r.1.drop (k + 1), r.2)
theorem sg_len (k : Nat) (r : Row) : (sg k r).length ≤ 1 := by unfold sg; rw [List.length_take]; omega
theorem row_split {p : List Nat} {r : Row} (h : p <+: r.1) : r.1 = p ++ (sg p.length r ++ (strip p.length r).1) := by
  obtain ⟨y, hy⟩ := h
  unfold sg strip
  have e : r.1.drop (p.length + 1) = (r.1.drop p.length).drop 1 := by rw [List.drop_drop]
  show r.1 = p ++ ((r.1.drop p.length).take 1 ++ r.1.drop (p.length + 1))
  rw [e, List.take_append_drop, ← hy, List.drop_left]
theorem sign_mono {y z : List Nat} (h : y < z) : ¬ z.take 1 < y.take 1 := by
  intro h2
  match y, z, h, h2 with
  | [], z, _, h2 => exact lt_nil _ h2
  | a :: r, [], h, _ => exact lt_nil _ h
  | a :: r, b :: s, h, h2 =>
    have h2 : [b] < [a] := h2
    rcases cons_lt.mp h2 with h2 | ⟨_, h2⟩
    · rcases cons_lt.mp h with h | ⟨h, _⟩ <;> omega
    · exact lt_irr _ h2
theorem sg_mono {p : List Nat} {r r' : Row} (h1 : p <+: r.1) (h2 : p <+: r'.1) (h : r.1 < r'.1) : ¬ sg p.length r' < sg p.length r := by
  obtain ⟨y, hy⟩ := h1
  obtain ⟨z, hz⟩ := h2
  unfold sg
  rw [← hy, ← hz] at h ⊢
  rw [List.drop_left, List.drop_left]
  exact sign_mono ((app_lt p).mp h)
/-- rows whose signs don't fall: those of the least one stand first -/
theorem first_group {k : Nat} {s : List Nat} : ∀ {B : List Row}, B.Pairwise (fun a b => ¬ sg k b < sg k a) → (∀ b ∈ B, ¬ sg k b < s) → B = B.filter (fun r => decide (sg k r = s)) ++ B.filter (fun r => !decide (sg k r = s))
  | [], _, _ => rfl
  | x :: r, hp, hs => by
    obtain ⟨h1, h2⟩ := List.pairwise_cons.mp hp
    by_cases e : sg k x = s
    · have ih := first_group h2 fun b hb => hs b (List.mem_cons_of_mem _ hb)
      rw [List.filter_cons_of_pos (by simpa using e), List.filter_cons_of_neg (by simpa using e), List.cons_append, ← ih]
    · have hx : s < sg k x := by
        refine Decidable.byContradiction fun z => e (lt_tri (hs x (List.mem_cons_self ..)) z).symm.symm
      have none : (x :: r).filter (fun r => decide (sg k r = s)) = [] := by
        refine List.filter_eq_nil_iff.mpr fun b hb => ?_
        have hb' : ¬ sg k b = s := fun z => by
          rcases List.mem_cons.mp hb with eb | mb
          · rw [eb] at z; exact e z
          · have := h1 b mb
            rw [z] at this; exact this hx
        simpa using hb'
      have all : (x :: r).filter (fun r => !decide (sg k r = s)) = x :: r := by
        refine List.filter_eq_self.mpr fun b hb => ?_
        have := List.filter_eq_nil_iff.mp none b hb
        simpa using this
      rw [none, all]; rfl
/-- the first text with which all begin -/
theorem all_begin {R : List Row} (h : Up R) {a b : Row} (ha : R.head? = some a) (hb : R.getLast? = some b) : ∀ r ∈ R, a.1.take (lcp a.1 b.1) <+: r.1 := by
  intro r hr
  refine between (a := a.1) (b := b.1) (List.take_prefix _ _) (by rw [lcp_take]; exact List.take_prefix _ _) (fun z => ?_) (fun z => ?_)
  · cases R with
    | nil => simp at hr
    | cons x s =>
      have ha : x = a := by simpa using ha
      subst ha
      rcases List.mem_cons.mp hr with e | m
      · rw [e] at z; exact lt_irr _ z
      · exact lt_irr _ (lt_trans z ((List.pairwise_cons.mp h).1 r m))
  · obtain ⟨ys, e⟩ := List.getLast?_eq_some_iff.mp hb
    rw [e] at h hr
    obtain ⟨_, _, h3⟩ := List.pairwise_append.mp h
    rcases List.mem_append.mp hr with m | m
    · exact lt_irr _ (lt_trans z (h3 r m b (by simp)))
    · have : r = b := by simpa using m
      rw [this] at z; exact lt_irr _ z
/-- branches made of the rows A so far, B left -/
structure Grown (p : List Nat) (bs : List (List Nat × Tr)) (A B : List Row) : Prop where
  wf : WfB bs
  mem : ∀ y m, (y, m) ∈ rwss bs ↔ (p ++ y, m) ∈ A
  sig : ∀ b ∈ bs, ∃ a ∈ A, sg p.length a = b.1
  low : ∀ a ∈ A, ∀ b ∈ B, sg p.length a < sg p.length b
theorem grown0 (p : List Nat) (B : List Row) : Grown p [] [] B := ⟨trivial, fun y m => by simp [rwss], fun b h => by simp at h, fun a h => by simp at h⟩
/-- one group more -/
theorem grow {p : List Nat} {bs : List (List Nat × Tr)} {A B : List Row} (g : Grown p bs A B) (up : Up (A ++ B)) (pre' : ∀ r ∈ A ++ B, p <+: r.1) {b0 : Row} (h0 : b0 ∈ B) (hmin : ∀ b ∈ B, ¬ sg p.length b < sg p.length b0)
    {t : Tr} (ht : Treed (some t) ((B.filter fun r => decide (sg p.length r = sg p.length b0)).map (strip p.length))) :
    Grown p (bs ++ [(sg p.length b0, t)]) (A ++ B.filter fun r => decide (sg p.length r = sg p.length b0)) (B.filter fun r => !decide (sg p.length r = sg p.length b0)) := by
  have preB : ∀ r ∈ B, p <+: r.1 := fun r hr => pre' r (List.mem_append_right _ hr)
  have okb : OkB (sg p.length b0, t) := by
    refine ⟨sg_len _ _, fun e => ?_, ht.1⟩
    have e : sg p.length b0 = [] := e
    -- one row alone
    have single : ∀ r ∈ t.rws, r.1 = [] := fun r hr => by
      rw [ht.2] at hr
      obtain ⟨q, hq, rfl⟩ := List.mem_map.mp hr
      obtain ⟨hqB, hqs⟩ := List.mem_filter.mp hq
      have hqs : sg p.length q = sg p.length b0 := by simpa using hqs
      rw [e] at hqs
      show q.1.drop (p.length + 1) = []
      have hd : q.1.drop p.length = [] := by
        unfold sg at hqs
        cases hd : q.1.drop p.length with
        | nil => rfl
        | cons x l => rw [hd] at hqs; simp at hqs
      rw [← List.drop_drop, hd]; rfl
    obtain ⟨⟨x, n⟩, hx⟩ := rws_ne t ht.1
    have hx0 : x = [] := single _ hx
    subst hx0
    refine ⟨n, one_tree t ht.1 (.leaf [] n) trivial fun ⟨y, m⟩ => ?_⟩
    rw [mem_leaf]
    constructor
    · intro hy
      have := single _ hy
      have hy0 : y = [] := this
      subst hy0
      exact ⟨rfl, up_inj (up_rws t ht.1) hy hx⟩
    · rintro ⟨rfl, rfl⟩; exact hx
  have w := wfB_iff.mp g.wf
  refine ⟨wfB_iff.mpr ⟨fun b hb => ?_, List.pairwise_append.mpr ⟨w.2, List.pairwise_singleton _ _, fun b hb c hc => ?_⟩⟩, fun y m => ?_, fun b hb => ?_, fun a ha b hb => ?_⟩
  · rcases List.mem_append.mp hb with hb | hb
    · exact w.1 b hb
    · have : b = (sg p.length b0, t) := by simpa using hb
      rw [this]; exact okb
  · have : c = (sg p.length b0, t) := by simpa using hc
    rw [this]
    obtain ⟨a, ha, e⟩ := g.sig b hb
    rw [← e]
    exact g.low a ha b0 h0
  · have e1 : (y, m) ∈ rwss (bs ++ [(sg p.length b0, t)]) ↔ (y, m) ∈ rwss bs ∨ ∃ w, y = sg p.length b0 ++ w ∧ (w, m) ∈ t.rws := by
      rw [mem_rwss, mem_rwss]
      constructor
      · rintro ⟨b, hb, v, h1, h2⟩
        rcases List.mem_append.mp hb with hb | hb
        · exact .inl ⟨b, hb, v, h1, h2⟩
        · have : b = (sg p.length b0, t) := by simpa using hb
          subst this; exact .inr ⟨v, h1, h2⟩
      · rintro (⟨b, hb, v, h1, h2⟩ | ⟨v, h1, h2⟩)
        · exact ⟨b, List.mem_append_left _ hb, v, h1, h2⟩
        · exact ⟨_, List.mem_append_right _ (List.mem_singleton.mpr rfl), v, h1, h2⟩
    rw [e1, g.mem, List.mem_append, ht.2]
    refine or_congr Iff.rfl ?_
    constructor
    · rintro ⟨v, rfl, hv⟩
      obtain ⟨q, hq, eq⟩ := List.mem_map.mp hv
      injection eq with eq1 eq2
      obtain ⟨hqB, hqs⟩ := List.mem_filter.mp hq
      have hqs : sg p.length q = sg p.length b0 := by simpa using hqs
      have rs := row_split (preB q hqB)
      rw [hqs] at rs
      have : q = (p ++ (sg p.length b0 ++ v), m) := Prod.ext (by rw [rs]; show p ++ (_ ++ (strip p.length q).1) = _; rw [show (strip p.length q).1 = v from eq1]) eq2
      rw [← this]; exact hq
    · intro hq
      have hqs := (List.mem_filter.mp hq).2
      have hqB := (List.mem_filter.mp hq).1
      have hqs : sg p.length (p ++ y, m) = sg p.length b0 := by simpa using hqs
      have rs := row_split (preB _ hqB)
      rw [hqs] at rs
      have rs : y = sg p.length b0 ++ (strip p.length (p ++ y, m)).1 := List.append_cancel_left rs
      exact ⟨_, rs, List.mem_map.mpr ⟨_, hq, rfl⟩⟩
  · rcases List.mem_append.mp hb with hb | hb
    · obtain ⟨a, ha, e⟩ := g.sig b hb
      exact ⟨a, List.mem_append_left _ ha, e⟩
    · have : b = (sg p.length b0, t) := by simpa using hb
      rw [this]
      exact ⟨b0, List.mem_append_right _ (List.mem_filter.mpr ⟨h0, by simp⟩), rfl⟩
  · obtain ⟨hbB, hbs⟩ := List.mem_filter.mp hb
    have hbs : ¬ sg p.length b = sg p.length b0 := by simpa using hbs
    rcases List.mem_append.mp ha with ha | ha
    · exact g.low a ha b hbB
    · have hs := (List.mem_filter.mp ha).2
      have hs : sg p.length a = sg p.length b0 := by simpa using hs
      rw [hs]
      exact Decidable.byContradiction fun z => hbs (lt_tri (hmin b hbB) z)
/-- the group's rows, stripped, are risen rows -/
theorem up_strip {p : List Nat} {B : List Row} {s : List Nat} (up : Up B) (preB : ∀ r ∈ B, p <+: r.1) : Up ((B.filter fun r => decide (sg p.length r = s)).map (strip p.length)) := by
  refine List.pairwise_map.mpr (List.Pairwise.imp_of_mem (fun {a b} ha hb h => ?_) (up.filter _))
  obtain ⟨ha1, ha2⟩ := List.mem_filter.mp ha
  obtain ⟨hb1, hb2⟩ := List.mem_filter.mp hb
  have ha2 : sg p.length a = s := by simpa using ha2
  have hb2 : sg p.length b = s := by simpa using hb2
  have ra := row_split (preB a ha1)
  have rb := row_split (preB b hb1)
  rw [ra, rb, ha2, hb2] at h
  exact (app_lt s).mp ((app_lt p).mp h)
/-- all rows are in the branches: the fork -/
theorem grown_all {R : List Row} (h : Up R) (h2 : 2 ≤ R.length) {a b : Row} (ha : R.head? = some a) (hb : R.getLast? = some b) {bs : List (List Nat × Tr)} (g : Grown (a.1.take (lcp a.1 b.1)) bs R []) :
    Treed (some (.fork (a.1.take (lcp a.1 b.1)) bs)) R := by
  have ab := all_begin h ha hb
  have pl : (a.1.take (lcp a.1 b.1)).length = lcp a.1 b.1 := by
    rw [List.length_take]; have := lcp_le1 a.1 b.1; omega
  generalize hp : a.1.take (lcp a.1 b.1) = p at *
  have w := wfB_iff.mp g.wf
  have ne : a.1 ≠ b.1 := by
    match R, h2, ha, hb, h with
    | x :: y :: r, _, ha, hb, h =>
      have ha : x = a := by simpa using ha
      subst ha
      intro e
      have hm : b ∈ y :: r := by
        rw [List.getLast?_cons_cons] at hb
        exact List.mem_of_getLast? hb
      have := (List.pairwise_cons.mp h).1 b hm
      rw [e] at this; exact lt_irr _ this
  have ma : a ∈ R := List.mem_of_mem_head? (by rw [ha]; rfl)
  have mb : b ∈ R := List.mem_of_getLast? hb
  have dn : sg p.length a ≠ sg p.length b := by
    unfold sg
    rw [pl]
    exact drop_ne fun ⟨h1, h2⟩ => ne (List.IsPrefix.eq_of_length (lcp_len_iff.mp h1) (by omega))
  have inb : ∀ r ∈ R, ∃ c ∈ bs, c.1 = sg p.length r := fun r hr => by
    have rs := row_split (ab r hr)
    have hr' : (p ++ (sg p.length r ++ (strip p.length r).1), r.2) ∈ R := by rw [← rs]; exact hr
    obtain ⟨c, hc, v, e, hv⟩ := mem_rwss.mp ((g.mem _ _).mpr hr')
    refine ⟨c, hc, ?_⟩
    have s1 := (sign_of (w.1 c hc) hv).1
    rw [s1, ← e]
    have hs : (sg p.length r).length ≤ 1 := sg_len _ _
    unfold sg strip
    rw [← List.drop_drop, List.take_append_drop]
  obtain ⟨c1, hc1, e1⟩ := inb a ma
  obtain ⟨c2, hc2, e2⟩ := inb b mb
  have wf : Wf (.fork p bs) := ⟨two_of hc1 hc2 fun e => dn (by rw [← e1, ← e2, e]), g.wf⟩
  refine ⟨wf, up_ext (up_rws _ wf) h fun ⟨x, m⟩ => ?_⟩
  rw [mem_fork]
  constructor
  · rintro ⟨y, rfl, hy⟩; exact (g.mem y m).mp hy
  · intro hr
    obtain ⟨y, hy⟩ := ab _ hr
    have hy : p ++ y = x := hy
    subst hy
    exact ⟨y, rfl, (g.mem y m).mpr hr⟩
/-- `_law_tree`'s promise at n calls -/
def spTree (K : PySem.W.Frag) (n : Nat) : Sp := fun vs H Q _ => ∃ (v : V) (R : List Row), vs = [v] ∧ Dp K H v (.list (R.map rowD)) ∧ Up R ∧ R.length ≤ 4000 ∧ (∀ r ∈ R, (∀ c ∈ r.1, c ∈ signTab) ∧ r.1.length ≤ 1000) ∧
  1 ≤ n ∧ (R.length ≤ 1 ∨ ∀ r ∈ R, r.1.length + 2 ≤ n) ∧ ∀ (o : Option Tr) (u : V) (H' : Hp), Treed o R → Same H H' → Dp K H' u (oD o) → Q u H'
theorem atI_end {α : Type} {xs : List α} {v : α} (h : xs.getLast? = some v) : atI xs (-1) = some v := by
  obtain ⟨ys, rfl⟩ := List.getLast?_eq_some_iff.mp h
  exact atI_last ys v
theorem DpAll_last {K : PySem.W.Frag} {H : Hp} {xs : List V} {R : List Row} {b : Row} (h : DpAll K H xs (R.map rowD)) (hb : R.getLast? = some b) : ∃ v, xs.getLast? = some v ∧ Dp K H v (rowD b) := by
  have hl : xs.length = R.length := by rw [DpAll_len h, List.length_map]
  rw [List.getLast?_eq_getElem?] at hb
  have hd : (R.map rowD)[R.length - 1]? = some (rowD b) := by rw [List.getElem?_map, hb]; rfl
  obtain ⟨v, hv, hdv⟩ := DpAll_get h hd
  exact ⟨v, by rw [List.getLast?_eq_getElem?, hl]; exact hv, hdv⟩
end RT
namespace RT
open PySem PySem.Spec PyProof.Rows L2
def spName (K : PySem.W.Frag) : Sp := fun vs H Q _ => ∃ (c : Int) (v : V) (R : List Row), vs = [.int c, v] ∧ Dp K H v (.list (R.map rowD)) ∧ Good R ∧
  ∀ (w : List Nat) (H' : Hp), w.length ≤ 40 → (∀ x ∈ w, x ∈ signTab) → Same H H' → Q (.str (st w)) H'
def optD : Option Int → PyData
  | none => .none
  | some n => .int n
theorem Dp_opt {K : PySem.W.Frag} {H : Hp} (o : Option Int) : Dp K H (optV o) (optD o) := by
  cases o with
  | none => exact .non
  | some n => exact .int n
/-- good rows, their tree -/
theorem good_fits {o : Option Tr} {R : List Row} (h : Treed o R) (g : Good R) : FitsO o ∧ dpt o < 50 := by
  refine ⟨treed_fits h (by have := g.2.1; omega) (fun r hr => by have := (g.2.2 r hr).1; omega), ?_⟩
  cases o with
  | none => show 0 < 50; decide
  | some t =>
    have := deep_le t h.1 40 fun x m hx => (g.2.2 (x, m) (by rw [← h.2]; exact hx)).1
    show t.deep < 50
    omega
/-- what a plain list tells for a name -/
theorem held_of {o : Option Tr} {R : List Row} (h : Treed o R) (up : Up R) (x : List Nat) :
    (fndO o x = none ∧ R.filter (fun r => decide (r.1 = x)) = []) ∨ ∃ n, fndO o x = some n ∧ R.filter (fun r => decide (r.1 = x)) = [(x, n)] := by
  have key : ∀ n, fndO o x = some n ↔ (x, n) ∈ R := fun n => by
    cases o with
    | none =>
      have e : R = [] := h
      rw [e]; simp [fndO]
    | some t => rw [← h.2]; exact fnd_iff t h.1 x n
  cases e : fndO o x with
  | none =>
    refine .inl ⟨rfl, List.filter_eq_nil_iff.mpr fun r hr => ?_⟩
    have : ¬ r.1 = x := fun z => by
      have := (key r.2).mpr (by rw [← z]; exact hr)
      rw [e] at this; cases this
    simpa using this
  | some n =>
    refine .inr ⟨n, rfl, up_ext (up.filter _) (List.pairwise_singleton _ _) fun r => ?_⟩
    rw [List.mem_filter, List.mem_singleton]
    constructor
    · rintro ⟨h1, h2⟩
      have h2 : r.1 = x := by simpa using h2
      have h3 : (x, r.2) ∈ R := by rw [← h2]; exact h1
      have := up_inj up h3 ((key n).mp e)
      exact Prod.ext h2 this
    · rintro rfl
      exact ⟨(key n).mp e, by simp⟩
/-- a plain list with a name's row put in -/
theorem put_rows {R S : List Row} {x : List Nat} {n : Int} (up : Up S) (hp : S.Perm (R.filter (fun r => !decide (r.1 = x)) ++ [(x, n)])) : putR R x n S := by
  refine ⟨up, fun y m => ?_⟩
  rw [hp.mem_iff, List.mem_append, List.mem_filter, List.mem_singleton]
  simp
theorem put_names {R : List Row} {x : List Nat} {n : Int} (h : Names R) : Names (R.filter (fun r => !decide (r.1 = x)) ++ [(x, n)]) := by
  unfold Names
  rw [List.map_append]
  refine List.pairwise_append.mpr ⟨List.Pairwise.sublist (List.Sublist.map _ List.filter_sublist) h, List.pairwise_singleton _ _, ?_⟩
  intro a ha b hb
  obtain ⟨r, hr, rfl⟩ := List.mem_map.mp ha
  have hb : b = x := by simpa using hb
  have := (List.mem_filter.mp hr).2
  rw [hb]; simpa using this
end RT

/-! a name taken out -/
namespace RT
open PySem PySem.Spec PyProof.Rows L2
/-- the tree of a fork's branches, of which one alone may be left -/
def knt (t : List Nat) : List (List Nat × Tr) → Option Tr
  | [] => none
  | [b] => some (b.2.ahd (t ++ b.1))
  | bs => some (.fork t bs)
mutual
def wot : Tr → List Nat → Option Tr
  | .leaf _ _, _ => none
  | .fork t bs, x =>
    match wotIn bs ((x.drop t.length).take 1) ((x.drop t.length).drop 1) with
    | some u => some (.fork t (placed bs ((x.drop t.length).take 1, u)))
    | none => knt t (bs.filter fun b => !decide (b.1 = (x.drop t.length).take 1))
def wotIn : List (List Nat × Tr) → List Nat → List Nat → Option Tr
  | [], _, _ => none
  | (a, t) :: r, s, y => if a = s then wot t y else wotIn r s y
end
theorem wotIn_eq : ∀ (bs : List (List Nat × Tr)) (s y : List Nat), wotIn bs s y = (innr bs s).bind fun t => wot t y
  | [], _, _ => rfl
  | (a, t) :: r, s, y => by
    unfold wotIn innr
    by_cases h : a = s
    · rw [if_pos h, if_pos h]; rfl
    · rw [if_neg h, if_neg h]; exact wotIn_eq r s y
/-- what is left behind: nothing, or a tree of the document -/
def Left (t : Tr) (x : List Nat) : Option Tr → Prop
  | none => ∀ y m, (y, m) ∈ t.rws → y = x
  | some u => Wf u ∧ ∀ y m, (y, m) ∈ u.rws ↔ (y, m) ∈ t.rws ∧ y ≠ x
theorem knt_ok {t : List Nat} {bs : List (List Nat × Tr)} (h : (∀ b ∈ bs, OkB b) ∧ bs.Pairwise fun a b => a.1 < b.1) (ne : bs ≠ []) :
    ∃ u, knt t bs = some u ∧ Wf u ∧ ∀ y m, (y, m) ∈ u.rws ↔ ∃ z, y = t ++ z ∧ (z, m) ∈ rwss bs := by
  match bs, h, ne with
  | [b], h, _ =>
    refine ⟨_, rfl, wf_ahd (h.1 b (List.mem_cons_self ..)).2.2, fun y m => ?_⟩
    rw [rws_ahd, List.mem_map]
    constructor
    · rintro ⟨⟨w, k⟩, hw, e⟩
      injection e with e1 e2
      refine ⟨b.1 ++ w, by rw [← e1, List.append_assoc], mem_rwss.mpr ⟨b, List.mem_cons_self .., w, rfl, by rw [← e2]; exact hw⟩⟩
    · rintro ⟨z, rfl, hz⟩
      obtain ⟨c, hc, w, rfl, hw⟩ := mem_rwss.mp hz
      have : c = b := by simpa using hc
      subst this
      exact ⟨(w, m), hw, by simp [pre, List.append_assoc]⟩
  | a :: b :: r, h, _ =>
    refine ⟨_, rfl, ⟨by simp, wfB_iff.mpr h⟩, fun y m => mem_fork⟩
theorem wot_ok : ∀ t : Tr, Wf t → ∀ x n, (x, n) ∈ t.rws → Left t x (wot t x) := by
  refine Tr.ind (fun t k _ x n hx => ?_) (fun t bs ih h x n hx => ?_)
  · intro y m hy
    rw [(mem_leaf.mp hx).1]; exact (mem_leaf.mp hy).1
  · have w := wfB_iff.mp h.2
    obtain ⟨z, rfl, hz⟩ := mem_fork.mp hx
    obtain ⟨b, hb, v, rfl, hv⟩ := mem_rwss.mp hz
    obtain ⟨s1, s2⟩ := sign_of (w.1 b hb) hv
    have hi : innr bs b.1 = some b.2 := mem_innr w.2 hb
    unfold wot
    rw [List.drop_left, ← s1, ← s2, wotIn_eq, hi]
    show Left _ _ (match wot b.2 v with | some u => some (.fork t (placed bs (b.1, u))) | none => knt t (bs.filter fun c => !decide (c.1 = b.1)))
    have ihb := ih b hb (w.1 b hb).2.2 v n hv
    cases hw : wot b.2 v with
    | none =>
      rw [hw] at ihb
      have hb2 : ∀ y m, (y, m) ∈ b.2.rws → y = v := ihb
      have h' : (∀ c ∈ bs.filter (fun c => !decide (c.1 = b.1)), OkB c) ∧ (bs.filter fun c => !decide (c.1 = b.1)).Pairwise fun a b => a.1 < b.1 := ⟨fun c hc => w.1 c (List.mem_filter.mp hc).1, w.2.filter _⟩
      have ne : bs.filter (fun c => !decide (c.1 = b.1)) ≠ [] := fun e => by
        have all : ∀ c ∈ bs, c.1 = b.1 := fun c hc => by
          have := List.filter_eq_nil_iff.mp e c hc
          simpa using this
        match bs, h.1, w.2, all with
        | x :: y :: r, _, pw, all =>
          have lt := (List.pairwise_cons.mp pw).1 y (List.mem_cons_self ..)
          rw [all x (List.mem_cons_self ..), all y (List.mem_cons_of_mem _ (List.mem_cons_self ..))] at lt
          exact lt_irr _ lt
      obtain ⟨u, e, hu, hm⟩ := knt_ok (t := t) h' ne
      show Left _ _ (knt t (bs.filter fun c => !decide (c.1 = b.1)))
      rw [e]
      refine ⟨hu, fun y m => ?_⟩
      rw [hm, mem_fork]
      constructor
      · rintro ⟨q, rfl, hq⟩
        obtain ⟨c, hc, p, rfl, hp⟩ := mem_rwss.mp hq
        obtain ⟨hc1, hc2⟩ := List.mem_filter.mp hc
        have hc2 : ¬ c.1 = b.1 := by simpa using hc2
        refine ⟨⟨_, rfl, mem_rwss.mpr ⟨c, hc1, p, rfl, hp⟩⟩, fun e => hc2 ?_⟩
        have e := List.append_cancel_left e
        rw [(sign_of (w.1 c hc1) hp).1, e, ← s1]
      · rintro ⟨⟨q, rfl, hq⟩, ne'⟩
        obtain ⟨c, hc, p, rfl, hp⟩ := mem_rwss.mp hq
        refine ⟨_, rfl, mem_rwss.mpr ⟨c, List.mem_filter.mpr ⟨hc, ?_⟩, p, rfl, hp⟩⟩
        have : ¬ c.1 = b.1 := fun e => by
          have e2 := pair_eq w.2 hc hb e
          subst e2
          exact ne' (by rw [hb2 p m hp])
        simpa using this
    | some u =>
      rw [hw] at ihb
      obtain ⟨hu, hm⟩ := ihb
      have okb : OkB (b.1, u) := by
        refine ⟨(w.1 b hb).1, fun e => ?_, hu⟩
        obtain ⟨k, ek⟩ := (w.1 b hb).2.1 e
        rw [ek] at hw
        simp [wot] at hw
      refine ⟨⟨placed_two w.2 h.1, wfB_iff.mpr ⟨fun c hc => ?_, placed_pw w.2⟩⟩, fun y m => ?_⟩
      · rcases mem_placed.mp hc with ⟨hc, _⟩ | e
        · exact w.1 c hc
        · rw [e]; exact okb
      · rw [mem_fork, mem_fork]
        constructor
        · rintro ⟨q, rfl, hq⟩
          obtain ⟨c, hc, p, rfl, hp⟩ := mem_rwss.mp hq
          rcases mem_placed.mp hc with ⟨hc, ne'⟩ | e
          · refine ⟨⟨_, rfl, mem_rwss.mpr ⟨c, hc, p, rfl, hp⟩⟩, fun e => ne' ?_⟩
            have e := List.append_cancel_left e
            show c.1 = b.1
            rw [(sign_of (w.1 c hc) hp).1, e, ← s1]
          · subst e
            obtain ⟨h1, h2⟩ := (hm p m).mp hp
            refine ⟨⟨_, rfl, mem_rwss.mpr ⟨b, hb, p, rfl, h1⟩⟩, fun e => h2 ?_⟩
            have e := List.append_cancel_left e
            exact List.append_cancel_left e
        · rintro ⟨⟨q, rfl, hq⟩, ne'⟩
          obtain ⟨c, hc, p, rfl, hp⟩ := mem_rwss.mp hq
          refine ⟨_, rfl, ?_⟩
          by_cases e : c.1 = b.1
          · have e2 := pair_eq w.2 hc hb e
            subst e2
            exact mem_rwss.mpr ⟨_, mem_placed.mpr (.inr rfl), p, rfl, (hm p m).mpr ⟨hp, fun e => ne' (by rw [e])⟩⟩
          · exact mem_rwss.mpr ⟨c, mem_placed.mpr (.inl ⟨hc, e⟩), p, rfl, hp⟩
def wotO (o : Option Tr) (x : List Nat) : Option Tr := o.bind fun t => wot t x
/-- rows without a name's -/
theorem wotO_ok {o : Option Tr} {R : List Row} {x : List Nat} (h : Treed o R) (up : Up R) {n : Int} (hx : fndO o x = some n) : Treed (wotO o x) (R.filter fun r => !decide (r.1 = x)) := by
  cases o with
  | none => cases hx
  | some t =>
    have hm := (fnd_iff t h.1 x n).mp hx
    have l := wot_ok t h.1 x n hm
    show Treed (wot t x) _
    cases hw : wot t x with
    | none =>
      rw [hw] at l
      refine List.filter_eq_nil_iff.mpr fun r hr => ?_
      rw [← h.2] at hr
      have : r.1 = x := l r.1 r.2 hr
      simpa using this
    | some u =>
      rw [hw] at l
      refine ⟨l.1, up_ext (up_rws _ l.1) (up.filter _) fun ⟨y, m⟩ => ?_⟩
      rw [l.2, h.2, List.mem_filter]
      simp
/-! ### promises -/
def spLess (K : PySem.W.Frag) (n : Nat) : Sp := fun vs H Q _ => ∃ (v : V) (t : Tr) (x : List Nat) (k : Int), vs = [v, .str (st x)] ∧ Dp K H v t.toD ∧ Fits t ∧ t.deep < n ∧ (x, k) ∈ t.rws ∧ gives K H (oD (wot t x)) Q
def spKnt (K : PySem.W.Frag) : Sp := fun vs H Q _ => ∃ (v : V) (t : List Nat) (bs : List (List Nat × Tr)), vs = [.str (st t), v] ∧ Dp K H v (.list (bs.map brD)) ∧ bs ≠ [] ∧ bs.length ≤ 5000 ∧ t.length ≤ 1000 ∧ (∀ b ∈ bs, b.1.length ≤ 1 ∧ b.2.text.length ≤ 1000) ∧ gives K H (oD (knt t bs)) Q
/-- without: the name that is not kept is refused by the class at CN -/
def spWithout (K : PySem.W.Frag) (CN : Addr) (n : Nat) : Sp := fun vs H Q E => ∃ (v : V) (o : Option Tr) (x : List Nat), vs = [v, .str (st x)] ∧ Dp K H v (oD o) ∧ FitsO o ∧ dpt o < n ∧ x.length ≤ 900 ∧ (∀ c ∈ x, c < 127) ∧
  (fndO o x = none → E (.ref CN) none H) ∧ ∀ k, fndO o x = some k → gives K H (oD (wotO o x)) Q
theorem repr_small {l : List Nat} (h : l.length ≤ 1000) (ht : ∀ c ∈ l, c < 127) : (reprText (st l)).length ≤ 100000 := by
  have h1 := PySem.StrLaws.reprText_len (st l) (fun c hc => by
    have hc : c ∈ l := by simpa using hc
    have := ht c hc
    have : (127 : Nat) < 16 ^ 8 := by decide
    omega)
  rw [st_len l] at h1
  omega
end RT
namespace RT
open PySem PySem.Spec PyProof.Rows L2
/-- the classes of refusals, as the top has them -/
structure ErrTxt (K : PySem.W.Frag) (mg : Str → Option Value) (x : Str) (CN CT : Addr) : Prop where
  gN : mg x = some (.ref CN)
  xN : PySem.W.excIn K CN [.type "ValueError", .type "Exception", .type "BaseException", .type "object"] "ValueError.__new__" = true
  kN : PySem.W.keepIn K (.ref CN) = true
  bN : PySem.W.subIn K (.ref CN) (.type "BaseException") = some true
  tN : PySem.W.typeIn K (.ref CN) = some (.type "type")
  eN : PySem.W.exmOne K (.ref CN) (.ref CN) = some true
  gT : mg "TrailError" = some (.ref CT)
  iT : PySem.W.kitOne K (.ref CN) (.ref CT) = some true
  iV : PySem.W.kitOne K (.ref CN) (.type "ValueError") = some true
  cN : ExcC K CN
def spRefused (K : PySem.W.Frag) : Sp := fun vs H Q _ => ∃ (v : V) (o : Option Tr) (x : List Nat), vs = [v, .str (st x)] ∧ Dp K H v (oD o) ∧ FitsO o ∧ dpt o < 50 ∧ x.length ≤ 900 ∧ (∀ c ∈ x, c < 127) ∧ fndO o x = none ∧ Q (.bl true) H
end RT
namespace RT
open PySem PySem.Spec PyProof.Rows L2
theorem errTxt {K : PySem.W.Frag} {h : Heap} {mg : Str → Option Value} {x : Str} {CN CT : Addr} (X : K.In h) (G : h.Ns mainGlobals mg) (aN : PySem.W.nsIn K mainGlobals x = some (some (.ref CN)))
    (xN : PySem.W.excIn K CN [.type "ValueError", .type "Exception", .type "BaseException", .type "object"] "ValueError.__new__" = true) (kN : PySem.W.keepIn K (.ref CN) = true) (bN : PySem.W.subIn K (.ref CN) (.type "BaseException") = some true)
    (tN : PySem.W.typeIn K (.ref CN) = some (.type "type")) (sN : PySem.W.subIn K (.ref CN) (.ref CN) = some true) (aT : PySem.W.nsIn K mainGlobals "TrailError" = some (some (.ref CT)))
    (iT : PySem.W.kitOne K (.ref CN) (.ref CT) = some true) (iV : PySem.W.kitOne K (.ref CN) (.type "ValueError") = some true)
    (hg : PySem.W.findIn K (.ref CN) "__getattribute__" = some (some (.builtin "BaseException.__getattribute__"))) (hk : PySem.W.findIn K (.ref CN) "__getattr__" = some none) (hd : PySem.W.hasDictIn K CN = true)
    (ha : PySem.W.findIn K (.ref CN) "__class__" = some (some (.builtin "object.__class__"))) (hn : PySem.W.specialIn K (.builtin "object.__class__") "__get__" = some (some (.builtin "getset_descriptor.__get__")))
    (ht : PySem.W.takesIn K (.builtin "object.__class__") = some true) (hm : PySem.W.mroIn K CN (.type "object") = some true) : ErrTxt K mg x CN CT :=
  ⟨PySem.W.mg_of X G aN, xN, kN, bN, tN, PySem.W.exm_ref bN hd tN sN, PySem.W.mg_of X G aT, iT, iV, ⟨hg, hk, bN, hd, ha, hn, ht, hm⟩⟩
end RT

/-! len(set(xs)) of a list of texts -/
namespace RT
open PySem PySem.Spec PyProof.Rows L2
/-- each once, as first met -/
def uq1 (ks : List Str) (a : Str) : List Str := if a ∈ ks then ks else ks ++ [a]
def uq (l : List Str) : List Str := l.foldl uq1 []
theorem uq_snoc (l : List Str) (a : Str) : uq (l ++ [a]) = uq1 (uq l) a := by unfold uq; rw [List.foldl_append]; rfl
theorem uq_both : ∀ n (l : List Str), l.length = n → (uq l).Nodup ∧ (∀ x, x ∈ uq l ↔ x ∈ l) ∧ (uq l).length ≤ n
  | 0, l, h => by
    have : l = [] := List.length_eq_zero_iff.mp h
    subst this
    exact ⟨List.nodup_nil, fun x => Iff.rfl, Nat.le_refl _⟩
  | n + 1, l, h => by
    have hne : l ≠ [] := fun e => by rw [e] at h; simp at h
    have e := List.dropLast_concat_getLast hne
    generalize l.dropLast = a, l.getLast hne = z at e
    subst e
    obtain ⟨i1, i2, i3⟩ := uq_both n a (by simpa using h)
    rw [uq_snoc]
    unfold uq1
    by_cases m : z ∈ uq a
    · rw [if_pos m]
      refine ⟨i1, fun x => ?_, by omega⟩
      rw [i2, List.mem_append, List.mem_singleton]
      exact ⟨.inl, fun q => q.elim id fun e => by rw [e]; exact (i2 z).mp m⟩
    · rw [if_neg m]
      refine ⟨List.nodup_append.mpr ⟨i1, by simp, fun x hx y hy => ?_⟩, fun x => ?_, by rw [List.length_append]; simp; omega⟩
      · have : y = z := by simpa using hy
        rw [this]; exact fun e => m (e ▸ hx)
      · rw [List.mem_append, List.mem_append, i2]
/-- how many there are -/
theorem uq_count {l : List Str} {α : Type} {L : List α} {f : α → Str} (nd : (L.map f).Nodup) (h : ∀ x, x ∈ l ↔ x ∈ L.map f) : (uq l).length = L.length := by
  obtain ⟨i1, i2, _⟩ := uq_both _ l rfl
  have p := (List.perm_ext_iff_of_nodup i1 nd).mpr fun x => (i2 x).trans (h x)
  rw [p.length_eq, List.length_map]
def has (ks : List Str) : Str → Bool := fun k => decide (k ∈ ks)
section
variable {P : Program} {w : World} {A : Around} {s : Shared}
abbrev TS' (P : Program) (w : World) (h : Heap) (S : Addr) (ks : List Str) : Prop := h.SetOf (PySem.strKind P w) S (has ks) ks.length
theorem ts_kept {h h' : Heap} {S : Addr} {ks : List Str} (H : TS' P w h S ks) (k : ∀ o, h.get? S = some o → h'.get? S = some o) : TS' P w h' S ks := by
  obtain ⟨o, es, ep, t, ho, r⟩ := H
  exact ⟨o, es, ep, t, k o ho, r⟩
theorem ts_add {h : Heap} {S : Addr} {ks : List Str} {a : Str} (H : h.SetOf (PySem.strKind P w) S (fun k => has ks k || decide (k = a)) (if has ks a then ks.length else ks.length + 1)) : TS' P w h S (uq1 ks a) := by
  refine PyProof.Rows.SetOf_congr H (fun k => ?_) ?_
  · unfold has uq1
    by_cases m : a ∈ ks
    · rw [if_pos m]
      by_cases e : k = a
      · rw [e, decide_eq_true m]; rfl
      · rw [decide_eq_false e, Bool.or_false]
    · rw [if_neg m]
      by_cases e : k = a
      · rw [e]; simp
      · rw [decide_eq_false e, Bool.or_false]
        exact decide_eq_decide.mpr (by simp [e])
  · unfold has uq1
    by_cases m : a ∈ ks
    · rw [if_pos m, decide_eq_true m, if_pos rfl]
    · rw [if_neg m, decide_eq_false m, if_neg (by decide), List.length_append]; rfl
theorem add_all {R : Result → Shared → Prop} {I : Addr} {fp wr : List Addr} {G : Array GenState → Array GenState → Prop} {n : Nat} {Pv : Nat → Value → Prop} {T : Nat → Shared → Prop}
    (W : WalksS P w A.in1 I fp wr G n Pv T) {S : Addr} (away : S ∉ fp) {xs : List Str} (sz : xs.length = n) (few : n < 64)
    (each : ∀ i v, Pv i v → ∃ t, v = .str (xs.getD i Str.empty) t) : ∀ (k i : Nat) (s : Shared), i + k = n → T i s → TS' P w s.heap S (uq (xs.take i)) →
      (∀ s', Moved (S :: wr) G s s' → TS' P w s'.heap S (uq xs) → R (.ok (.ret .none)) s') →
      codeAny (model P w) A (.builtin "set.update.loop" ⟨[.ref S, .ref I], []⟩) R s := by
  have notW : S ∉ wr := fun z => away (W.sub _ z)
  have wider : ∀ b ∈ wr, b ∈ S :: wr := fun _ m => List.mem_cons_of_mem _ m
  intro k
  induction k with
  | zero =>
    intro i s e st hs fin
    refine codeAny_builtin F.entry_set_update_loop ?_
    rw [Around.under_plainId F.plain_set_update_loop _]
    have e' : i = n := e
    subst e'
    rw [← sz, List.take_length] at hs
    exact wpAny_bind (W.done s _ _ st fun s1 mv => wpAny_pure (fin s1 (mv.mono wider) (ts_kept hs fun o q => mv.heap S _ notW q)))
  | succ k ih =>
    intro i s e st hs fin
    have lt : i < n := by omega
    refine codeAny_builtin F.entry_set_update_loop ?_
    rw [Around.under_plainId F.plain_set_update_loop _]
    refine wpAny_bind (W.item i s _ _ lt st fun v s1 pv st1 mv => ?_)
    obtain ⟨t, rfl⟩ := each i v pv
    have hs1 := ts_kept (h' := s1.heap) hs fun o q => mv.heap S _ notW q
    have few' : (uq (xs.take i)).length ≤ i := Nat.le_trans (uq_both _ (xs.take i) rfl).2.2 (by rw [List.length_take]; omega)
    show wpAny _ A.in1 (holding [Value.str (xs.getD i Str.empty) t] (setAdd S (.str (xs.getD i Str.empty) t)) >>= _) _ _ s1
    refine wpAny_bind (wpAny_holding ?_)
    unfold setAdd
    refine wpAny_holding (wpAny_bind ((PySem.strKind P w).pyHash (k := xs.getD i Str.empty) (strKind_is _ _ _ _) ?_))
    refine wpAny_setAddHashed_of (knd := PySem.strKind P w) (s := { s1 with toks := s1.toks + 1 }) (strKind_is _ _ _ _) rfl hs1 (by unfold scanBound; omega) fun h2 only hs2 => ?_
    have hx : xs.take (i + 1) = xs.take i ++ [xs.getD i Str.empty] := by
      rw [List.take_add_one, List.getD_eq_getElem?_getD, List.getElem?_eq_getElem (by omega)]; rfl
    have hs3 := ts_add hs2
    rw [← uq_snoc, ← hx] at hs3
    refine wpAny_pure ⟨plainId_quiet F.plain_set_update_loop _, ih (i + 1) _ (by omega) (W.frame _ s1 _ _ st1 (Nat.le_succ _) fun b m o q => ?_) hs3 fun s4 mv4 hs4 => fin s4 (Moved.trans W.gtrans ((mv.mono wider).then_heap (Nat.le_succ _) fun b o m q => ?_) mv4) hs4⟩
    · rw [only.2 b fun z => away (by rw [← z]; exact m)]; exact q
    · rw [only.2 b fun z => m (by rw [z]; exact List.mem_cons_self)]; exact q
abbrev eo (led : Bool) : Obj := { cls := .type "set", dict := none, data := .set #[] 0 (.fresh 0 0 led) }
set_option maxHeartbeats 3200000 in
/-- set(xs), of texts -/
theorem set_texts {E : Value → Shared → Prop} {Q : Value → Shared → Prop} {l : Addr} {items : Array Value} {xs : List Str} (quiet : A.handled = none) (isL : s.heap.IsList l items) (are : PyProof.Rows.StrsAre items.toList xs) (few : xs.length < 64)
    (fin : ∀ (h : Heap) (tk : Nat), TS' P w h s.heap.objs.size (uq xs) → (∀ b o, b < s.heap.objs.size → s.heap.get? b = some o → h.get? b = some o) → Q (.ref s.heap.objs.size) { s with heap := h, toks := tk }) :
    wpAny (model P w) A (call (.type "set") [.ref l]) Q E s := by
  have made := PySem.F.called_set.made
  have below := PySem.F.called_set.sub
  have other := PySem.F.called_set.notType
  have can := PySem.F.called_set.canCreate
  have one := PySem.F.typeCall_set_1 (.ref l)
  obtain ⟨_, _, mro⟩ := PySem.F.called_set.mro
  have mute : (Code.builtin "type.__call__" ⟨[.type "set", .ref l], []⟩).quiet = true := Code.quiet_builtin _ (by decide +kernel)
  refine wpAny_call (codeAny_of_tree (show wpAny _ _ (callAny (.type "set") _) _ _ _ from wpAny_pure ⟨mute, codeAny_builtin PySem.F.entry_type_call ?_⟩))
  have light := weight_type_call_type "set" [.ref l] []
  rw [Around.under_plain light rfl]
  repeat any_goals first | assumption | wp_step
  -- the empty set at its place
  refine codeAny_mono (code_set_new_1 (.ref l) (E := E) (Q₁ := fun u s1 => ∃ led : Bool, u = .ref s.heap.objs.size ∧ s1 = { s with heap := s.heap.push (eo led) }) fun led => ⟨led, rfl, rfl⟩) fun r s1 g => ?_
  match r, g with
  | .error _, g => exact g
  | .ok (.ret u), ⟨led, e1, e2⟩ =>
    subst e1
    subst e2
    have at0 : (s.heap.push (eo led)).get? s.heap.objs.size = some (eo led) := Heap.get?_push_size _ rfl
    have ty0 : Shared.TypeIs { s with heap := s.heap.push (eo led) } (.ref s.heap.objs.size) "set" := ⟨_, at0, rfl⟩
    have look := PySem.F.called_set.init.lookup
    have bind := PySem.F.called_set.init.bind (.ref s.heap.objs.size)
    repeat any_goals first | assumption | wp_step
    refine codeAny_mono (codeAny_call_builtin (R := wants (fun u s2 => u = .none ∧ ∃ h tk, s2 = { s with heap := h, toks := tk } ∧ TS' P w h s.heap.objs.size (uq xs) ∧ ∀ b o, b < s.heap.objs.size → s.heap.get? b = some o → h.get? b = some o) E)
      PySem.F.called_set.init.plain PySem.F.entry_set_init (check_set_init_1 ty0 ?_)) fun r2 s2 g2 => ?_
    · obtain ⟨ol, hol, hcl, nl, hdl⟩ := isL
      obtain ⟨c, d, dat, sls⟩ := ol
      simp only at hcl hdl
      subst hcl
      subst hdl
      have there : (s.heap.push (eo led)).get? l = some { cls := .type "list", dict := d, data := .seq items nl, slots := sls } := Heap.get?_push_of_some _ hol
      have isL1 : (s.heap.push (eo led)).IsList l items := ⟨_, there, rfl, nl, rfl⟩
      have n1 := PySem.F.sub_list_set
      have n2 := PySem.F.sub_list_frozenset
      have n3 : (Value.type "list" == Value.type "dict") = false := by decide
      unfold Builtin.«set.__init__» noKeywords Builtin.Frozenset.updateFrom
      generalize hPI : pyIter = PI
      wp_walk
      subst hPI
      refine wpAny_pyIter_list isL1 (wpAny_bind (wpAny_runValue ?_))
      have low : l < s.heap.objs.size := Heap.lt_size hol
      have sz1 : (s.heap.push (eo led)).objs.size = s.heap.objs.size + 1 := Heap.size_push ..
      have q3 : A.in1.in1.in1.handled = none := by simp [quiet]
      have len : xs.length = items.size := by rw [← StrsAre.len_eq are, Array.length_toList]
      refine add_all ((Walks.list q3 _ l (by rw [sz1]; exact Nat.ne_of_lt (Nat.lt_succ_of_lt low)) items).toS) (S := s.heap.objs.size) ?_ len (by omega) (fun i v hv => SS.strs_at are i v (by rw [Array.getElem?_toList]; exact hv)) items.size 0 _ (Nat.zero_add _) ⟨⟨_, Heap.get?_push_size _ rfl, rfl, rfl⟩, isL1.push _⟩ ?_ ?_
      · rw [sz1]
        intro z
        rcases List.mem_cons.mp z with e | z
        · exact Nat.ne_of_lt (Nat.lt_succ_self _) e
        · exact Nat.ne_of_gt low (List.mem_singleton.mp z)
      · exact PyProof.Rows.SetOf_congr ((PyProof.Rows.setObjOf_fresh (knd := PySem.strKind P w) led).setOf (Heap.get?_push_of_some _ at0) (by unfold scanBound; omega)) (fun _ => rfl) rfl
      · intro s3 mv hs
        obtain ⟨h3, g3, d3, k3, o3⟩ := s3
        have e1 : g3 = s.gens := mv.gens
        have e2 : d3 = s.drawn := mv.drawn
        have e3 : o3 = s.os := mv.os
        subst e1 e2 e3
        refine wpAny_pure (wpAny_pure ⟨rfl, h3, k3, rfl, hs, fun b o lt q => mv.heap b o ?_ (Heap.get?_push_of_some _ (Heap.get?_push_of_some _ q))⟩)
        rw [sz1]
        intro z
        rcases List.mem_cons.mp z with e | z
        · exact Nat.ne_of_lt lt e
        · exact Nat.ne_of_lt (Nat.lt_succ_of_lt lt) (List.mem_singleton.mp z)
    · match r2, g2 with
      | .error _, g => exact g
      | .ok (.ret _), ⟨e1, h, tk, e2, hs, kp⟩ =>
        subst e1
        subst e2
        repeat any_goals first | assumption | wp_step
        exact fin _ _ hs kp
/-- len(set(xs)) -/
def tLenT (K : PySem.W.Frag) (t : TE) : TE := fun σ H Q => t σ H fun x H1 => ∃ (l : Addr) (xs : List Str), x = .ref l ∧ SqL K H1 l (xs.map V.str) ∧ xs.length < 64 ∧ Q (.int (uq xs).length) H1
theorem pe_lenT {X : Cx} {a : Expr} {ta : TE} {p p2 q pos : Pos} (ha : PE X a ta) (hm : X.mg "len" = none) (hm2 : X.mg "set" = none) (hc : X.calm = true := by rfl) (hg : Gl X "len" := by rfl) (hg2 : Gl X "set" := by rfl)
    (na : starEach [a] X.env = (false, eval a X.env) :: starEach [] X.env := by rfl) : PE X (.Call (.Name "len" p) [.Call (.Name "set" p2) [a] [] q] [] pos) (tLenT X.K ta) := by
  refine ⟨fun pins s σ H Q I h => Call_ (ld_blt I hg hm PySem.boot_len (PyProof.Rows.callWith_builtin1 (PyProof.Rows.args_cons (Call_ (ld_blt I hg2 hm2 PyProof.Rows.boot_set ?_)) rfl) rfl rfl))⟩
  refine PyProof.Rows.callWith_type1 (PyProof.Rows.args_cons (thn (ha.run pins s σ H _ I h) fun v s1 ⟨x, H1, I1, r1, l, xs, ex, hq, few, q1⟩ => PyProof.Rows.args_nil ?_) na) na rfl
  subst ex
  cases r1
  obtain ⟨its, r, pl, _⟩ := I1.list hq
  refine set_texts (I1.ok.hd hc) pl.isList (by simpa using strsAre_of r) few fun h' tk hs kp => PyProof.Rows.args_nil ?_
  obtain ⟨o, es, ep, t, ho, hex, hd, _, _, _, hf, hn⟩ := hs
  have lim := (uq_both _ xs rfl).2.2
  have I2 : Inv X pins σ H1 { s1 with heap := h', toks := tk } := I1.kept fun b o e => kp b o (Heap.lt_size e) e
  exact call_len_set ho hex hd hf (by rw [hn]; omega) ⟨.int (uq xs).length, H1, I2.tok _, ⟨_, by rw [hn]⟩, q1⟩
end
end RT

/-! names and knots of a tree -/
namespace RT
open PySem PySem.Spec PyProof.Rows L2
/-- the branches' rows by a function of trees -/
def gat (f : Tr → List Row) (bs : List (List Nat × Tr)) : List Row := bs.flatMap fun b => (f b.2).map (pre b.1)
theorem gat_rws : ∀ bs, rwss bs = gat Tr.rws bs
  | [] => rfl
  | (s, t) :: r => by
    show t.rws.map (pre s) ++ rwss r = gat Tr.rws ((s, t) :: r)
    rw [gat_rws r]; rfl
theorem gat_app (f : Tr → List Row) (a b : List (List Nat × Tr)) : gat f (a ++ b) = gat f a ++ gat f b := by unfold gat; rw [List.flatMap_append]
theorem gat_one (f : Tr → List Row) (b : List Nat × Tr) : gat f [b] = (f b.2).map (pre b.1) := by unfold gat; simp
theorem gat_next {f : Tr → List Row} {bs : List (List Nat × Tr)} {i : Nat} {b : List Nat × Tr} (h : bs[i]? = some b) : gat f (bs.take (i + 1)) = gat f (bs.take i) ++ (f b.2).map (pre b.1) := by
  rw [List.take_add_one, h, gat_app]
  show _ ++ gat f [b] = _
  rw [gat_one]
theorem gat_take (f : Tr → List Row) (bs : List (List Nat × Tr)) (i : Nat) : (gat f (bs.take i)).length ≤ (gat f bs).length := by
  conv => rhs; rw [← List.take_append_drop i bs, gat_app, List.length_append]
  omega
theorem pre_pre (p q : List Nat) (R : List Row) : (R.map (pre q)).map (pre p) = R.map (pre (p ++ q)) := by
  rw [List.map_map]
  refine List.map_congr_left fun r _ => ?_
  show (p ++ (q ++ r.1), r.2) = (p ++ q ++ r.1, r.2)
  rw [List.append_assoc]
mutual
/-- all knots, a fork ahead of what is in it -/
def Tr.kn : Tr → List Row
  | .leaf t _ => [(t, 0)]
  | .fork t bs => (t, (bs.length : Int)) :: (knn bs).map (pre t)
def knn : List (List Nat × Tr) → List Row
  | [] => []
  | (s, t) :: r => t.kn.map (pre s) ++ knn r
end
theorem gat_kn : ∀ bs, knn bs = gat Tr.kn bs
  | [] => rfl
  | (s, t) :: r => by
    show t.kn.map (pre s) ++ knn r = gat Tr.kn ((s, t) :: r)
    rw [gat_kn r]; rfl
theorem kn_len : ∀ t : Tr, t.kn.length = t.many := by
  refine Tr.ind (fun t n => rfl) fun t bs ih => ?_
  have : ∀ bs : List (List Nat × Tr), (∀ b ∈ bs, b.2.kn.length = b.2.many) → (knn bs).length = manys bs := fun bs h => by
    induction bs with
    | nil => rfl
    | cons x r ih =>
      obtain ⟨s, u⟩ := x
      have h1 : u.kn.length = u.many := h (s, u) (List.mem_cons_self ..)
      have h2 := ih fun b hb => h b (List.mem_cons_of_mem _ hb)
      show (u.kn.map (pre s) ++ knn r).length = u.many + manys r
      rw [List.length_append, List.length_map, h1, h2]
  have := this bs ih
  simp [Tr.kn, Tr.many, this]
/-- a knot's text is a name's beginning; none has one branch -/
theorem kn_in : ∀ t : Tr, Wf t → ∀ r ∈ t.kn, (∃ x m, (x, m) ∈ t.rws ∧ r.1 <+: x) ∧ r.2 ≠ 1 := by
  refine Tr.ind (fun t n _ r hr => ?_) (fun t bs ih h r hr => ?_)
  · have : r = (t, 0) := by simpa [Tr.kn] using hr
    rw [this]
    exact ⟨⟨t, n, by simp [Tr.rws], List.prefix_refl _⟩, show (0 : Int) ≠ 1 by decide⟩
  · have w := wfB_iff.mp h.2
    obtain ⟨⟨x, m⟩, hx⟩ := rws_ne _ h
    rcases List.mem_cons.mp hr with e | hm
    · rw [e]
      obtain ⟨y, ey, _⟩ := mem_fork.mp hx
      have := h.1
      exact ⟨⟨x, m, hx, by rw [ey]; exact List.prefix_append _ _⟩, by show ((bs.length : Nat) : Int) ≠ 1; omega⟩
    · rw [gat_kn] at hm
      obtain ⟨r1, hr1, e1⟩ := List.mem_map.mp hm
      obtain ⟨b, hb, hr2⟩ := List.mem_flatMap.mp hr1
      obtain ⟨r3, hr3, e3⟩ := List.mem_map.mp hr2
      obtain ⟨⟨y, k, hy, hp⟩, h1⟩ := ih b hb (w.1 b hb).2.2 r3 hr3
      subst e1; subst e3
      refine ⟨⟨t ++ (b.1 ++ y), k, mem_fork.mpr ⟨_, rfl, mem_rwss.mpr ⟨b, hb, y, rfl, hy⟩⟩, ?_⟩, h1⟩
      show t ++ (b.1 ++ r3.1) <+: _
      exact (List.prefix_append_right_inj _).mpr ((List.prefix_append_right_inj _).mpr hp)
/-- a function whose rows stay small -/
def Bnd (f : Tr → List Row) : Prop := ∀ t, Fits t → (∀ r ∈ f t, r.1.length ≤ 1000) ∧ (f t).length ≤ 10000
theorem bnd_rws : Bnd Tr.rws := fun t h => ⟨fun r hr => h.2.1 r.1 r.2 hr, by have := h.2.2; omega⟩
theorem bnd_kn : Bnd Tr.kn := fun t h => ⟨fun r hr => by
    obtain ⟨⟨x, m, hx, hp⟩, _⟩ := kn_in t h.1 r hr
    have := h.2.1 x m hx
    have := hp.length_le
    omega, by rw [kn_len]; have := many_le t h.1; have := h.2.2; omega⟩
/-- what a fork's branches give, put together -/
theorem gat_small {f : Tr → List Row} {g : Nat} (hf : ∀ t bs, (f (.fork t bs)).length = g + (gat f bs).length) (B : Bnd f) {t : List Nat} {bs : List (List Nat × Tr)} (h : Fits (.fork t bs)) : (gat f bs).length ≤ 10000 := by
  have := (B _ h).2
  rw [hf] at this
  omega
/-! ### promises -/
def rowsOf (f : Tr → List Row) : Option Tr → List Row
  | none => []
  | some t => f t
def spList (K : PySem.W.Frag) (f : Tr → List Row) (n : Nat) : Sp := fun vs H Q _ => ∃ (v : V) (o : Option Tr), vs = [v] ∧ Dp K H v (oD o) ∧ FitsO o ∧ dpt o < n ∧
  ∀ (L : Addr) (acc : List V) (H' : Hp), H L = none → Same H H' → H' L = some (.lst acc) → DpAll K H' acc ((rowsOf f o).map rowD) → Q (.ref L) H'
abbrev spNames (K : PySem.W.Frag) (n : Nat) : Sp := spList K Tr.rws n
abbrev spKnots (K : PySem.W.Frag) (n : Nat) : Sp := spList K Tr.kn n
def spWalked (K : PySem.W.Frag) (n : Nat) : Sp := fun vs H Q _ => ∃ (v : V) (t : Tr) (s : List Nat), vs = [v, .str (st s)] ∧ Dp K H v t.toD ∧ Fits t ∧ t.deep < n ∧ (∀ x m, (x, m) ∈ t.rws → s.length + x.length ≤ 1000) ∧
  ∀ (L : Addr) (acc : List V) (H' : Hp), H L = none → Same H H' → H' L = some (.lst acc) → DpAll K H' acc ((t.kn.map (pre s)).map rowD) → Q (.ref L) H'
/-! ### the law's knots of rows -/
def sgs (R : List Row) (p : List Nat) : List Str := (R.filter fun r => decide (r.1.take p.length = p)).map fun r => st (sg p.length r)
def cnt (R : List Row) (p : List Nat) : Nat := (uq (sgs R p)).length
def stp (R : List Row) (d : List Row) (p : List Nat) : List Row := if 1 < cnt R p ∧ (p, (cnt R p : Int)) ∉ d then d ++ [(p, (cnt R p : Int))] else d
def stps (R : List Row) (x : List Nat) (d : List Row) (k : Nat) : List Row := (List.range k).foldl (fun d k => stp R d (x.take k)) d
def rgo (R : List Row) (d : List Row) (r : Row) : List Row := stps R r.1 d (r.1.length + 1) ++ [(r.1, 0)]
def lk (R : List Row) : List Row := R.foldl (rgo R) []
theorem stps_succ (R : List Row) (x : List Nat) (d : List Row) (k : Nat) : stps R x d (k + 1) = stp R (stps R x d k) (x.take k) := by
  unfold stps; rw [List.range_succ, List.foldl_append]; rfl
theorem mem_sgs {R : List Row} {p : List Nat} {z : Str} : z ∈ sgs R p ↔ ∃ r ∈ R, p <+: r.1 ∧ st (sg p.length r) = z := by
  unfold sgs
  simp only [List.mem_map, List.mem_filter, decide_eq_true_eq]
  constructor
  · rintro ⟨r, ⟨h1, h2⟩, e⟩; exact ⟨r, h1, List.prefix_iff_eq_take.mpr h2.symm, e⟩
  · rintro ⟨r, h1, h2, e⟩; exact ⟨r, ⟨h1, (List.prefix_iff_eq_take.mp h2).symm⟩, e⟩
theorem cnt_one {R : List Row} {p s : List Nat} (h : ∀ r ∈ R, p <+: r.1 → sg p.length r = s) : cnt R p ≤ 1 := by
  obtain ⟨i1, i2, _⟩ := uq_both _ (sgs R p) rfl
  have all : ∀ z ∈ uq (sgs R p), z = st s := fun z hz => by
    obtain ⟨r, h1, h2, e⟩ := mem_sgs.mp ((i2 z).mp hz)
    rw [← e, h r h1 h2]
  show (uq (sgs R p)).length ≤ 1
  match uq (sgs R p), i1, all with
  | [], _, _ => simp
  | [_], _, _ => simp
  | a :: b :: r, nd, all =>
    have e1 := all a (List.mem_cons_self ..)
    have e2 := all b (List.mem_cons_of_mem _ (List.mem_cons_self ..))
    exact absurd (List.mem_cons_self ..) ((List.nodup_cons.mp nd).1 |> fun h => by rw [e1, ← e2] at h; exact h)
theorem stp_no {R d : List Row} {p : List Nat} (h : 1 < cnt R p → (p, (cnt R p : Int)) ∈ d) : stp R d p = d := if_neg fun z => z.2 (h z.1)
theorem stps_no {R d : List Row} {x : List Nat} : ∀ {k : Nat}, (∀ i, i < k → 1 < cnt R (x.take i) → (x.take i, (cnt R (x.take i) : Int)) ∈ d) → stps R x d k = d
  | 0, _ => rfl
  | k + 1, h => by
    rw [stps_succ, stps_no fun i hi => h i (by omega)]
    exact stp_no (h k (by omega))
/-- the tree's rows are those of R behind P -/
def Sub (R : List Row) (P : List Nat) (t : Tr) : Prop := ∀ x m, (P ++ x, m) ∈ R ↔ (x, m) ∈ t.rws
def Done (R d : List Row) (q : List Nat) : Prop := ∀ p, p <+: q → p.length < q.length → 1 < cnt R p → (p, (cnt R p : Int)) ∈ d
def Fresh (d : List Row) (q : List Nat) : Prop := ∀ r ∈ d, ¬ q <+: r.1
theorem rgo_plain {R d : List Row} {r : Row} (h : ∀ p, p <+: r.1 → 1 < cnt R p → (p, (cnt R p : Int)) ∈ d) : rgo R d r = d ++ [(r.1, 0)] := by
  unfold rgo
  rw [stps_no fun i _ => h _ (List.take_prefix _ _)]
theorem short_pre {p q x : List Nat} (h1 : p <+: x) (h2 : q <+: x) (h : p.length ≤ q.length) : p <+: q := List.prefix_of_prefix_length_le h1 h2 h
section
variable {R : List Row} {P u : List Nat} {bs : List (List Nat × Tr)}
/-- inside a fork's text there is one sign alone -/
theorem cnt_in (sb : Sub R P (.fork u bs)) {p : List Nat} (h1 : p <+: P ++ u) (h2 : P.length ≤ p.length) (h3 : p.length < (P ++ u).length) : cnt R p ≤ 1 := by
  refine cnt_one (s := ((P ++ u).drop p.length).take 1) fun r hr hp => ?_
  have hP : P <+: r.1 := (short_pre (List.prefix_append P u) h1 h2).trans hp
  obtain ⟨x, ex⟩ := hP
  have hm : (x, r.2) ∈ (Tr.fork u bs).rws := (sb x r.2).mp (by rw [ex]; exact hr)
  obtain ⟨y, ey, _⟩ := mem_fork.mp hm
  unfold sg
  have e : r.1 = (P ++ u) ++ y := by rw [← ex, ey, List.append_assoc]
  rw [e, List.drop_append_of_le_length (by omega), List.take_append_of_le_length (by rw [List.length_drop]; omega)]
theorem cnt_at (w : Wf (.fork u bs)) (sb : Sub R P (.fork u bs)) : cnt R (P ++ u) = bs.length := by
  have w' := wfB_iff.mp w.2
  refine uq_count (L := bs) (f := fun b => st b.1) (List.pairwise_map.mpr (w'.2.imp fun h e => ?_)) fun z => ?_
  · have e := st_inj e
    rw [e] at h; exact lt_irr _ h
  · rw [mem_sgs, List.mem_map]
    constructor
    · rintro ⟨r, hr, hp, e⟩
      obtain ⟨x, ex⟩ := hp
      have hm : (u ++ x, r.2) ∈ (Tr.fork u bs).rws := (sb _ r.2).mp (by rw [← List.append_assoc, ex]; exact hr)
      obtain ⟨y, ey, hy⟩ := mem_fork.mp hm
      have ey := List.append_cancel_left ey
      subst ey
      obtain ⟨b, hb, v, ev, hv⟩ := mem_rwss.mp hy
      refine ⟨b, hb, ?_⟩
      rw [← e]
      unfold sg
      rw [← ex, List.drop_left, (sign_of (w'.1 b hb) hv).1, ← ev]
    · rintro ⟨b, hb, e⟩
      obtain ⟨⟨v, m⟩, hv⟩ := rws_ne b.2 (w'.1 b hb).2.2
      refine ⟨(P ++ (u ++ (b.1 ++ v)), m), (sb _ _).mpr (mem_fork.mpr ⟨_, rfl, mem_rwss.mpr ⟨b, hb, v, rfl, hv⟩⟩), ?_, ?_⟩
      · show P ++ u <+: P ++ (u ++ (b.1 ++ v))
        rw [← List.append_assoc]; exact List.prefix_append _ _
      · rw [← e]
        unfold sg
        show st (((P ++ (u ++ (b.1 ++ v))).drop (P ++ u).length).take 1) = _
        rw [← List.append_assoc, List.drop_left, ← (sign_of (w'.1 b hb) hv).1]
/-- what is due at a fork's text -/
theorem done_at (sb : Sub R P (.fork u bs)) {d : List Row} (dn : Done R d P) : Done R d (P ++ u) := fun p hp hl hc => by
  by_cases h : p.length < P.length
  · exact dn p (short_pre hp (List.prefix_append P u) (by omega)) h hc
  · have := cnt_in sb hp (by omega) hl
    omega
theorem stps_mid {d : List Row} {q x : List Nat} (hq : q <+: x) (dn : Done R d q) (hc : 1 < cnt R q) (hn : (q, (cnt R q : Int)) ∉ d) : rgo R d (x, 0) = rgo R (d ++ [(q, (cnt R q : Int))]) (x, 0) := by
  have lq := hq.length_le
  have tq : x.take q.length = q := (List.prefix_iff_eq_take.mp hq).symm
  have small : ∀ i, i < q.length → 1 < cnt R (x.take i) → (x.take i, (cnt R (x.take i) : Int)) ∈ d := fun i hi h =>
    dn _ (short_pre (List.take_prefix _ _) hq (by rw [List.length_take]; omega)) (by rw [List.length_take]; omega) h
  have a1 : stps R x d q.length = d := stps_no small
  have a2 : stps R x (d ++ [(q, (cnt R q : Int))]) q.length = d ++ [(q, (cnt R q : Int))] := stps_no fun i hi h => List.mem_append_left _ (small i hi h)
  have b1 : stps R x d (q.length + 1) = d ++ [(q, (cnt R q : Int))] := by
    rw [stps_succ, a1, tq]; exact if_pos ⟨hc, hn⟩
  have b2 : stps R x (d ++ [(q, (cnt R q : Int))]) (q.length + 1) = d ++ [(q, (cnt R q : Int))] := by
    rw [stps_succ, a2, tq]; exact stp_no fun _ => List.mem_append_right _ (List.mem_singleton.mpr rfl)
  have more : ∀ j, stps R x d (q.length + 1 + j) = stps R x (d ++ [(q, (cnt R q : Int))]) (q.length + 1 + j) := fun j => by
    induction j with
    | zero => exact b1.trans b2.symm
    | succ j ih => rw [← Nat.add_assoc, stps_succ, stps_succ, ih]
  unfold rgo
  have e : x.length + 1 = q.length + 1 + (x.length - q.length) := by omega
  show stps R x d (x.length + 1) ++ _ = stps R x _ (x.length + 1) ++ _
  rw [e, more]
end
theorem rgo_num (R d : List Row) (x : List Nat) (n m : Int) : rgo R d (x, n) = rgo R d (x, m) := rfl
/-- rows of one tree, done one behind the other -/
theorem lk_sub {R : List Row} : ∀ t : Tr, Wf t → ∀ P d, Sub R P t → Done R d P → Fresh d P → (t.rws.map (pre P)).foldl (rgo R) d = d ++ t.kn.map (pre P) := by
  refine Tr.ind (fun u n _ P d sb dn fr => ?_) (fun u bs ih w P d sb dn fr => ?_)
  · show rgo R d (P ++ u, n) = d ++ [(P ++ u, 0)]
    refine rgo_plain fun p hp hc => ?_
    have hp : p <+: P ++ u := hp
    by_cases h : p.length < P.length
    · exact dn p (short_pre hp (List.prefix_append P u) (by omega)) h hc
    · exfalso
      have : cnt R p ≤ 1 := cnt_one (s := ((P ++ u).drop p.length).take 1) fun r hr hpr => by
        obtain ⟨x, ex⟩ := (short_pre (List.prefix_append P u) hp (by omega)).trans hpr
        have hm : (x, r.2) ∈ (Tr.leaf u n).rws := (sb x r.2).mp (by rw [ex]; exact hr)
        have e := (mem_leaf.mp hm).1
        unfold sg
        rw [← ex, e]
      omega
  · have w' := wfB_iff.mp w.2
    have hcq : cnt R (P ++ u) = bs.length := cnt_at w sb
    have dq := done_at sb dn
    have h2 := w.1
    have fq : ∀ r ∈ d, ¬ P ++ u <+: r.1 := fun r hr z => fr r hr ((List.prefix_append P u).trans z)
    generalize hq : P ++ u = q at hcq dq fq
    -- the branches, one behind the other
    have go : ∀ B A : List (List Nat × Tr), bs = A ++ B → ((gat Tr.rws B).map (pre q)).foldl (rgo R) (d ++ [(q, (bs.length : Int))] ++ (gat Tr.kn A).map (pre q)) = d ++ [(q, (bs.length : Int))] ++ (gat Tr.kn bs).map (pre q) := by
      intro B
      induction B with
      | nil => intro A e; rw [List.append_nil] at e; rw [e]; rfl
      | cons b B ihB =>
        intro A e
        have hb : b ∈ bs := by rw [e]; exact List.mem_append_right _ (List.mem_cons_self ..)
        have hA : ∀ a ∈ A, a.1 < b.1 ∧ a ∈ bs := fun a ha => by
          have := w'.2
          rw [e] at this
          exact ⟨(List.pairwise_append.mp this).2.2 a ha b (List.mem_cons_self ..), by rw [e]; exact List.mem_append_left _ ha⟩
        have key : ((b.2.rws.map (pre b.1)).map (pre q)).foldl (rgo R) (d ++ [(q, (bs.length : Int))] ++ (gat Tr.kn A).map (pre q)) = d ++ [(q, (bs.length : Int))] ++ (gat Tr.kn A).map (pre q) ++ (b.2.kn.map (pre b.1)).map (pre q) := by
          have here : (q, (cnt R q : Int)) ∈ d ++ [(q, (bs.length : Int))] ++ (gat Tr.kn A).map (pre q) := by rw [hcq]; simp
          obtain ⟨k1, k2, k3⟩ := w'.1 b hb
          by_cases es : b.1 = []
          · obtain ⟨n, en⟩ := k2 es
            rw [en, es]
            show rgo R _ (q ++ ([] ++ []), n) = _ ++ [(q ++ ([] ++ []), 0)]
            refine rgo_plain fun p hp hc => ?_
            have hp : p <+: q := by have hp : p <+: q ++ ([] ++ []) := hp; rwa [List.append_nil, List.append_nil] at hp
            by_cases l : p.length < q.length
            · exact List.mem_append_left _ (List.mem_append_left _ (dq p hp l hc))
            · have : p = q := List.IsPrefix.eq_of_length hp (Nat.le_antisymm hp.length_le (by omega))
              rw [this]; exact here
          · have ls : b.1.length = 1 := by have := List.length_pos_iff.mpr es; omega
            rw [pre_pre, pre_pre]
            refine ih b hb k3 (q ++ b.1) _ (fun x m => ?_) (fun p hp hl hc => ?_) (fun r hr z => ?_)
            · rw [List.append_assoc, ← hq, List.append_assoc]
              rw [sb, mem_fork]
              constructor
              · rintro ⟨y, ey, hy⟩
                have ey := List.append_cancel_left ey
                subst ey
                obtain ⟨c, hc, v, ev, hv⟩ := mem_rwss.mp hy
                have s1 := (sign_of (w'.1 c hc) hv).1
                have ec : c.1 = b.1 := by
                  rw [s1, ← ev, List.take_append_of_le_length (by omega), List.take_of_length_le (by omega)]
                have := pair_eq w'.2 hc hb ec
                subst this
                rw [List.append_cancel_left ev]; exact hv
              · intro hx
                exact ⟨_, rfl, mem_rwss.mpr ⟨b, hb, x, rfl, hx⟩⟩
            · rw [List.length_append] at hl
              have hpq : p <+: q := short_pre hp (List.prefix_append q b.1) (by omega)
              by_cases l : p.length < q.length
              · exact List.mem_append_left _ (List.mem_append_left _ (dq p hpq l hc))
              · have : p = q := List.IsPrefix.eq_of_length hpq (Nat.le_antisymm hpq.length_le (by omega))
                rw [this]; exact here
            · have zq : q <+: r.1 := (List.prefix_append q b.1).trans z
              rcases List.mem_append.mp hr with hr | hr
              · rcases List.mem_append.mp hr with hr | hr
                · exact fq r hr zq
                · have e1 : r = (q, (bs.length : Int)) := List.mem_singleton.mp hr
                  rw [e1] at z
                  have := z.length_le
                  rw [List.length_append] at this
                  show False
                  have : (q.length) + b.1.length ≤ q.length := this
                  omega
              · obtain ⟨r1, hr1, e1⟩ := List.mem_map.mp hr
                obtain ⟨a, ha, hr2⟩ := List.mem_flatMap.mp hr1
                obtain ⟨r3, hr3, e3⟩ := List.mem_map.mp hr2
                obtain ⟨lt, hab⟩ := hA a ha
                obtain ⟨g1, g2, g3⟩ := w'.1 a hab
                rw [← e1, ← e3] at z
                have z : q ++ b.1 <+: q ++ (a.1 ++ r3.1) := z
                have z := (List.prefix_append_right_inj q).mp z
                by_cases ea : a.1 = []
                · obtain ⟨n, en⟩ := g2 ea
                  rw [en] at hr3
                  have : r3 = ([], 0) := by simpa [Tr.kn] using hr3
                  rw [ea, this] at z
                  have z0 : b.1.length ≤ 0 := z.length_le
                  omega
                · have la : a.1.length = 1 := by have := List.length_pos_iff.mpr ea; omega
                  have e2 := short_pre z (List.prefix_append a.1 r3.1) (by omega)
                  have e2 := List.IsPrefix.eq_of_length e2 (by omega)
                  rw [e2] at lt; exact lt_irr _ lt
        rw [show gat Tr.rws (b :: B) = b.2.rws.map (pre b.1) ++ gat Tr.rws B from rfl, List.map_append, List.foldl_append, key]
        have e2 : bs = (A ++ [b]) ++ B := by rw [List.append_assoc]; exact e
        have := ihB (A ++ [b]) e2
        rw [gat_app, gat_one, List.map_append, ← List.append_assoc] at this
        exact this
    have all : (Tr.fork u bs).rws.map (pre P) = (gat Tr.rws bs).map (pre q) := by
      show ((rwss bs).map (pre u)).map (pre P) = _
      rw [pre_pre, hq, gat_rws]
    have alk : (Tr.fork u bs).kn.map (pre P) = (q, (bs.length : Int)) :: (gat Tr.kn bs).map (pre q) := by
      show (P ++ u, (bs.length : Int)) :: ((knn bs).map (pre u)).map (pre P) = _
      rw [pre_pre, hq, gat_kn]
    rw [all, alk]
    have g0 := go bs [] rfl
    rw [show (gat Tr.kn []).map (pre q) = [] from rfl, List.append_nil] at g0
    rw [show d ++ (q, (bs.length : Int)) :: (gat Tr.kn bs).map (pre q) = d ++ [(q, (bs.length : Int))] ++ (gat Tr.kn bs).map (pre q) by rw [List.append_assoc]; rfl]
    rw [← g0]
    -- the first row
    obtain ⟨r0, hr0⟩ := rws_ne _ w
    have ne : (gat Tr.rws bs).map (pre q) ≠ [] := fun z => by
      rw [← all] at z
      have z := List.map_eq_nil_iff.mp z
      rw [z] at hr0; simp at hr0
    cases hl : (gat Tr.rws bs).map (pre q) with
    | nil => exact absurd hl ne
    | cons y ys =>
      have hy : y ∈ (gat Tr.rws bs).map (pre q) := by rw [hl]; exact List.mem_cons_self ..
      obtain ⟨y0, _, ey⟩ := List.mem_map.mp hy
      rw [List.foldl_cons, List.foldl_cons]
      have := stps_mid (R := R) (d := d) (q := q) (x := y.1) (by rw [← ey]; exact List.prefix_append _ _) dq (by omega) (fun z => fq _ z (List.prefix_refl _))
      rw [hcq] at this
      exact congrArg (fun z => ys.foldl (rgo R) z) this
/-- the knots that the law counts are the tree's -/
theorem lk_kn {t : Tr} (w : Wf t) : lk t.rws = t.kn := by
  have := lk_sub (R := t.rws) t w [] [] (fun x m => Iff.rfl) (fun p hp hl => by simp at hl) (fun r hr => by simp at hr)
  have e : ∀ l : List Row, l.map (pre []) = l := fun l => by
    conv => rhs; rw [← List.map_id l]
    rfl
  rw [e, e] at this
  exact this
end RT
namespace RT
open PySem PySem.Spec PyProof.Rows L2
theorem rows_nolist : ∀ R : List Row, nolists (R.map rowD) = true
  | [] => rfl
  | x :: r => by
    rw [List.map_cons]
    simp [nolists, rowD, nolist, rows_nolist r]
theorem none_back {H H' : Hp} {L : Addr} (s : Same H H') (h : H' L = none) : H L = none := by
  cases e : H L with
  | none => rfl
  | some o => have := s _ _ e; rw [h] at this; cases this
/-- a list put behind a list -/
theorem list_grow {K : PySem.W.Frag} {H H1 H2 : Hp} {L : Addr} {acc zs : List V} {A B : List Row} (nL : H L = none) (s1 : Same H H1) (s2 : Same H1 H2) (hL : H1 L = some (.lst acc)) (ha : DpAll K H1 acc (A.map rowD)) (hz : DpAll K H2 zs (B.map rowD)) :
    Same H (upd H2 L (.lst (acc ++ zs))) ∧ (upd H2 L (.lst (acc ++ zs))) L = some (.lst (acc ++ zs)) ∧ DpAll K (upd H2 L (.lst (acc ++ zs))) (acc ++ zs) ((A ++ B).map rowD) := by
  have k := keep_upd (s2 _ _ hL) (.lst (acc ++ zs))
  refine ⟨same_off nL (s1.trans s2) _, upd_same, ?_⟩
  rw [List.map_append]
  exact DpAll_app (DpAll_keep k (rows_nolist _) (DpAll_same s2 ha)) (DpAll_keep k (rows_nolist _) hz)
theorem fm_true {α : Type} {l : List α} {g : α → PyData} : fm l (fun _ => true) g l.length = l.map g := by
  rw [fm_all]
  rw [List.filter_eq_self.mpr fun _ _ => rfl]
end RT
namespace RT
open PySem PySem.Spec PyProof.Rows L2
theorem room65 {k : Nat} {A : Around} (r : Room k A) : A.units + 65 < cLine := by have := r.un; omega
theorem rowD_eqv (a b : Row) : PyData.eqv (rowD a) (rowD b) = decide (a = b) := by
  have e : PyData.eqv (rowD a) (rowD b) = ((st a.1 == st b.1) && ((a.2 == b.2) && true)) := by simp only [rowD, PyData.eqv, PyData.eqvAll]
  rw [e, Bool.and_true]
  by_cases h : a = b
  · subst h; simp
  · rw [decide_eq_false h, Bool.and_eq_false_iff]
    by_cases h1 : a.1 = b.1
    · exact .inr (beq_eq_false_iff_ne.mpr fun h2 => h (Prod.ext h1 h2))
    · exact .inl (beq_eq_false_iff_ne.mpr fun h2 => h1 (st_inj h2))
theorem any_rowD (d : List Row) (r : Row) : ((d.map rowD).any fun z => PyData.eqv z (rowD r)) = decide (r ∈ d) := by
  rw [Bool.eq_iff_iff, List.any_eq_true, decide_eq_true_eq]
  constructor
  · rintro ⟨z, hz, e⟩
    obtain ⟨x, hx, rfl⟩ := List.mem_map.mp hz
    rw [rowD_eqv, decide_eq_true_eq] at e
    rw [← e]; exact hx
  · intro h
    exact ⟨rowD r, List.mem_map.mpr ⟨r, h, rfl⟩, by rw [rowD_eqv]; exact decide_eq_true rfl⟩
theorem rowD_shaped {r : Row} (h : ∀ c ∈ r.1, c ∈ signTab) : SeqAt.shaped (rowD r) = true := by
  unfold SeqAt.shaped
  rw [show PyData.canLay0 (rowD r) = true by simp [rowD, PyData.canLay0, PyData.canLayAll0, st_ok h], decide_eq_true (show PyData.depth (rowD r) ≤ 64 by simp only [rowD, PyData.depth, PyData.depthAll]; omega)]
  rfl
theorem strs_of {K : PySem.W.Frag} {H : Hp} : ∀ {acc : List V} {zs : List Str}, DpAll K H acc (zs.map PyData.str) → acc = zs.map V.str
  | _, [], h => DpAll_nil h
  | _, z :: zs, h => by
    obtain ⟨x, xs, rfl, hx, hr⟩ := DpAll_cons h
    cases Dp_str hx
    rw [strs_of hr]; rfl
/-- texts of the signs -/
def Signs (d : List Row) : Prop := ∀ r ∈ d, ∀ c ∈ r.1, c ∈ signTab
theorem stp_ok {R d : List Row} {p : List Nat} (hp : ∀ c ∈ p, c ∈ signTab) (hd : Signs d) : Signs (stp R d p) ∧ (stp R d p).length ≤ d.length + 1 := by
  unfold stp
  split
  · refine ⟨fun r hr => ?_, by rw [List.length_append]; exact Nat.le_refl _⟩
    rcases List.mem_append.mp hr with m | m
    · exact hd r m
    · rw [List.mem_singleton.mp m]; exact hp
  · exact ⟨hd, by omega⟩
theorem stps_ok {R d : List Row} {x : List Nat} (hx : ∀ c ∈ x, c ∈ signTab) (hd : Signs d) : ∀ k, Signs (stps R x d k) ∧ (stps R x d k).length ≤ d.length + k
  | 0 => ⟨hd, Nat.le_refl _⟩
  | k + 1 => by
    obtain ⟨h1, h2⟩ := stps_ok hx hd k
    rw [stps_succ]
    obtain ⟨h3, h4⟩ := stp_ok (R := R) (p := x.take k) (fun c hc => hx c (List.mem_of_mem_take hc)) h1
    exact ⟨h3, by omega⟩
theorem stp_yes {R d : List Row} {p : List Nat} (h : 1 < cnt R p) (n : (p, (cnt R p : Int)) ∉ d) : stp R d p = d ++ [(p, (cnt R p : Int))] := if_pos ⟨h, n⟩
def spLKnots (K : PySem.W.Frag) : Sp := fun vs H Q _ => ∃ (v : V) (R : List Row), vs = [v] ∧ Dp K H v (.list (R.map rowD)) ∧ R.length ≤ 40 ∧ (∀ r ∈ R, r.1.length ≤ 40 ∧ ∀ c ∈ r.1, c ∈ signTab) ∧
  ∀ (L : Addr) (acc : List V) (H' : Hp), H L = none → Same H H' → H' L = some (.lst acc) → DpAll K H' acc ((lk R).map rowD) → Q (.ref L) H'
end RT
namespace RT
open PySem PySem.Spec PyProof.Rows L2
theorem rowsOf_rws {o : Option Tr} {R : List Row} (h : Treed o R) : rowsOf Tr.rws o = R := by
  cases o with
  | none => exact (show R = [] from h).symm
  | some t => exact h.2
theorem lk_of {o : Option Tr} {R : List Row} (h : Treed o R) : lk R = rowsOf Tr.kn o := by
  cases o with
  | none =>
    have e : R = [] := h
    rw [e]; rfl
  | some t =>
    have := lk_kn h.1
    rw [h.2] at this; exact this
theorem rows_plain {R : List Row} (h : R.length ≤ 10000) : plain (.list (R.map rowD)) = true ∧ dep (.list (R.map rowD)) ≤ 3 := by
  have h1 : ∀ R : List Row, plains (R.map rowD) = true ∧ deps (R.map rowD) ≤ 2 := fun R => by
    induction R with
    | nil => exact ⟨rfl, by simp [deps]⟩
    | cons x r ih =>
      rw [List.map_cons]
      refine ⟨by simp [plains, rowD, plain, ih.1], ?_⟩
      have := ih.2
      simp [deps, rowD, dep]; omega
  obtain ⟨a, b⟩ := h1 R
  refine ⟨by simp [plain, a, h], ?_⟩
  show deps (R.map rowD) + 1 ≤ 3
  omega
theorem rows_eqv (R : List Row) : PyData.eqv (.list (R.map rowD)) (.list (R.map rowD)) = true := by
  show PyData.eqvAll (R.map rowD) (R.map rowD) = true
  induction R with
  | nil => rfl
  | cons x r ih =>
    rw [List.map_cons]
    show (PyData.eqv (rowD x) (rowD x) && PyData.eqvAll (r.map rowD) (r.map rowD)) = true
    rw [rowD_eqv, ih]; simp
theorem kn_good {o : Option Tr} {R : List Row} (h : Treed o R) (g : Good R) : Signs (rowsOf Tr.kn o) ∧ (rowsOf Tr.kn o).length ≤ 300 ∧ ∀ r ∈ rowsOf Tr.kn o, r.2 ≠ 1 := by
  cases o with
  | none => exact ⟨fun r hr => by simp [rowsOf] at hr, by simp [rowsOf], fun r hr => by simp [rowsOf] at hr⟩
  | some t =>
    have h1 := kn_in t h.1
    have h2 := many_le t h.1
    refine ⟨fun r hr c hc => ?_, ?_, fun r hr => (h1 r hr).2⟩
    · obtain ⟨⟨x, m, hx, hp⟩, _⟩ := h1 r hr
      rw [h.2] at hx
      exact (g.2.2 _ hx).2.1 c (hp.subset hc)
    · show t.kn.length ≤ 300
      have := g.2.1
      rw [kn_len]; rw [h.2] at h2; omega
theorem cut_last (xs : List V) (x : V) : cutV (xs ++ [x]) none (some (-1)) = xs := by
  show (((xs ++ [x]).drop 0).take (((-1 : Int) + (((xs ++ [x]).length : Nat) : Int)).toNat - 0)) = xs
  have e : ((-1 : Int) + (((xs ++ [x]).length : Nat) : Int)).toNat - 0 = xs.length := by rw [List.length_append, List.length_singleton]; omega
  rw [e, List.drop_zero, List.take_left]
theorem upd_other {H : Hp} {p q : Addr} {o : HO} {u : HO} (h : H q = some u) (n : H p = none) : upd H p o q = some u := by
  rw [upd_ne (ne_of_none h n)]; exact h
end RT

/-! branches cut, joined, moved: rows -/
namespace RT
open PySem PySem.Spec PyProof.Rows L2
/-- the name begins so -/
def tk (b : List Nat) (r : Row) : Bool := decide (r.1.take b.length = b)
def dropR (b : List Nat) (r : Row) : Row := (r.1.drop b.length, r.2)
def stayR (b : List Nat) (R : List Row) : List Row := R.filter fun r => !tk b r
def goneR (b : List Nat) (R : List Row) : List Row := (R.filter (tk b)).map (dropR b)
theorem tk_iff {b : List Nat} {r : Row} : tk b r = true ↔ b <+: r.1 := by
  unfold tk
  rw [decide_eq_true_eq, List.prefix_iff_eq_take]
  exact eq_comm
theorem tk_split {b : List Nat} {r : Row} (h : tk b r = true) : r.1 = b ++ (dropR b r).1 := by
  obtain ⟨y, hy⟩ := tk_iff.mp h
  unfold dropR
  show r.1 = b ++ r.1.drop b.length
  rw [← hy, List.drop_left]
theorem stay_up {b : List Nat} {R : List Row} (h : Up R) : Up (stayR b R) := h.filter _
theorem gone_up {b : List Nat} {R : List Row} (h : Up R) : Up (goneR b R) := by
  refine List.pairwise_map.mpr (List.Pairwise.imp_of_mem (fun {x y} hx hy hlt => ?_) (h.filter _))
  have ex := tk_split (List.mem_filter.mp hx).2
  have ey := tk_split (List.mem_filter.mp hy).2
  rw [ex, ey] at hlt
  exact (app_lt b).mp hlt
theorem mem_gone {b y : List Nat} {m : Int} {R : List Row} : (y, m) ∈ goneR b R ↔ (b ++ y, m) ∈ R := by
  unfold goneR
  rw [List.mem_map]
  constructor
  · rintro ⟨r, hr, e⟩
    obtain ⟨h1, h2⟩ := List.mem_filter.mp hr
    have e1 := tk_split h2
    have : r = (b ++ y, m) := by
      injection e with e2 e3
      exact Prod.ext (by rw [e1]; show b ++ r.1.drop b.length = b ++ y; rw [e2]) e3
    rw [← this]; exact h1
  · intro h
    refine ⟨(b ++ y, m), List.mem_filter.mpr ⟨h, tk_iff.mpr (List.prefix_append b y)⟩, ?_⟩
    unfold dropR
    show ((b ++ y).drop b.length, m) = _
    rw [List.drop_left]
theorem mem_stay {b : List Nat} {r : Row} {R : List Row} : r ∈ stayR b R ↔ r ∈ R ∧ ¬ b <+: r.1 := by
  unfold stayR
  rw [List.mem_filter]
  refine and_congr Iff.rfl ?_
  rw [← tk_iff]
  cases tk b r <;> simp
theorem stay_good {b : List Nat} {R : List Row} (g : Good R) : Good (stayR b R) :=
  ⟨stay_up g.1, Nat.le_trans (List.length_filter_le _ _) g.2.1, fun r hr => g.2.2 r (mem_stay.mp hr).1⟩
theorem gone_good {b : List Nat} {R : List Row} (g : Good R) : Good (goneR b R) := by
  refine ⟨gone_up g.1, ?_, fun r hr => ?_⟩
  · unfold goneR
    rw [List.length_map]
    exact Nat.le_trans (List.length_filter_le _ _) g.2.1
  · have := g.2.2 _ (mem_gone.mp hr)
    obtain ⟨h1, h2, h3⟩ := this
    have h1 : (b ++ r.1).length ≤ 40 := h1
    rw [List.length_append] at h1
    exact ⟨by omega, fun c hc => h2 c (List.mem_append_right _ hc), h3⟩
/-- what the law's own tree wants of good rows -/
theorem good_tree {R : List Row} (g : Good R) : Up R ∧ R.length ≤ 4000 ∧ (∀ r ∈ R, (∀ c ∈ r.1, c ∈ signTab) ∧ r.1.length ≤ 1000) ∧ (R.length ≤ 1 ∨ ∀ r ∈ R, r.1.length + 2 ≤ 43) :=
  ⟨g.1, by have := g.2.1; omega, fun r hr => ⟨(g.2.2 r hr).2.1, by have := (g.2.2 r hr).1; omega⟩, .inr fun r hr => by have := (g.2.2 r hr).1; omega⟩
theorem good_small {o : Option Tr} {R : List Row} (h : Treed o R) (g : Good R) : plain (oD o) = true ∧ dep (oD o) ≤ 123 := by
  obtain ⟨a, b⟩ := treed_small h (by have := g.2.1; omega) fun r hr => (g.2.2 r hr).1
  exact ⟨a, by omega⟩
/-! ### promises -/
def spCut (K : PySem.W.Frag) : Sp := fun vs H Q _ => ∃ (v : V) (o : Option Tr) (b : List Nat) (R : List Row), vs = [v, .str (st b)] ∧ Dp K H v (oD o) ∧ Treed o R ∧ FitsO o ∧ dpt o < 50 ∧ b.length ≤ 1000 ∧
  ∀ (u : V) (o1 o2 : Option Tr) (H' : Hp), Treed o1 (stayR b R) → Treed o2 (goneR b R) → Same H H' → Dp K H' u (.tuple [oD o1, oD o2]) → Q u H'
end RT
namespace RT
open PySem PySem.Spec PyProof.Rows L2
/-- good rows, at most N -/
def GR (N : Nat) (R : List Row) : Prop := Up R ∧ R.length ≤ N ∧ ∀ r ∈ R, GoodR r
theorem gr_mono {N M : Nat} {R : List Row} (g : GR N R) (h : N ≤ M) : GR M R := ⟨g.1, Nat.le_trans g.2.1 h, g.2.2⟩
theorem gr_tree {N : Nat} {R : List Row} (g : GR N R) (h : N ≤ 4000) : Up R ∧ R.length ≤ 4000 ∧ (∀ r ∈ R, (∀ c ∈ r.1, c ∈ signTab) ∧ r.1.length ≤ 1000) ∧ (R.length ≤ 1 ∨ ∀ r ∈ R, r.1.length + 2 ≤ 43) :=
  ⟨g.1, by have := g.2.1; omega, fun r hr => ⟨(g.2.2 r hr).2.1, by have := (g.2.2 r hr).1; omega⟩, .inr fun r hr => by have := (g.2.2 r hr).1; omega⟩
theorem gr_small {N : Nat} {o : Option Tr} {R : List Row} (h : Treed o R) (g : GR N R) (hN : N ≤ 4000) : plain (oD o) = true ∧ dep (oD o) ≤ 123 := by
  obtain ⟨a, b⟩ := treed_small h (by have := g.2.1; omega) fun r hr => (g.2.2 r hr).1
  exact ⟨a, by omega⟩
theorem gr_fits {N : Nat} {o : Option Tr} {R : List Row} (h : Treed o R) (g : GR N R) (hN : N ≤ 4000) : FitsO o ∧ dpt o < 50 := by
  refine ⟨treed_fits h (by have := g.2.1; omega) (fun r hr => by have := (g.2.2 r hr).1; omega), ?_⟩
  cases o with
  | none => show 0 < 50; decide
  | some t =>
    have := deep_le t h.1 40 fun x m hx => (g.2.2 (x, m) (by rw [← h.2]; exact hx)).1
    show t.deep < 50
    omega
/-- a name of these rows -/
def inn (R : List Row) (x : List Nat) : Bool := R.any fun r => decide (r.1 = x)
theorem inn_iff {R : List Row} {x : List Nat} : inn R x = true ↔ ∃ m, (x, m) ∈ R := by
  unfold inn
  rw [List.any_eq_true]
  constructor
  · rintro ⟨r, hr, e⟩
    have e : r.1 = x := of_decide_eq_true e
    exact ⟨r.2, by rw [← e]; exact hr⟩
  · rintro ⟨m, h⟩
    exact ⟨_, h, decide_eq_true rfl⟩
def txts (R : List Row) : List V := R.map fun r => V.str (st r.1)
theorem txts_flat (R : List Row) : (txts R).all flatV = true := by
  unfold txts
  rw [List.all_map]
  exact List.all_eq_true.mpr fun _ _ => rfl
theorem inn_V (R : List Row) (x : List Nat) : inV (.str (st x)) (txts R) = inn R x := by
  unfold txts inn
  induction R with
  | nil => rfl
  | cons r R ih =>
    have e : (st r.1 == st x) = decide (r.1 = x) := by
      rw [Bool.eq_iff_iff, beq_iff_eq, decide_eq_true_eq]
      exact ⟨st_inj, fun h => by rw [h]⟩
    show ((st r.1 == st x) || inV (.str (st x)) (R.map fun r => V.str (st r.1))) = _
    rw [e, ih]
    rfl
/-- the rows of two trees -/
def Both (R S T : List Row) : Prop := Up T ∧ ∀ r, r ∈ T ↔ r ∈ R ∨ r ∈ S
def Share (R S : List Row) : Prop := ∃ x m k, (x, m) ∈ R ∧ (x, k) ∈ S
/-- what joined wants of a tree -/
def InJ (K : PySem.W.Frag) (H : Hp) (v : V) (o : Option Tr) (R : List Row) : Prop := Dp K H v (oD o) ∧ Treed o R ∧ FitsO o ∧ dpt o < 50 ∧ R.length ≤ 1000 ∧ ∀ r ∈ R, r.1.length ≤ 200 ∧ ∀ c ∈ r.1, c < 127
def spJoined (K : PySem.W.Frag) (CN : Addr) : Sp := fun vs H Q E => ∃ (v w : V) (o1 o2 : Option Tr) (R S : List Row), vs = [v, w] ∧ InJ K H v o1 R ∧ InJ K H w o2 S ∧
  (Share R S → ∀ H', Same H H' → E (.ref CN) none H') ∧ (¬ Share R S → ∀ (o : Option Tr) (T : List Row) (u : V) (H' : Hp), Both R S T → Treed o T → Same H H' → Dp K H' u (oD o) → Q u H')
def spRefusedJ (K : PySem.W.Frag) : Sp := fun vs H Q _ => ∃ (v w : V) (o1 o2 : Option Tr) (R S : List Row), vs = [v, w] ∧ InJ K H v o1 R ∧ InJ K H w o2 S ∧ Share R S ∧ ∀ H', Same H H' → Q (.bl true) H'
end RT
namespace RT
open PySem PySem.Spec PyProof.Rows L2
theorem txts_of {K : PySem.W.Frag} {H : Hp} {acc : List V} {R : List Row} (h : DpAll K H acc (R.map fun r => PyData.str (st r.1))) : acc = txts R := by
  induction R generalizing acc with
  | nil => exact DpAll_nil h
  | cons r R ih =>
    obtain ⟨x, xs, rfl, hx, hr⟩ := DpAll_cons h
    cases Dp_str hx
    rw [ih hr]; rfl
theorem names_both {R S : List Row} (h1 : Names R) (h2 : Names S) (n : ∀ r ∈ S, inn R r.1 = false) : Names (R ++ S) := by
  unfold Names at *
  rw [List.map_append]
  refine List.nodup_append.mpr ⟨h1, h2, fun x hx y hy e => ?_⟩
  obtain ⟨r, hr, rfl⟩ := List.mem_map.mp hx
  obtain ⟨s, hs, rfl⟩ := List.mem_map.mp hy
  have : inn R s.1 = true := inn_iff.mpr ⟨r.2, by rw [← e]; exact hr⟩
  rw [n s hs] at this; cases this
theorem share_iff {R S : List Row} : Share R S ↔ ∃ r ∈ S, inn R r.1 = true := by
  constructor
  · rintro ⟨x, m, k, h1, h2⟩; exact ⟨_, h2, inn_iff.mpr ⟨m, h1⟩⟩
  · rintro ⟨r, hr, e⟩
    obtain ⟨m, hm⟩ := inn_iff.mp e
    exact ⟨r.1, m, r.2, hm, hr⟩
theorem share_symm {R S : List Row} (h : Share R S) : Share S R := by
  obtain ⟨x, m, k, h1, h2⟩ := h
  exact ⟨x, k, m, h2, h1⟩
theorem gr_perm {N : Nat} {R S : List Row} (p : S.Perm R) (u : Up S) (hl : R.length ≤ N) (h : ∀ r ∈ R, GoodR r) : GR N S := ⟨u, by rw [p.length_eq]; exact hl, fun r hr => h r (p.mem_iff.mp hr)⟩
theorem gr_inJ {K : PySem.W.Frag} {H : Hp} {v : V} {o : Option Tr} {R : List Row} {N : Nat} (h : Dp K H v (oD o)) (t : Treed o R) (g : GR N R) (hN : N ≤ 1000) : InJ K H v o R := by
  obtain ⟨f1, f2⟩ := gr_fits t g (by omega)
  exact ⟨h, t, f1, f2, by have := g.2.1; omega, fun r hr => ⟨by have := (g.2.2 r hr).1; omega, fun c hc => tab_ok c ((g.2.2 r hr).2.1 c hc)⟩⟩
end RT

/-! questions to trees: what plain rows tell -/
namespace RT
open PySem PySem.Spec PyProof.Rows L2
/-- texts, each once, as first met -/
def dd1 (ks : List (List Nat)) (a : List Nat) : List (List Nat) := if a ∈ ks then ks else ks ++ [a]
def dd (l : List (List Nat)) : List (List Nat) := l.foldl dd1 []
theorem dd_snoc (l : List (List Nat)) (a : List Nat) : dd (l ++ [a]) = dd1 (dd l) a := by unfold dd; rw [List.foldl_append]; rfl
theorem dd_ok : ∀ n (l : List (List Nat)), l.length = n → (∀ x, x ∈ dd l ↔ x ∈ l) ∧ (dd l).length ≤ n ∧ (l.Pairwise (fun x y => ¬ y < x) → (dd l).Pairwise fun x y => x < y)
  | 0, l, h => by
    have : l = [] := List.length_eq_zero_iff.mp h
    subst this
    exact ⟨fun x => Iff.rfl, Nat.le_refl _, fun _ => List.Pairwise.nil⟩
  | n + 1, l, h => by
    have hne : l ≠ [] := fun e => by rw [e] at h; simp at h
    have e := List.dropLast_concat_getLast hne
    generalize l.dropLast = a, l.getLast hne = z at e
    subst e
    obtain ⟨i1, i2, i3⟩ := dd_ok n a (by simpa using h)
    rw [dd_snoc]
    unfold dd1
    by_cases m : z ∈ dd a
    · rw [if_pos m]
      refine ⟨fun x => ?_, by omega, fun p => i3 (List.pairwise_append.mp p).1⟩
      rw [i1, List.mem_append, List.mem_singleton]
      exact ⟨.inl, fun q => q.elim id fun e => by rw [e]; exact (i1 z).mp m⟩
    · rw [if_neg m]
      refine ⟨fun x => by rw [List.mem_append, List.mem_append, i1], by rw [List.length_append]; simp; omega, fun p => ?_⟩
      obtain ⟨p1, _, p2⟩ := List.pairwise_append.mp p
      refine List.pairwise_append.mpr ⟨i3 p1, List.pairwise_singleton _ _, fun x hx y hy => ?_⟩
      have ey : y = z := List.mem_singleton.mp hy
      rw [ey]
      have h1 := p2 x ((i1 x).mp hx) z (List.mem_singleton.mpr rfl)
      exact Decidable.byContradiction fun h2 => m (by rw [← lt_tri h2 h1]; exact hx)
/-- rising texts with the same members -/
theorem rise_ext {a b : List (List Nat)} (ha : a.Pairwise fun x y => x < y) (hb : b.Pairwise fun x y => x < y) (h : ∀ x, x ∈ a ↔ x ∈ b) : a = b := by
  have inj : ∀ l : List (List Nat), (l.map fun x => ((x, 0) : Row)).map (·.1) = l := fun l => by
    rw [List.map_map]
    conv => rhs; rw [← List.map_id l]
    rfl
  have e : a.map (fun x => ((x, 0) : Row)) = b.map (fun x => ((x, 0) : Row)) := by
    refine up_ext (List.pairwise_map.mpr ha) (List.pairwise_map.mpr hb) fun ⟨x, m⟩ => ?_
    rw [List.mem_map, List.mem_map]
    constructor
    · rintro ⟨y, hy, e⟩; exact ⟨y, (h y).mp hy, e⟩
    · rintro ⟨y, hy, e⟩; exact ⟨y, (h y).mpr hy, e⟩
  rw [← inj a, e, inj b]
/-- the rows under a beginning -/
def below (b : List Nat) (R : List Row) : List Row := R.filter (tk b)
/-- their longest common beginning -/
def cmOf (R : List Row) : Option (List Nat) := match R.head?, R.getLast? with
  | some a, some b => some (a.1.take (lcp a.1 b.1))
  | _, _ => none
def optT : Option (List Nat) → V
  | none => .non
  | some x => .str (st x)
def optTD : Option (List Nat) → PyData
  | none => .none
  | some x => .str (st x)
theorem Dp_optT {K : PySem.W.Frag} {H : Hp} (o : Option (List Nat)) : Dp K H (optT o) (optTD o) := by
  cases o with
  | none => exact .non
  | some x => exact .str _
theorem optTD_ok (o : Option (List Nat)) : plain (optTD o) = true ∧ dep (optTD o) = 1 := by cases o <;> exact ⟨rfl, rfl⟩
def lgs (R : List Row) (x : List Nat) : Option (List Nat) := ((R.filter fun r => decide (x.take r.1.length = r.1)).getLast?).map (·.1)
def aft (R : List Row) (x : List Nat) : Option (List Nat) := ((R.filter fun r => decide (x < r.1)).head?).map (·.1)
def txD (s : List Nat) : PyData := .str (st s)
/-- what can come next -/
def Nxt (b : List Nat) (R : List Row) (ss : List (List Nat)) : Prop := (ss.Pairwise fun x y => x < y) ∧ ∀ s, s ∈ ss ↔ ∃ r ∈ below b R, sg b.length r = s
theorem nxt_dd {b : List Nat} {R : List Row} (up : Up R) : Nxt b R (dd ((below b R).map (sg b.length))) := by
  obtain ⟨i1, _, i3⟩ := dd_ok _ ((below b R).map (sg b.length)) rfl
  refine ⟨i3 (List.pairwise_map.mpr (List.Pairwise.imp_of_mem (fun {x y} hx hy h => ?_) (up.filter _))), fun s => by rw [i1, List.mem_map]⟩
  exact sg_mono (tk_iff.mp (List.mem_filter.mp hx).2) (tk_iff.mp (List.mem_filter.mp hy).2) h
theorem nxt_one {b : List Nat} {R : List Row} {s t : List (List Nat)} (h1 : Nxt b R s) (h2 : Nxt b R t) : s = t := rise_ext h1.1 h2.1 fun x => by rw [h1.2, h2.2]
theorem below_good {b : List Nat} {R : List Row} (g : Good R) : Good (below b R) := ⟨g.1.filter _, Nat.le_trans (List.length_filter_le _ _) g.2.1, fun r hr => g.2.2 r (List.mem_filter.mp hr).1⟩
/-! ### promises -/
/-- a tree of good rows, as the asked functions take it -/
def InA (K : PySem.W.Frag) (H : Hp) (v : V) (o : Option Tr) (R : List Row) : Prop := Dp K H v (oD o) ∧ Treed o R ∧ Good R
def newL (K : PySem.W.Frag) (H : Hp) (ds : List PyData) (Q : VK) : Prop := ∀ (L : Addr) (acc : List V) (H' : Hp), H L = none → Same H H' → H' L = some (.lst acc) → DpAll K H' acc ds → Q (.ref L) H'
def spUnder (K : PySem.W.Frag) : Sp := fun vs H Q _ => ∃ (v : V) (o : Option Tr) (R : List Row) (b : List Nat), vs = [v, .str (st b)] ∧ InA K H v o R ∧ b.length ≤ 300 ∧ newL K H ((below b R).map rowD) Q
def spMany (K : PySem.W.Frag) : Sp := fun vs H Q _ => ∃ (v : V) (o : Option Tr) (R : List Row) (b : List Nat), vs = [v, .str (st b)] ∧ InA K H v o R ∧ b.length ≤ 300 ∧ ∀ H', Same H H' → Q (.int ((below b R).length : Nat)) H'
def spCommonOf (K : PySem.W.Frag) : Sp := fun vs H Q _ => ∃ (v : V) (o : Option Tr) (R : List Row) (b : List Nat), vs = [v, .str (st b)] ∧ InA K H v o R ∧ b.length ≤ 300 ∧ ∀ H', Same H H' → Q (optT (cmOf (below b R))) H'
def spNext (K : PySem.W.Frag) : Sp := fun vs H Q _ => ∃ (v : V) (o : Option Tr) (R : List Row) (b : List Nat), vs = [v, .str (st b)] ∧ InA K H v o R ∧ b.length ≤ 300 ∧ ∀ ss, Nxt b R ss → newL K H (ss.map txD) Q
def spLongest (K : PySem.W.Frag) : Sp := fun vs H Q _ => ∃ (v : V) (o : Option Tr) (R : List Row) (x : List Nat), vs = [v, .str (st x)] ∧ InA K H v o R ∧ x.length ≤ 300 ∧ ∀ H', Same H H' → Q (optT (lgs R x)) H'
def spAfter (K : PySem.W.Frag) : Sp := fun vs H Q _ => ∃ (v : V) (o : Option Tr) (R : List Row) (x : List Nat), vs = [v, .str (st x)] ∧ InA K H v o R ∧ x.length ≤ 300 ∧ ∀ H', Same H H' → Q (optT (aft R x)) H'
def spShared (K : PySem.W.Frag) : Sp := fun vs H Q _ => ∃ (v : V) (R : List Row), vs = [v] ∧ Dp K H v (.list (R.map rowD)) ∧ Good R ∧ ∀ H', Same H H' → Q (optT (cmOf R)) H'
def spSigns (K : PySem.W.Frag) : Sp := fun vs H Q _ => ∃ (v : V) (R : List Row) (k : Nat), vs = [v, .int k] ∧ Dp K H v (.list (R.map rowD)) ∧ Good R ∧ newL K H ((dd (R.map (sg k))).map txD) Q
end RT
namespace RT
open PySem PySem.Spec PyProof.Rows L2
theorem inV_txt (d : List (List Nat)) (z : List Nat) : inV (V.str (st z)) (d.map fun s => V.str (st s)) = decide (z ∈ d) := by
  induction d with
  | nil => rfl
  | cons y d ih =>
    show ((st y == st z) || inV (.str (st z)) (d.map fun s => V.str (st s))) = _
    rw [ih]
    rw [Bool.eq_iff_iff, Bool.or_eq_true, beq_iff_eq, decide_eq_true_eq, decide_eq_true_eq, List.mem_cons]
    exact or_congr ⟨fun h => (st_inj h).symm, fun h => by rw [h]⟩ Iff.rfl
end RT
namespace RT
open PySem PySem.Spec PyProof.Rows L2
def tys (F : List Row) : List PyData := F.map fun r => .str (st r.1)
theorem tys_shaped {F : List Row} (h : ∀ r ∈ F, ∀ c ∈ r.1, c ∈ signTab) : SeqAt.shaped (.list (tys F)) = true := by
  have h1 : ∀ F : List Row, (∀ r ∈ F, ∀ c ∈ r.1, c ∈ signTab) → PyData.canLayAll0 (tys F) = true ∧ PyData.depthAll (tys F) ≤ 1 := fun F h => by
    induction F with
    | nil => exact ⟨rfl, by simp [tys, PyData.depthAll]⟩
    | cons x r ih =>
      obtain ⟨i1, i2⟩ := ih fun a ha => h a (List.mem_cons_of_mem _ ha)
      have hx := st_ok (h x (List.mem_cons_self ..))
      have e : tys (x :: r) = .str (st x.1) :: tys r := rfl
      rw [e]
      constructor
      · simp [PyData.canLayAll0, PyData.canLay0, hx, i1]
      · simp only [PyData.depthAll, PyData.depth]; omega
  obtain ⟨a, b⟩ := h1 F h
  unfold SeqAt.shaped
  rw [show PyData.canLay0 (.list (tys F)) = true by simpa [PyData.canLay0] using a]
  rw [decide_eq_true (show PyData.depth (.list (tys F)) ≤ 64 by simp only [PyData.depth]; omega)]
  rfl
theorem tys_Dp {K : PySem.W.Frag} {H : Hp} : ∀ F : List Row, DpAll K H (txts F) (tys F)
  | [] => .nil
  | _ :: r => .cons (.str _) (tys_Dp r)
theorem txD_plain (l : List (List Nat)) (h : l.length ≤ 10000) : plain (.list (l.map txD)) = true ∧ dep (.list (l.map txD)) ≤ 3 := by
  have h1 : plains (l.map txD) = true ∧ deps (l.map txD) ≤ 1 := by
    clear h
    induction l with
    | nil => exact ⟨rfl, by simp [deps]⟩
    | cons x r ih =>
      refine ⟨by simp [plains, txD, plain, ih.1], ?_⟩
      have := ih.2
      simp [deps, txD, dep]; omega
  obtain ⟨a, b⟩ := h1
  refine ⟨by simp [plain, a, h], ?_⟩
  show deps (l.map txD) + 1 ≤ 3
  omega
theorem txs_nolist (l : List (List Nat)) : nolists (l.map txD) = true := by
  induction l with
  | nil => rfl
  | cons x r ih => simp [nolists, txD, nolist, ih]
theorem txts_last {F : List Row} {r : Row} (h : F.getLast? = some r) : atI (txts F ++ [V.str (st [])]) ((((txts F).length : Nat) : Int) - 1) = some (.str (st r.1)) := by
  obtain ⟨ys, rfl⟩ := List.getLast?_eq_some_iff.mp h
  have e : ((((txts (ys ++ [r])).length : Nat) : Int) - 1) = ((ys.length : Nat) : Int) := by unfold txts; rw [List.length_map, List.length_append]; simp
  rw [e]
  refine atI_nat ?_
  unfold txts
  rw [List.map_append, List.append_assoc, List.getElem?_append_right (by rw [List.length_map]; exact Nat.le_refl _), List.length_map]
  simp
end RT

/-! branches moved: names of up to M signs -/
namespace RT
open PySem PySem.Spec PyProof.Rows L2
/-- rows of names of at most M signs, at most N of them -/
def GM (M N : Nat) (R : List Row) : Prop := Up R ∧ R.length ≤ N ∧ ∀ r ∈ R, r.1.length ≤ M ∧ ∀ c ∈ r.1, c ∈ signTab
theorem gm_of {N : Nat} {R : List Row} (g : GR N R) : GM 40 N R := ⟨g.1, g.2.1, fun r hr => ⟨(g.2.2 r hr).1, (g.2.2 r hr).2.1⟩⟩
theorem gm_mono {M N M' N' : Nat} {R : List Row} (g : GM M N R) (h : M ≤ M') (h' : N ≤ N') : GM M' N' R := ⟨g.1, Nat.le_trans g.2.1 h', fun r hr => ⟨Nat.le_trans (g.2.2 r hr).1 h, (g.2.2 r hr).2⟩⟩
theorem gm_tree {R : List Row} (g : GM 80 400 R) : Up R ∧ R.length ≤ 4000 ∧ (∀ r ∈ R, (∀ c ∈ r.1, c ∈ signTab) ∧ r.1.length ≤ 1000) ∧ (R.length ≤ 1 ∨ ∀ r ∈ R, r.1.length + 2 ≤ 83) :=
  ⟨g.1, by have := g.2.1; omega, fun r hr => ⟨(g.2.2 r hr).2, by have := (g.2.2 r hr).1; omega⟩, .inr fun r hr => by have := (g.2.2 r hr).1; omega⟩
theorem gm_small {o : Option Tr} {R : List Row} (h : Treed o R) (g : GM 80 400 R) : plain (oD o) = true ∧ dep (oD o) ≤ 243 := by
  obtain ⟨a, b⟩ := treed_small h (by have := g.2.1; omega) fun r hr => (g.2.2 r hr).1
  exact ⟨a, by omega⟩
theorem gm_fits {o : Option Tr} {R : List Row} (h : Treed o R) (g : GM 80 400 R) : FitsO o ∧ dpt o < 100 := by
  refine ⟨treed_fits h (by have := g.2.1; omega) (fun r hr => by have := (g.2.2 r hr).1; omega), ?_⟩
  cases o with
  | none => show 0 < 100; decide
  | some t =>
    have := deep_le t h.1 80 fun x m hx => (g.2.2 (x, m) (by rw [← h.2]; exact hx)).1
    show t.deep < 100
    omega
/-- knots without branches: the names -/
theorem kn_ends : ∀ t : Tr, Wf t → t.kn.filter (fun r => decide (r.2 < 2)) = t.rws.map fun r => (r.1, 0) := by
  refine Tr.ind (fun t n _ => by simp [Tr.kn, Tr.rws]) fun t bs ih w => ?_
  have w' := wfB_iff.mp w.2
  have h2 := w.1
  show (((t, (bs.length : Int)) :: (knn bs).map (pre t)).filter _) = (((rwss bs).map (pre t)).map _)
  rw [List.filter_cons_of_neg (by have : ¬ ((bs.length : Nat) : Int) < 2 := by omega
                                  simpa using this), gat_kn, gat_rws]
  have key : ∀ (p : List Nat) (K R : List Row), K.filter (fun r => decide (r.2 < 2)) = R.map (fun r => (r.1, 0)) → (K.map (pre p)).filter (fun r => decide (r.2 < 2)) = (R.map (pre p)).map fun r => (r.1, 0) := fun p K R h => by
    rw [List.filter_map, List.map_map]
    have e : (fun r : Row => decide (r.2 < 2)) ∘ pre p = fun r : Row => decide (r.2 < 2) := rfl
    rw [e, h, List.map_map]; rfl
  refine key t _ _ ?_
  have all : ∀ bs : List (List Nat × Tr), (∀ b ∈ bs, b.2.kn.filter (fun r => decide (r.2 < 2)) = b.2.rws.map fun r => (r.1, 0)) → (gat Tr.kn bs).filter (fun r => decide (r.2 < 2)) = (gat Tr.rws bs).map fun r => (r.1, 0) := fun bs h => by
    induction bs with
    | nil => rfl
    | cons b r ihh =>
      rw [show gat Tr.kn (b :: r) = b.2.kn.map (pre b.1) ++ gat Tr.kn r from rfl, show gat Tr.rws (b :: r) = b.2.rws.map (pre b.1) ++ gat Tr.rws r from rfl, List.filter_append, List.map_append,
        key b.1 _ _ (h b (List.mem_cons_self ..)), ihh fun c hc => h c (List.mem_cons_of_mem _ hc)]
  exact all bs fun b hb => ih b hb (w'.1 b hb).2.2
def tag (s : Str) : PyData := .tuple [.str s, .bool true]
theorem tag_shaped1 : SeqAt.shaped (tag (Str.ofString "not there")) = true := by decide +kernel
theorem tag_shaped2 : SeqAt.shaped (tag (Str.ofString "taken")) = true := by decide +kernel
def tagT (o : Option Tr) : PyData := .tuple [.str (Str.ofString "told"), oD o]
def spIsDue (K : PySem.W.Frag) : Sp := fun vs H Q _ => ∃ (t : V) (ls lf : Addr) (accS accF : List V) (S F : List Row), vs = [t, .ref ls, .ref lf] ∧ H ls = some (.lst accS) ∧ H lf = some (.lst accF) ∧ DpAll K H accS (S.map rowD) ∧ DpAll K H accF (F.map rowD) ∧ GM 80 200 S ∧ GM 80 200 F ∧
  (F = [] → Dp K H t (tag (Str.ofString "not there"))) ∧ (F ≠ [] → Share S F → Dp K H t (tag (Str.ofString "taken"))) ∧ (F ≠ [] → ¬ Share S F → ∃ o T, Both S F T ∧ Treed o T ∧ Dp K H t (tagT o)) ∧ ∀ H', Same H H' → Q (.bl true) H'
theorem gm_shaped {M N : Nat} {R : List Row} (g : GM M N R) : SeqAt.shaped (.list (R.map rowD)) = true := rows_shaped fun r hr => (g.2.2 r hr).2
theorem ends_of {o : Option Tr} {R : List Row} (h : Treed o R) : (rowsOf Tr.kn o).filter (fun r => decide (r.2 < 2)) = R.map fun r => (r.1, 0) := by
  cases o with
  | none =>
    have e : R = [] := h
    rw [e]; rfl
  | some t => rw [← h.2]; exact kn_ends t h.1
theorem kn_few {o : Option Tr} (f : FitsO o) : (rowsOf Tr.kn o).length ≤ 10000 := by
  cases o with
  | none => show 0 ≤ 10000; decide
  | some t => exact (bnd_kn t (f t rfl)).2
/-- the rows that come: another text in the beginning's place -/
def freshR (b c : List Nat) (R : List Row) : List Row := (goneR b R).map (pre c)
theorem fresh_eq (b c : List Nat) (R : List Row) : freshR b c R = (R.filter (tk b)).map fun r => (c ++ r.1.drop b.length, r.2) := by
  unfold freshR goneR
  rw [List.map_map]; rfl
theorem fresh_gm {b c : List Nat} {R : List Row} (g : Good R) (hc : c.length ≤ 40) (ht : ∀ x ∈ c, x ∈ signTab) : GM 80 200 (freshR b c R) := by
  have g2 := gone_good (b := b) g
  refine ⟨up_map g2.1, ?_, fun r hr => ?_⟩
  · unfold freshR
    rw [List.length_map]
    have := g2.2.1; omega
  · obtain ⟨r0, h0, rfl⟩ := List.mem_map.mp hr
    obtain ⟨a1, a2, _⟩ := g2.2.2 r0 h0
    refine ⟨by show (c ++ r0.1).length ≤ 80; rw [List.length_append]; omega, fun x hx => ?_⟩
    rcases List.mem_append.mp hx with hx | hx
    · exact ht x hx
    · exact a2 x hx
/-- what moved or copied tell, as the law wraps it -/
def spMvd (K : PySem.W.Frag) (stay : List Nat → List Row → List Row) : Sp := fun vs H Q _ => ∃ (v : V) (o : Option Tr) (R : List Row) (b c : List Nat), vs = [v, .str (st b), .str (st c)] ∧ Dp K H v (oD o) ∧ Treed o R ∧ Good R ∧ b.length ≤ 40 ∧ c.length ≤ 40 ∧ (∀ x ∈ b, x ∈ signTab) ∧ (∀ x ∈ c, x ∈ signTab) ∧
  ∀ (t : V) (H' : Hp), Same H H' → (freshR b c R = [] → Dp K H' t (tag (Str.ofString "not there"))) → (freshR b c R ≠ [] → Share (stay b R) (freshR b c R) → Dp K H' t (tag (Str.ofString "taken"))) →
    (freshR b c R ≠ [] → ¬ Share (stay b R) (freshR b c R) → ∃ o T, Both (stay b R) (freshR b c R) T ∧ Treed o T ∧ Dp K H' t (tagT o)) → Q t H'
/-- moved, copied: refused by the classes at CN (NotThere), CT (Taken) -/
def spMoved (K : PySem.W.Frag) (CN CT : Addr) (stay : List Nat → List Row → List Row) : Sp := fun vs H Q E => ∃ (v : V) (o : Option Tr) (R : List Row) (b c : List Nat), vs = [v, .str (st b), .str (st c)] ∧ Dp K H v (oD o) ∧ Treed o R ∧ Good R ∧ b.length ≤ 40 ∧ c.length ≤ 40 ∧ (∀ x ∈ b, x ∈ signTab) ∧ (∀ x ∈ c, x ∈ signTab) ∧
  (freshR b c R = [] → ∀ H', Same H H' → E (.ref CN) none H') ∧ (freshR b c R ≠ [] → Share (stay b R) (freshR b c R) → ∀ H', Same H H' → E (.ref CT) none H') ∧
  (freshR b c R ≠ [] → ¬ Share (stay b R) (freshR b c R) → ∀ (o : Option Tr) (T : List Row) (u : V) (H' : Hp), Both (stay b R) (freshR b c R) T → Treed o T → Same H H' → Dp K H' u (oD o) → Q u H')
end RT

/-! branches behind a text, a branch replaced -/
namespace RT
open PySem PySem.Spec PyProof.Rows L2
/-- the branches of a tree behind a text with which all its names begin -/
def behB (t : Tr) (b : List Nat) : List (List Nat × Tr) := match t with
  | .leaf u n => [brn (.leaf u n) b.length]
  | .fork u bs => if u = b then bs else [brn (.fork u bs) b.length]
/-- signs below 127 -/
def Asc (t : Tr) : Prop := ∀ x m, (x, m) ∈ t.rws → ∀ c ∈ x, c < 127
def AscO (o : Option Tr) : Prop := ∀ t, o = some t → Asc t
theorem Asc.text {t : Tr} (w : Wf t) (h : Asc t) : ∀ c ∈ t.text, c < 127 := by
  obtain ⟨⟨x, m⟩, hx⟩ := rws_ne t w
  intro c hc
  have h1 := h x m hx
  cases t with
  | leaf t n => rw [(mem_leaf.mp hx).1] at h1; exact h1 c hc
  | fork t bs =>
    obtain ⟨y, rfl, _⟩ := mem_fork.mp hx
    exact h1 c (List.mem_append_left _ hc)
theorem Asc.sub {t : List Nat} {bs : List (List Nat × Tr)} (h : Asc (.fork t bs)) {b : List Nat × Tr} (hb : b ∈ bs) : Asc b.2 := fun x m hx c hc =>
  h _ m (mem_fork.mpr ⟨_, rfl, mem_rwss.mpr ⟨b, hb, x, rfl, hx⟩⟩) c (List.mem_append_right _ (List.mem_append_right _ hc))
theorem treed_asc {o : Option Tr} {R : List Row} (h : Treed o R) (hn : ∀ r ∈ R, ∀ c ∈ r.1, c < 127) : AscO o := fun t e => by
  subst e
  exact fun x m hx c hc => hn (x, m) (by rw [← h.2]; exact hx) c hc
theorem beh_one {t : Tr} {b : List Nat} (h : (∃ n, t = .leaf t.text n) ∨ t.text ≠ b) : behB t b = [brn t b.length] := by
  cases t with
  | leaf u n => rfl
  | fork u bs =>
    rcases h with ⟨n, h⟩ | h
    · cases h
    · have h : u ≠ b := h
      show (if u = b then bs else _) = _
      rw [if_neg h]
theorem beh_all {u : List Nat} {bs : List (List Nat × Tr)} : behB (.fork u bs) u = bs := by
  show (if u = u then bs else _) = _
  rw [if_pos rfl]
theorem innr_one {b : List Nat × Tr} {s : List Nat} (h : b.1 ≠ s) : innr [b] s = none := by
  obtain ⟨a, t⟩ := b
  have h : a ≠ s := h
  unfold innr
  rw [if_neg h]; rfl
/-- a name put into a tree that isn't its own leaf -/
theorem ptt_beh (t : Tr) (x : List Nat) (k : Int) (h : ∀ m, t ≠ .leaf x m) :
    ptt t x k = .fork (t.text.take (lcp t.text x)) (placed (behB t (t.text.take (lcp t.text x))) ((x.drop (lcp t.text x)).take 1, pttO (innr (behB t (t.text.take (lcp t.text x))) ((x.drop (lcp t.text x)).take 1)) ((x.drop (lcp t.text x)).drop 1) k)) ∧
    ∀ u, innr (behB t (t.text.take (lcp t.text x))) ((x.drop (lcp t.text x)).take 1) = some u → ∃ bs, t = .fork t.text bs ∧ ∃ s, (s, u) ∈ bs := by
  have cl : (t.text.take (lcp t.text x)).length = lcp t.text x := by
    rw [List.length_take]; have := lcp_le1 t.text x; omega
  have split : behB t (t.text.take (lcp t.text x)) = [brn t (lcp t.text x)] → ¬ (lcp t.text x = t.text.length ∧ lcp t.text x = x.length) → innr (behB t (t.text.take (lcp t.text x))) ((x.drop (lcp t.text x)).take 1) = none := fun e ne => by
    rw [e]
    exact innr_one (drop_ne ne)
  cases t with
  | leaf t m =>
    have ne : t ≠ x := fun e => h m (by rw [e])
    have e1 : behB (.leaf t m) (t.take (lcp t x)) = [brn (.leaf t m) (lcp t x)] := by
      have := beh_one (t := .leaf t m) (b := t.take (lcp t x)) (.inl ⟨m, rfl⟩)
      rw [this]
      exact congrArg (fun z => [brn (.leaf t m) z]) cl
    have e2 := split e1 fun ⟨h1, h2⟩ => ne (List.IsPrefix.eq_of_length (lcp_len_iff.mp h1) (by show t.length = x.length; have h1 : lcp t x = t.length := h1; have h2 : lcp t x = x.length := h2; omega))
    have e2 : innr (behB (.leaf t m) (t.take (lcp t x))) ((x.drop (lcp t x)).take 1) = none := e2
    constructor
    · show ptt (.leaf t m) x k = .fork (t.take (lcp t x)) (placed (behB (.leaf t m) (t.take (lcp t x))) ((x.drop (lcp t x)).take 1, pttO (innr (behB (.leaf t m) (t.take (lcp t x))) ((x.drop (lcp t x)).take 1)) ((x.drop (lcp t x)).drop 1) k))
      rw [e2, e1]
      unfold ptt
      rw [if_neg ne]
      rfl
    · intro u hu
      have hu : innr (behB (.leaf t m) (t.take (lcp t x))) ((x.drop (lcp t x)).take 1) = some u := hu
      rw [e2] at hu; cases hu
  | fork t bs =>
    show ptt (.fork t bs) x k = .fork (t.take (lcp t x)) (placed (behB (.fork t bs) (t.take (lcp t x))) ((x.drop (lcp t x)).take 1, pttO (innr (behB (.fork t bs) (t.take (lcp t x))) ((x.drop (lcp t x)).take 1)) ((x.drop (lcp t x)).drop 1) k)) ∧ ∀ u, innr (behB (.fork t bs) (t.take (lcp t x))) ((x.drop (lcp t x)).take 1) = some u → _
    by_cases c : t <+: x
    · have el : lcp t x = t.length := lcp_len_iff.mpr c
      have es : t.take (lcp t x) = t := lcp_eq_iff.mpr c
      rw [es, beh_all, el]
      refine ⟨?_, fun u hu => ⟨bs, rfl, _, innr_mem hu⟩⟩
      unfold ptt
      rw [if_pos c, pttIn_eq]
    · have ne : t.take (lcp t x) ≠ t := fun e => c (lcp_eq_iff.mp e)
      have e1 : behB (.fork t bs) (t.take (lcp t x)) = [brn (.fork t bs) (lcp t x)] := by
        have := beh_one (t := .fork t bs) (b := t.take (lcp t x)) (.inr fun e => ne (Eq.symm e))
        rw [this]
        exact congrArg (fun z => [brn (.fork t bs) z]) cl
      have e2 : innr (behB (.fork t bs) (t.take (lcp t x))) ((x.drop (lcp t x)).take 1) = none := split e1 fun ⟨h1, _⟩ => c (lcp_len_iff.mp h1)
      refine ⟨?_, fun u hu => by rw [e2] at hu; cases hu⟩
      rw [e2, e1]
      unfold ptt
      rw [if_neg c]
      rfl
/-- the tree of a fork whose branch with a sign now has another tree, or is gone -/
def repl (t : List Nat) (bs : List (List Nat × Tr)) (s : List Nat) : Option Tr → Option Tr
  | some u => some (.fork t (placed bs (s, u)))
  | none => knt t (bs.filter fun b => !decide (b.1 = s))
theorem wot_repl (t : List Nat) (bs : List (List Nat × Tr)) (x : List Nat) : wot (.fork t bs) x = repl t bs ((x.drop t.length).take 1) ((innr bs ((x.drop t.length).take 1)).bind fun u => wot u ((x.drop t.length).drop 1)) := by
  rw [wot, wotIn_eq]
  cases (innr bs ((x.drop t.length).take 1)).bind fun u => wot u ((x.drop t.length).drop 1) <;> rfl
theorem filt_ne {bs : List (List Nat × Tr)} {s : List Nat} (h : bs.Pairwise fun a b => a.1 < b.1) (h2 : 2 ≤ bs.length) : bs.filter (fun c => !decide (c.1 = s)) ≠ [] := fun e => by
  have all : ∀ c ∈ bs, c.1 = s := fun c hc => by
    have := List.filter_eq_nil_iff.mp e c hc
    simpa using this
  match bs, h2, h, all with
  | x :: y :: r, _, pw, all =>
    have lt := (List.pairwise_cons.mp pw).1 y (List.mem_cons_self ..)
    rw [all x (List.mem_cons_self ..), all y (List.mem_cons_of_mem _ (List.mem_cons_self ..))] at lt
    exact lt_irr _ lt
theorem repl_ok {t : List Nat} {bs : List (List Nat × Tr)} {s : List Nat} {o : Option Tr} (h : Wf (.fork t bs)) (hs : s.length ≤ 1) (h0 : s ≠ []) (ho : ∀ u, o = some u → Wf u) :
    ∃ u, repl t bs s o = some u ∧ Wf u ∧ ∀ y m, (y, m) ∈ u.rws ↔ ∃ z, y = t ++ z ∧ ((z.take 1 ≠ s ∧ (z, m) ∈ rwss bs) ∨ ∃ w v, z = s ++ w ∧ o = some v ∧ (w, m) ∈ v.rws) := by
  have w := wfB_iff.mp h.2
  have tk1 : ∀ {b : List Nat × Tr} {p : List Nat} {m : Int}, b ∈ bs → (p, m) ∈ b.2.rws → (b.1 ++ p).take 1 = b.1 := fun hb hp => (sign_of (w.1 _ hb) hp).1.symm
  cases o with
  | none =>
    have h' : (∀ c ∈ bs.filter (fun c => !decide (c.1 = s)), OkB c) ∧ (bs.filter fun c => !decide (c.1 = s)).Pairwise fun a b => a.1 < b.1 := ⟨fun c hc => w.1 c (List.mem_filter.mp hc).1, w.2.filter _⟩
    obtain ⟨u, e, hu, hm⟩ := knt_ok (t := t) h' (filt_ne w.2 h.1)
    refine ⟨u, e, hu, fun y m => ?_⟩
    rw [hm]
    constructor
    · rintro ⟨z, rfl, hz⟩
      obtain ⟨c, hc, p, rfl, hp⟩ := mem_rwss.mp hz
      obtain ⟨hc1, hc2⟩ := List.mem_filter.mp hc
      have hc2 : ¬ c.1 = s := by simpa using hc2
      exact ⟨_, rfl, .inl ⟨by rw [tk1 hc1 hp]; exact hc2, mem_rwss.mpr ⟨c, hc1, p, rfl, hp⟩⟩⟩
    · rintro ⟨z, rfl, (⟨h1, h2⟩ | ⟨_, _, _, e, _⟩)⟩
      · obtain ⟨c, hc, p, rfl, hp⟩ := mem_rwss.mp h2
        rw [tk1 hc hp] at h1
        exact ⟨_, rfl, mem_rwss.mpr ⟨c, List.mem_filter.mpr ⟨hc, by simpa using h1⟩, p, rfl, hp⟩⟩
      · cases e
  | some u =>
    have hu := ho u rfl
    refine ⟨_, rfl, ⟨placed_two w.2 h.1, wfB_iff.mpr ⟨fun c hc => ?_, placed_pw w.2⟩⟩, fun y m => ?_⟩
    · rcases mem_placed.mp hc with ⟨hc, _⟩ | e
      · exact w.1 c hc
      · rw [e]; exact ⟨hs, fun z => absurd z h0, hu⟩
    · rw [mem_fork]
      constructor
      · rintro ⟨z, rfl, hz⟩
        obtain ⟨c, hc, p, rfl, hp⟩ := mem_rwss.mp hz
        rcases mem_placed.mp hc with ⟨hc, ne⟩ | e
        · exact ⟨_, rfl, .inl ⟨by rw [tk1 hc hp]; exact ne, mem_rwss.mpr ⟨c, hc, p, rfl, hp⟩⟩⟩
        · subst e; exact ⟨_, rfl, .inr ⟨p, u, rfl, rfl, hp⟩⟩
      · rintro ⟨z, rfl, (⟨h1, h2⟩ | ⟨p, v, rfl, e, hp⟩)⟩
        · obtain ⟨c, hc, p, rfl, hp⟩ := mem_rwss.mp h2
          rw [tk1 hc hp] at h1
          exact ⟨_, rfl, mem_rwss.mpr ⟨c, mem_placed.mpr (.inl ⟨hc, h1⟩), p, rfl, hp⟩⟩
        · cases e
          exact ⟨_, rfl, mem_rwss.mpr ⟨_, mem_placed.mpr (.inr rfl), p, rfl, hp⟩⟩
/-! ### promises -/
def spBehind (K : PySem.W.Frag) : Sp := fun vs H Q _ => ∃ (v : V) (t : Tr) (b : List Nat), vs = [v, .str (st b)] ∧ Dp K H v t.toD ∧ t.text.length ≤ 1000 ∧ b.length ≤ 1000 ∧ gives K H (.tuple (toDs (behB t b))) Q
def spReplaced (K : PySem.W.Frag) : Sp := fun vs H Q _ => ∃ (v u : V) (t : List Nat) (bs : List (List Nat × Tr)) (s : List Nat) (o : Option Tr), vs = [v, .str (st s), u] ∧ Dp K H v (Tr.fork t bs).toD ∧ Dp K H u (oD o) ∧ bs.length ≤ 5000 ∧ t.length ≤ 1000 ∧ s.length ≤ 1 ∧
  (∀ b ∈ bs, b.1.length ≤ 1 ∧ b.2.text.length ≤ 1000) ∧ (o = none → bs.filter (fun c => !decide (c.1 = s)) ≠ []) ∧ gives K H (oD (repl t bs s o)) Q
/-- put's promise at n calls -/
def spPutN (K : PySem.W.Frag) (n : Nat) : Sp := fun vs H Q _ => ∃ (v : V) (o : Option Tr) (x : List Nat) (k : Int), vs = [v, .str (st x), .int k] ∧ Dp K H v (oD o) ∧ FitsO o ∧ AscO o ∧ dpt o < n ∧ x.length ≤ 1000 ∧ (∀ c ∈ x, c < 127) ∧ gives K H (pttO o x k).toD Q
theorem asc_ok {l : List Nat} (h : ∀ c ∈ l, c < 127) : PyData.strOk (st l) = true := by
  unfold PyData.strOk
  simp only [List.all_toArray, List.all_eq_true, decide_eq_true_eq]
  intro c hc
  have := h c hc
  omega
/-- what a tree's first two tell -/
def headD (s : Str) (x : List Nat) : PyData := .tuple [.str s, .str (st x)]
theorem head_shaped {s : Str} {x : List Nat} (hs : PyData.strOk s = true) (h : ∀ c ∈ x, c < 127) : SeqAt.shaped (headD s x) = true := by
  have hx := asc_ok h
  unfold SeqAt.shaped headD
  simp [PyData.canLay0, PyData.canLayAll0, hs, hx, PyData.depth, PyData.depthAll]
theorem head_eqv {s s' : Str} {x y : List Nat} : PyData.eqv (headD s x) (headD s' y) = (decide (s = s') && decide (x = y)) := by
  unfold headD
  have e : (st x == st y) = decide (x = y) := by
    rw [Bool.eq_iff_iff, beq_iff_eq, decide_eq_true_eq]
    exact ⟨st_inj, fun h => by rw [h]⟩
  have e' : (s == s') = decide (s = s') := by
    rw [Bool.eq_iff_iff, beq_iff_eq, decide_eq_true_eq]
  simp [PyData.eqv, PyData.eqvAll, e, e']
end RT
namespace RT
open PySem PySem.Spec PyProof.Rows L2
theorem fork_two {t : List Nat} {bs : List (List Nat × Tr)} (h : Wf (.fork t bs)) : ∃ b ∈ bs, ∃ c ∈ bs, b ≠ c := by
  have w := wfB_iff.mp h.2
  match bs, h.1, w.2 with
  | x :: y :: r, _, pw =>
    have lt := (List.pairwise_cons.mp pw).1 y (List.mem_cons_self ..)
    exact ⟨x, List.mem_cons_self .., y, List.mem_cons_of_mem _ (List.mem_cons_self ..), fun e => by rw [e] at lt; exact lt_irr _ lt⟩
theorem deeps_pos {t : List Nat} {bs : List (List Nat × Tr)} (h : Wf (.fork t bs)) : 0 < deeps bs := by
  match bs, h.1 with
  | (s, u) :: r, _ => have := u.deep_pos; have : u.deep ≤ deeps ((s, u) :: r) := Nat.le_max_left _ _; omega
/-- the branches behind a beginning of the tree's text, once more as rows -/
theorem beh_wf {t : Tr} (h : Wf t) {c : Nat} (hc : c ≤ t.text.length) : WfB (behB t (t.text.take c)) ∧ ∀ x m, (x, m) ∈ t.rws ↔ ∃ z, x = t.text.take c ++ z ∧ (z, m) ∈ rwss (behB t (t.text.take c)) := by
  have cl : (t.text.take c).length = c := by rw [List.length_take]; omega
  have one : ((∃ n, t = .leaf t.text n) ∨ c < t.text.length) → behB t (t.text.take c) = [brn t c] → WfB (behB t (t.text.take c)) ∧ ∀ x m, (x, m) ∈ t.rws ↔ ∃ z, x = t.text.take c ++ z ∧ (z, m) ∈ rwss (behB t (t.text.take c)) := fun hf e => by
    rw [e]
    refine ⟨wfB_iff.mpr ⟨fun b hb => ?_, List.pairwise_singleton _ _⟩, fun x m => ?_⟩
    · have : b = brn t c := by simpa using hb
      rw [this]; exact brn_ok h hf
    · rw [mem_brn hc]
      constructor
      · rintro ⟨w, e1, hw⟩; exact ⟨_, e1, mem_rwss.mpr ⟨_, List.mem_singleton.mpr rfl, w, rfl, hw⟩⟩
      · rintro ⟨z, e1, hz⟩
        obtain ⟨b, hb, w, e2, hw⟩ := mem_rwss.mp hz
        have : b = brn t c := by simpa using hb
        subst this
        exact ⟨w, by rw [e1, e2], hw⟩
  cases t with
  | leaf u n =>
    refine one (.inl ⟨n, rfl⟩) ?_
    rw [beh_one (.inl ⟨n, rfl⟩), cl]
  | fork u bs =>
    by_cases e : c < u.length
    · refine one (.inr e) ?_
      have ne : (Tr.fork u bs).text ≠ (Tr.fork u bs).text.take c := fun z => by
        have z : u = u.take c := z
        have := congrArg List.length z
        rw [List.length_take] at this; omega
      rw [beh_one (.inr ne), cl]
    · have hc : c ≤ u.length := hc
      have ec : u.take c = u := by rw [show c = u.length by omega, List.take_length]
      show WfB (behB (.fork u bs) (u.take c)) ∧ ∀ x m, (x, m) ∈ (Tr.fork u bs).rws ↔ ∃ z, x = u.take c ++ z ∧ (z, m) ∈ rwss (behB (.fork u bs) (u.take c))
      rw [ec, beh_all]
      exact ⟨h.2, fun x m => mem_fork⟩
end RT

/-! a tree cut, two trees joined -/
namespace RT
open PySem PySem.Spec PyProof.Rows L2
def rO : Option Tr → List Row
  | none => []
  | some t => t.rws
theorem treed_rO {o : Option Tr} {R : List Row} (h : Treed o R) : rO o = R ∧ Up R ∧ ∀ t, o = some t → Wf t := by
  cases o with
  | none =>
    have e : R = [] := h
    subst e
    exact ⟨rfl, List.Pairwise.nil, fun t e => by cases e⟩
  | some t => exact ⟨h.2, by rw [← h.2]; exact up_rws t h.1, fun u e => by cases e; exact h.1⟩
theorem treed_of {o : Option Tr} (h : ∀ t, o = some t → Wf t) : Treed o (rO o) := by
  cases o with
  | none => exact rfl
  | some t => exact ⟨h t rfl, rfl⟩
theorem text_pre {t : Tr} {x : List Nat} {m : Int} (h : (x, m) ∈ t.rws) : t.text <+: x := by
  cases t with
  | leaf u n => rw [(mem_leaf.mp h).1]; exact List.prefix_refl _
  | fork u bs =>
    obtain ⟨y, rfl, _⟩ := mem_fork.mp h
    exact List.prefix_append _ _
/-! ### cut -/
theorem cut_all {t : Tr} (w : Wf t) {b : List Nat} (h : b <+: t.text) : Treed none (stayR b t.rws) ∧ Treed (some (t.setText (t.text.drop b.length))) (goneR b t.rws) := by
  have e : t.text = b ++ t.text.drop b.length := by
    obtain ⟨y, hy⟩ := h
    rw [← hy, List.drop_left]
  constructor
  · refine List.eq_nil_iff_forall_not_mem.mpr fun r hr => ?_
    obtain ⟨h1, h2⟩ := mem_stay.mp hr
    exact h2 (h.trans (text_pre (x := r.1) (m := r.2) h1))
  · refine ⟨wf_set w, up_ext (up_rws _ (wf_set w)) (gone_up (up_rws _ w)) fun ⟨y, m⟩ => ?_⟩
    rw [mem_gone, mem_set e]
    constructor
    · intro hy; exact ⟨y, rfl, hy⟩
    · rintro ⟨z, ez, hz⟩; rw [List.append_cancel_left ez]; exact hz
theorem cut_no {t : Tr} (w : Wf t) {b : List Nat} (h : ∀ x m, (x, m) ∈ t.rws → ¬ b <+: x) : Treed (some t) (stayR b t.rws) ∧ Treed none (goneR b t.rws) := by
  constructor
  · refine ⟨w, (List.filter_eq_self.mpr fun r hr => ?_).symm⟩
    have := h r.1 r.2 hr
    cases e : tk b r with
    | true => exact absurd (tk_iff.mp e) this
    | false => rfl
  · refine List.eq_nil_iff_forall_not_mem.mpr fun ⟨y, m⟩ hr => ?_
    exact h _ m (mem_gone.mp hr) (List.prefix_append _ _)
theorem cut_in {t : List Nat} {bs : List (List Nat × Tr)} (w : Wf (.fork t bs)) {z : List Nat} (hz : z ≠ []) {o1 o2 : Option Tr} (h1 : Treed o1 (stayR (z.drop 1) (rO (innr bs (z.take 1))))) (h2 : Treed o2 (goneR (z.drop 1) (rO (innr bs (z.take 1))))) :
    Treed (repl t bs (z.take 1) o1) (stayR (t ++ z) (Tr.fork t bs).rws) ∧ Treed o2 (goneR (t ++ z) (Tr.fork t bs).rws) := by
  have up := up_rws _ w
  have wb := wfB_iff.mp w.2
  have hs1 : (z.take 1).length ≤ 1 := by rw [List.length_take]; omega
  have hs0 : z.take 1 ≠ [] := by cases z with
    | nil => exact absurd rfl hz
    | cons c r => simp
  have inn : ∀ {y : List Nat} {m : Int}, (t ++ z ++ y, m) ∈ (Tr.fork t bs).rws ↔ (z.drop 1 ++ y, m) ∈ rO (innr bs (z.take 1)) := fun {y m} => by
    rw [List.append_assoc, mem_by_sign w]
    have e1 : (z ++ y).take 1 = z.take 1 := by cases z with
      | nil => exact absurd rfl hz
      | cons c r => simp
    have e2 : (z ++ y).drop 1 = z.drop 1 ++ y := by cases z with
      | nil => exact absurd rfl hz
      | cons c r => simp
    rw [e1, e2]
    cases innr bs (z.take 1) with
    | none => simp [rO]
    | some u => simp [rO]
  obtain ⟨r1, u1, w1⟩ := treed_rO h1
  obtain ⟨r2, u2, w2⟩ := treed_rO h2
  constructor
  · obtain ⟨u, e, hu, hm⟩ := repl_ok w hs1 hs0 w1
    rw [e]
    refine ⟨hu, up_ext (up_rws _ hu) (stay_up up) fun ⟨x, m⟩ => ?_⟩
    rw [hm, mem_stay, mem_fork]
    constructor
    · rintro ⟨q, rfl, (⟨n1, n2⟩ | ⟨p, v, rfl, ev, hp⟩)⟩
      · refine ⟨⟨q, rfl, n2⟩, fun pre' => n1 ?_⟩
        have := (List.prefix_append_right_inj t).mp pre'
        obtain ⟨y, rfl⟩ := this
        cases z with
        | nil => exact absurd rfl hz
        | cons c r => simp
      · subst ev
        have hp' : (p, m) ∈ stayR (z.drop 1) (rO (innr bs (z.take 1))) := by rw [← r1]; exact hp
        obtain ⟨a1, a2⟩ := mem_stay.mp hp'
        cases hi : innr bs (z.take 1) with
        | none => rw [hi] at a1; simp [rO] at a1
        | some u' =>
          rw [hi] at a1
          refine ⟨⟨_, rfl, mem_rwss.mpr ⟨_, innr_mem hi, p, rfl, a1⟩⟩, fun pre' => a2 ?_⟩
          have := (List.prefix_append_right_inj t).mp pre'
          have this : z <+: z.take 1 ++ p := this
          obtain ⟨y, hy⟩ := this
          refine ⟨y, ?_⟩
          have : z.take 1 ++ (z.drop 1 ++ y) = z.take 1 ++ p := by rw [← List.append_assoc, List.take_append_drop, hy]
          exact List.append_cancel_left this
    · rintro ⟨⟨q, rfl, hq⟩, hn⟩
      refine ⟨q, rfl, ?_⟩
      by_cases e : q.take 1 = z.take 1
      · have hq' : (t ++ q, m) ∈ (Tr.fork t bs).rws := mem_fork.mpr ⟨q, rfl, hq⟩
        obtain ⟨u', hi, hd⟩ := (mem_by_sign w).mp hq'
        rw [e] at hi
        have hd' : (q.drop 1, m) ∈ stayR (z.drop 1) (rO (innr bs (z.take 1))) := by
          rw [hi]
          refine mem_stay.mpr ⟨hd, fun pre' => hn ?_⟩
          obtain ⟨y, hy⟩ := pre'
          have hy : z.drop 1 ++ y = q.drop 1 := hy
          refine (List.prefix_append_right_inj t).mpr ⟨y, ?_⟩
          rw [← List.take_append_drop 1 q, ← hy, e, ← List.append_assoc, List.take_append_drop]
        rw [← r1] at hd'
        cases ho : o1 with
        | none => rw [ho] at hd'; simp [rO] at hd'
        | some v => rw [ho] at hd'; exact .inr ⟨q.drop 1, v, by rw [← e, List.take_append_drop], rfl, hd'⟩
      · exact .inl ⟨e, hq⟩
  · have e : goneR (t ++ z) (Tr.fork t bs).rws = goneR (z.drop 1) (rO (innr bs (z.take 1))) := by
      rw [← r2] at u2 ⊢
      refine up_ext (gone_up up) u2 fun ⟨y, m⟩ => ?_
      rw [r2, mem_gone, mem_gone]
      exact inn
    rw [e]; exact h2
/-- cut's promise at n calls -/
def spCutN (K : PySem.W.Frag) (n : Nat) : Sp := fun vs H Q _ => ∃ (v : V) (o : Option Tr) (b : List Nat) (R : List Row), vs = [v, .str (st b)] ∧ Dp K H v (oD o) ∧ Treed o R ∧ FitsO o ∧ dpt o < n ∧ b.length ≤ 1000 ∧
  ∀ (u : V) (o1 o2 : Option Tr) (H' : Hp), Treed o1 (stayR b R) → Treed o2 (goneR b R) → Same H H' → Dp K H' u (.tuple [oD o1, oD o2]) → Q u H'
/-! ### branches by their signs -/
theorem innr_app (s : List Nat) : ∀ a b : List (List Nat × Tr), innr (a ++ b) s = (innr a s).or (innr b s)
  | [], b => by simp [innr]
  | (c, t) :: r, b => by
    rw [List.cons_append]
    by_cases h : c = s
    · rw [innr, if_pos h, innr, if_pos h]; rfl
    · rw [innr, if_neg h, innr_app s r b, innr, if_neg h]
theorem innr_sing (b : List Nat × Tr) (s : List Nat) : innr [b] s = if b.1 = s then some b.2 else none := by
  obtain ⟨a, t⟩ := b
  rw [innr]; rfl
theorem innr_iff {bs : List (List Nat × Tr)} (h : bs.Pairwise fun a b => a.1 < b.1) {s : List Nat} {u : Tr} : innr bs s = some u ↔ (s, u) ∈ bs := ⟨innr_mem, mem_innr h⟩
theorem innr_placed {bs : List (List Nat × Tr)} (h : bs.Pairwise fun a b => a.1 < b.1) {b : List Nat × Tr} (s : List Nat) : innr (placed bs b) s = if b.1 = s then some b.2 else innr bs s := by
  have hp := placed_pw (b := b) h
  by_cases e : b.1 = s
  · rw [if_pos e]
    exact (innr_iff hp).mpr (mem_placed.mpr (.inr (by rw [← e])))
  · rw [if_neg e]
    cases hi : innr bs s with
    | some u =>
      exact (innr_iff hp).mpr (mem_placed.mpr (.inl ⟨innr_mem hi, fun z => e (Eq.symm z)⟩))
    | none =>
      cases hj : innr (placed bs b) s with
      | none => rfl
      | some u =>
        rcases mem_placed.mp (innr_mem hj) with ⟨m, _⟩ | z
        · rw [mem_innr h m] at hi; cases hi
        · exact absurd (by rw [← z]) e
theorem rwss_iff {bs : List (List Nat × Tr)} (h : WfB bs) {z : List Nat} {m : Int} : (z, m) ∈ rwss bs ↔ (z.drop 1, m) ∈ rO (innr bs (z.take 1)) := by
  have w := wfB_iff.mp h
  rw [mem_rwss]
  constructor
  · rintro ⟨b, hb, v, rfl, hv⟩
    obtain ⟨s1, s2⟩ := sign_of (w.1 b hb) hv
    rw [← s1, ← s2, mem_innr w.2 hb]
    exact hv
  · intro hz
    cases hi : innr bs (z.take 1) with
    | none => rw [hi] at hz; simp [rO] at hz
    | some u =>
      rw [hi] at hz
      exact ⟨_, innr_mem hi, z.drop 1, (List.take_append_drop 1 z).symm, hz⟩
/-- a tree that joined takes -/
structure JT (t : Tr) : Prop where
  wf : Wf t
  len : ∀ x m, (x, m) ∈ t.rws → x.length ≤ 200
  asc : Asc t
  many : t.rws.length ≤ 1000
theorem JT.fits {t : Tr} (h : JT t) : Fits t := ⟨h.wf, fun x m hx => by have := h.len x m hx; omega, by have := h.many; omega⟩
theorem set_deep (t : Tr) (u : List Nat) : (t.setText u).deep = t.deep := by cases t <;> rfl
theorem set_rws_len (t : Tr) (u : List Nat) : (t.setText u).rws.length = t.rws.length := by
  cases t with
  | leaf t n => rfl
  | fork t bs => show ((rwss bs).map (pre u)).length = ((rwss bs).map (pre t)).length; rw [List.length_map, List.length_map]
theorem JT.beh {t : Tr} (h : JT t) {c : Nat} (hc : c ≤ t.text.length) {b : List Nat × Tr} (hb : b ∈ behB t (t.text.take c)) : JT b.2 ∧ b.1.length ≤ 1 ∧ b.2.deep ≤ t.deep ∧ ((∃ bs, t = .fork t.text bs ∧ behB t (t.text.take c) = bs) → b.2.deep < t.deep) := by
  have cl : (t.text.take c).length = c := by rw [List.length_take]; omega
  have one : behB t (t.text.take c) = [brn t c] → JT b.2 ∧ b.1.length ≤ 1 ∧ b.2.deep ≤ t.deep := fun e => by
    rw [e] at hb
    have eb : b = brn t c := by simpa using hb
    subst eb
    refine ⟨⟨wf_set h.wf, fun x m hx => ?_, fun x m hx d hd => ?_, ?_⟩, ?_, Nat.le_of_eq (set_deep t _)⟩
    · have := h.len _ m ((mem_brn hc).mpr ⟨x, rfl, hx⟩)
      simp at this; omega
    · exact h.asc _ m ((mem_brn hc).mpr ⟨x, rfl, hx⟩) d (List.mem_append_right _ (List.mem_append_right _ hd))
    · show (t.setText _).rws.length ≤ 1000
      rw [set_rws_len]; exact h.many
    · show ((t.text.drop c).take 1).length ≤ 1
      rw [List.length_take]; omega
  cases t with
  | leaf u n =>
    have e : behB (.leaf u n) (u.take c) = [brn (.leaf u n) c] := by
      rw [beh_one (.inl ⟨n, rfl⟩)]; exact congrArg (fun z => [brn (.leaf u n) z]) cl
    obtain ⟨a1, a2, a3⟩ := one e
    exact ⟨a1, a2, a3, fun ⟨bs, z, _⟩ => by cases z⟩
  | fork u bs =>
    by_cases e : u.take c = u
    · have e0 : behB (.fork u bs) ((Tr.fork u bs).text.take c) = bs := by
        show behB (.fork u bs) (u.take c) = bs
        rw [e]; exact beh_all
      rw [e0] at hb
      obtain ⟨f1, f2, f3⟩ := h.fits.sub hb
      refine ⟨⟨f1.1, fun x m hx => ?_, h.asc.sub hb, ?_⟩, f3, Nat.le_of_lt f2, fun _ => f2⟩
      · have := h.len _ m (mem_fork.mpr ⟨_, rfl, mem_rwss.mpr ⟨b, hb, x, rfl, hx⟩⟩)
        simp at this; omega
      · have h1 := rwss_len hb
        have h2 := h.many
        simp only [Tr.rws, List.length_map] at h2
        omega
    · have e0 : behB (.fork u bs) (u.take c) = [brn (.fork u bs) c] := by
        rw [beh_one (t := .fork u bs) (.inr fun z => e (Eq.symm z))]; exact congrArg (fun z => [brn (.fork u bs) z]) cl
      obtain ⟨a1, a2, a3⟩ := one e0
      refine ⟨a1, a2, a3, fun ⟨ds, z, z2⟩ => ?_⟩
      exfalso
      have ez : bs = ds := by injection z
      subst ez
      have z2 : behB (.fork u bs) (u.take c) = bs := z2
      rw [e0] at z2
      have := h.wf.1
      rw [← z2] at this
      simp at this
/-- two trees, the branches of the one joined so far with i of the other's -/
structure Jn (bs cs : List (List Nat × Tr)) (i : Nat) (ds : List (List Nat × Tr)) : Prop where
  wf : WfB ds
  mem : ∀ s r, r ∈ rO (innr ds s) ↔ r ∈ rO (innr bs s) ∨ r ∈ rO (innr (cs.take i) s)
  old : ∀ s, innr (cs.take i) s = none → innr ds s = innr bs s
  non : ∀ s, ¬ Share (rO (innr bs s)) (rO (innr (cs.take i) s))
theorem jn0 {bs cs : List (List Nat × Tr)} (w : WfB bs) : Jn bs cs 0 bs := by
  refine ⟨w, fun s r => ?_, fun s _ => rfl, fun s => ?_⟩
  · simp [innr, rO]
  · rintro ⟨x, m, k, _, h⟩
    simp [innr, rO] at h
theorem jn_ahead {cs : List (List Nat × Tr)} (w : WfB cs) {i : Nat} {c : List Nat × Tr} (hc : cs[i]? = some c) : innr (cs.take i) c.1 = none := by
  cases h : innr (cs.take i) c.1 with
  | none => rfl
  | some u =>
    have w' := (wfB_iff.mp w).2
    have hlt := (List.getElem?_eq_some_iff.mp hc).1
    have e : cs = cs.take i ++ c :: cs.drop (i + 1) := by
      have := List.drop_eq_getElem_cons hlt
      rw [(List.getElem?_eq_some_iff.mp hc).2] at this
      rw [← this, List.take_append_drop]
    rw [e] at w'
    have := (List.pairwise_append.mp w').2.2 _ (innr_mem h) c (List.mem_cons_self ..)
    exact absurd this (lt_irr _)
theorem jn_succ {bs cs ds : List (List Nat × Tr)} {i : Nat} (j : Jn bs cs i ds) (wb : WfB bs) (wc : WfB cs) {c : List Nat × Tr} (hc : cs[i]? = some c) (hn : ¬ Share (rO (innr bs c.1)) c.2.rws) {u : Tr} (wu : Wf u) (hu : ∀ r, r ∈ u.rws ↔ r ∈ rO (innr bs c.1) ∨ r ∈ c.2.rws) :
    Jn bs cs (i + 1) (placed ds (c.1, u)) := by
  have hd := wfB_iff.mp j.wf
  have hcm : c ∈ cs := List.mem_of_getElem? hc
  have okc := (wfB_iff.mp wc).1 c hcm
  have ah := jn_ahead wc hc
  have tk : ∀ s, innr (cs.take (i + 1)) s = (innr (cs.take i) s).or (if c.1 = s then some c.2 else none) := fun s => by
    rw [List.take_add_one, hc]
    show innr (cs.take i ++ [c]) s = _
    rw [innr_app, innr_sing]
  have ok : OkB (c.1, u) := by
    refine ⟨okc.1, fun e => ?_, wu⟩
    have e : c.1 = [] := e
    obtain ⟨n, en⟩ := okc.2.1 e
    refine ⟨n, one_tree u wu (.leaf [] n) trivial fun ⟨x, m⟩ => ?_⟩
    show (x, m) ∈ u.rws ↔ _
    rw [hu, en]
    cases hi : innr bs c.1 with
    | none => simp [rO]
    | some v =>
      exfalso
      have mv := innr_mem hi
      obtain ⟨k, ek⟩ := ((wfB_iff.mp wb).1 _ mv).2.1 e
      have ek : v = .leaf [] k := ek
      refine hn ⟨[], k, n, ?_, ?_⟩
      · rw [hi, ek]; simp [rO, Tr.rws]
      · rw [en]; simp [Tr.rws]
  have ip := fun s => innr_placed (b := (c.1, u)) hd.2 s
  refine ⟨wfB_iff.mpr ⟨fun b hb => ?_, placed_pw hd.2⟩, fun s r => ?_, fun s hs => ?_, fun s => ?_⟩
  · rcases mem_placed.mp hb with ⟨hb, _⟩ | e
    · exact hd.1 b hb
    · rw [e]; exact ok
  · rw [ip s, tk s]
    by_cases e : c.1 = s
    · subst e
      rw [if_pos rfl, if_pos rfl, ah]
      exact hu r
    · rw [if_neg (show ¬ (c.1, u).1 = s from e), if_neg e, j.mem]
      cases innr (cs.take i) s <;> rfl
  · rw [tk s] at hs
    rw [ip s]
    by_cases e : c.1 = s
    · subst e
      rw [if_pos rfl, ah] at hs; cases hs
    · rw [if_neg e] at hs
      rw [if_neg (show ¬ (c.1, u).1 = s from e)]
      refine j.old s ?_
      cases h : innr (cs.take i) s with
      | none => rfl
      | some v => rw [h] at hs; cases hs
  · rw [tk s]
    by_cases e : c.1 = s
    · subst e
      rw [if_pos rfl, ah]
      exact hn
    · rw [if_neg e]
      have := j.non s
      cases h : innr (cs.take i) s with
      | none => rw [h] at this; exact this
      | some v => rw [h] at this; exact this
/-- all branches joined: the fork -/
theorem jn_all {t u : Tr} (ht : Wf t) (hu : Wf u) (ne : ¬ ((∃ n, t = .leaf t.text n) ∧ (∃ n, u = .leaf u.text n) ∧ t.text = u.text)) {ds : List (List Nat × Tr)} {k : Nat} (hk : (behB u (t.text.take (lcp t.text u.text))).length ≤ k) (j : Jn (behB t (t.text.take (lcp t.text u.text))) (behB u (t.text.take (lcp t.text u.text))) k ds) :
    Wf (.fork (t.text.take (lcp t.text u.text)) ds) ∧ (∀ r, r ∈ (Tr.fork (t.text.take (lcp t.text u.text)) ds).rws ↔ r ∈ t.rws ∨ r ∈ u.rws) ∧ ¬ Share t.rws u.rws := by
  have l1 := lcp_le1 t.text u.text
  have l2 := lcp_le2 t.text u.text
  obtain ⟨wb, mb⟩ := beh_wf ht l1
  have hc := beh_wf hu l2
  rw [← lcp_take] at hc
  obtain ⟨wc, mc⟩ := hc
  have cl : (t.text.take (lcp t.text u.text)).length = lcp t.text u.text := by rw [List.length_take]; omega
  have hk' : (behB u (t.text.take (lcp t.text u.text))).take k = behB u (t.text.take (lcp t.text u.text)) := List.take_of_length_le hk
  have hmem := j.mem
  have hnon := j.non
  rw [hk'] at hmem hnon
  have some_of : ∀ {s : List Nat} {v : Tr} (bs : List (List Nat × Tr)), WfB bs → (s, v) ∈ bs → ∃ r, r ∈ rO (innr bs s) := fun {s v} bs w hv => by
    obtain ⟨r, hr⟩ := rws_ne v ((wfB_iff.mp w).1 _ hv).2.2
    exact ⟨r, by rw [mem_innr (wfB_iff.mp w).2 hv]; exact hr⟩
  have in_ds : ∀ {s : List Nat}, (∃ r, r ∈ rO (innr (behB t (t.text.take (lcp t.text u.text))) s)) ∨ (∃ r, r ∈ rO (innr (behB u (t.text.take (lcp t.text u.text))) s)) → ∃ v, (s, v) ∈ ds := fun {s} h => by
    have : ∃ r, r ∈ rO (innr ds s) := h.elim (fun ⟨r, hr⟩ => ⟨r, (hmem s r).mpr (.inl hr)⟩) fun ⟨r, hr⟩ => ⟨r, (hmem s r).mpr (.inr hr)⟩
    obtain ⟨r, hr⟩ := this
    cases hi : innr ds s with
    | none => rw [hi] at hr; simp [rO] at hr
    | some v => exact ⟨v, innr_mem hi⟩
  have two : 2 ≤ ds.length := by
    have byfork : ∀ (bs : List (List Nat × Tr)) (p : List Nat), Wf (.fork p bs) → (∀ s v, (s, v) ∈ bs → ∃ v', (s, v') ∈ ds) → 2 ≤ ds.length := fun bs p w h => by
      have pw := (wfB_iff.mp w.2).2
      obtain ⟨b, hb, c, hc, n⟩ := fork_two w
      obtain ⟨v1, m1⟩ := h b.1 b.2 hb
      obtain ⟨v2, m2⟩ := h c.1 c.2 hc
      exact two_of m1 m2 fun e => n (pair_eq pw hb hc (by injection e))
    by_cases f1 : (∃ n, t = .leaf t.text n) ∨ t.text ≠ t.text.take (lcp t.text u.text)
    · by_cases f2 : (∃ n, u = .leaf u.text n) ∨ u.text ≠ t.text.take (lcp t.text u.text)
      · have e1 := beh_one f1
        have e2 := beh_one f2
        rw [cl] at e1 e2
        have dn : (brn t (lcp t.text u.text)).1 ≠ (brn u (lcp t.text u.text)).1 := drop_ne fun ⟨h1, h2⟩ => by
          have et : t.text = t.text.take (lcp t.text u.text) := by rw [h1, List.take_length]
          have eu : u.text = t.text.take (lcp t.text u.text) := by rw [lcp_take, h2, List.take_length]
          refine ne ⟨f1.elim id fun z => absurd et z, f2.elim id fun z => absurd eu z, ?_⟩
          rw [eu]; exact et
        rw [e1, e2] at in_ds
        rw [e1] at wb
        rw [e2] at wc
        obtain ⟨v1, m1⟩ := in_ds (.inl (some_of (v := (brn t (lcp t.text u.text)).2) _ wb (List.mem_singleton.mpr rfl)))
        obtain ⟨v2, m2⟩ := in_ds (.inr (some_of (v := (brn u (lcp t.text u.text)).2) _ wc (List.mem_singleton.mpr rfl)))
        exact two_of m1 m2 fun e => dn (by injection e)
      · obtain ⟨n1, n2⟩ := not_or.mp f2
        have eu : u.text = t.text.take (lcp t.text u.text) := Decidable.byContradiction fun z => n2 z
        cases u with
        | leaf x m => exact absurd ⟨m, rfl⟩ n1
        | fork x cs =>
          have eu : x = t.text.take (lcp t.text x) := eu
          refine byfork cs x hu fun s v hv => ?_
          refine in_ds (.inr ?_)
          show ∃ r, r ∈ rO (innr (behB (.fork x cs) (t.text.take (lcp t.text x))) s)
          rw [← eu, beh_all]
          exact some_of cs hu.2 hv
    · obtain ⟨n1, n2⟩ := not_or.mp f1
      have et : t.text = t.text.take (lcp t.text u.text) := Decidable.byContradiction fun z => n2 z
      cases t with
      | leaf x m => exact absurd ⟨m, rfl⟩ n1
      | fork x bs =>
        have et : x = x.take (lcp x u.text) := et
        refine byfork bs x ht fun s v hv => ?_
        refine in_ds (.inl ?_)
        show ∃ r, r ∈ rO (innr (behB (.fork x bs) (x.take (lcp x u.text))) s)
        rw [← et, beh_all]
        exact some_of bs ht.2 hv
  have wf : Wf (.fork (t.text.take (lcp t.text u.text)) ds) := ⟨two, j.wf⟩
  refine ⟨wf, fun ⟨x, m⟩ => ?_, ?_⟩
  · rw [mem_fork, mb, mc]
    constructor
    · rintro ⟨z, e, hz⟩
      rw [rwss_iff j.wf, hmem] at hz
      rcases hz with hz | hz
      · exact .inl ⟨z, e, (rwss_iff wb).mpr hz⟩
      · exact .inr ⟨z, e, (rwss_iff wc).mpr hz⟩
    · rintro (⟨z, e, hz⟩ | ⟨z, e, hz⟩)
      · exact ⟨z, e, (rwss_iff j.wf).mpr ((hmem _ _).mpr (.inl ((rwss_iff wb).mp hz)))⟩
      · exact ⟨z, e, (rwss_iff j.wf).mpr ((hmem _ _).mpr (.inr ((rwss_iff wc).mp hz)))⟩
  · rintro ⟨x, m, k', h1, h2⟩
    obtain ⟨z, e, hz⟩ := (mb x m).mp h1
    obtain ⟨z', e', hz'⟩ := (mc x k').mp h2
    have ez : z' = z := List.append_cancel_left (e'.symm.trans e)
    subst ez
    exact hnon _ ⟨_, m, k', (rwss_iff wb).mp hz, (rwss_iff wc).mp hz'⟩
/-- where a branch's names are shared, the trees' are -/
theorem share_up {t u : Tr} (ht : Wf t) (hu : Wf u) {s : List Nat} (h : Share (rO (innr (behB t (t.text.take (lcp t.text u.text))) s)) (rO (innr (behB u (t.text.take (lcp t.text u.text))) s))) : Share t.rws u.rws := by
  obtain ⟨wb, mb⟩ := beh_wf ht (lcp_le1 t.text u.text)
  have hc := beh_wf hu (lcp_le2 t.text u.text)
  rw [← lcp_take] at hc
  obtain ⟨wc, mc⟩ := hc
  obtain ⟨x, m, k, h1, h2⟩ := h
  refine ⟨t.text.take (lcp t.text u.text) ++ (s ++ x), m, k, (mb _ _).mpr ⟨_, rfl, ?_⟩, (mc _ _).mpr ⟨_, rfl, ?_⟩⟩
  · cases hi : innr (behB t (t.text.take (lcp t.text u.text))) s with
    | none => rw [hi] at h1; simp [rO] at h1
    | some v => rw [hi] at h1; exact mem_rwss.mpr ⟨_, innr_mem hi, x, rfl, h1⟩
  · cases hi : innr (behB u (t.text.take (lcp t.text u.text))) s with
    | none => rw [hi] at h2; simp [rO] at h2
    | some v => rw [hi] at h2; exact mem_rwss.mpr ⟨_, innr_mem hi, x, rfl, h2⟩
/-- a branch of the one and one of the other with the same sign: together less deep -/
theorem beh_deep {t u : Tr} (ht : JT t) (hu : JT u) (ne : ¬ ((∃ n, t = .leaf t.text n) ∧ (∃ n, u = .leaf u.text n) ∧ t.text = u.text)) {c : List Nat × Tr} (hc : c ∈ behB u (t.text.take (lcp t.text u.text))) :
    dpt (innr (behB t (t.text.take (lcp t.text u.text))) c.1) + c.2.deep < t.deep + u.deep := by
  have l1 := lcp_le1 t.text u.text
  have l2 := lcp_le2 t.text u.text
  have cl : (t.text.take (lcp t.text u.text)).length = lcp t.text u.text := by rw [List.length_take]; omega
  have hc' := hc
  rw [lcp_take] at hc'
  obtain ⟨_, _, c3, c4⟩ := hu.beh l2 hc'
  cases hi : innr (behB t (t.text.take (lcp t.text u.text))) c.1 with
  | none =>
    have := t.deep_pos
    show 0 + c.2.deep < _
    omega
  | some v =>
    obtain ⟨_, _, v3, v4⟩ := ht.beh l1 (innr_mem hi)
    show v.deep + c.2.deep < _
    have v3 : v.deep ≤ t.deep := v3
    have v4 : (∃ bs, t = .fork t.text bs ∧ behB t (t.text.take (lcp t.text u.text)) = bs) → v.deep < t.deep := v4
    by_cases f1 : (∃ n, t = .leaf t.text n) ∨ t.text ≠ t.text.take (lcp t.text u.text)
    · by_cases f2 : (∃ n, u = .leaf u.text n) ∨ u.text ≠ t.text.take (lcp t.text u.text)
      · exfalso
        have e1 := beh_one f1
        have e2 := beh_one f2
        rw [cl] at e1 e2
        rw [e2] at hc
        have ec : c = brn u (lcp t.text u.text) := by simpa using hc
        rw [e1, ec] at hi
        have dn : (brn t (lcp t.text u.text)).1 ≠ (brn u (lcp t.text u.text)).1 := drop_ne fun ⟨h1, h2⟩ => by
          have et : t.text = t.text.take (lcp t.text u.text) := by rw [h1, List.take_length]
          have eu : u.text = t.text.take (lcp t.text u.text) := by rw [lcp_take, h2, List.take_length]
          refine ne ⟨f1.elim id fun z => absurd et z, f2.elim id fun z => absurd eu z, ?_⟩
          rw [eu]; exact et
        rw [innr_one dn] at hi; cases hi
      · obtain ⟨n1, n2⟩ := not_or.mp f2
        have eu : u.text = t.text.take (lcp t.text u.text) := Decidable.byContradiction fun z => n2 z
        have : c.2.deep < u.deep := by
          refine c4 ?_
          rw [← lcp_take, ← eu]
          cases u with
          | leaf x m => exact absurd ⟨m, rfl⟩ n1
          | fork x cs => exact ⟨cs, rfl, beh_all⟩
        omega
    · obtain ⟨n1, n2⟩ := not_or.mp f1
      have et : t.text = t.text.take (lcp t.text u.text) := Decidable.byContradiction fun z => n2 z
      have : v.deep < t.deep := by
        refine v4 ?_
        rw [← et]
        cases t with
        | leaf x m => exact absurd ⟨m, rfl⟩ n1
        | fork x cs => exact ⟨cs, rfl, beh_all⟩
      omega
/-- joined's promise at n calls -/
def InN (K : PySem.W.Frag) (H : Hp) (v : V) (o : Option Tr) : Prop := Dp K H v (oD o) ∧ ∀ t, o = some t → JT t
def spJoinedN (K : PySem.W.Frag) (CN : Addr) (n : Nat) : Sp := fun vs H Q E => ∃ (v w : V) (o1 o2 : Option Tr), vs = [v, w] ∧ InN K H v o1 ∧ InN K H w o2 ∧ dpt o1 + dpt o2 < n ∧
  (Share (rO o1) (rO o2) → ∀ H', Same H H' → E (.ref CN) none H') ∧ (¬ Share (rO o1) (rO o2) → ∀ (o : Option Tr) (u : V) (H' : Hp), (∀ t, o = some t → Wf t) → (∀ r, r ∈ rO o ↔ r ∈ rO o1 ∨ r ∈ rO o2) → Same H H' → Dp K H' u (oD o) → Q u H')
theorem joined_imp {K : PySem.W.Frag} {CN : Addr} (vs : List V) (H : Hp) (Q : VK) (E : XK) (h : spJoined K CN vs H Q E) : spJoinedN K CN 99 vs H Q E := by
  obtain ⟨v, w, o1, o2, R, S, rfl, ⟨a1, a2, a3, a4, a5, a6⟩, ⟨b1, b2, b3, b4, b5, b6⟩, q1, q2⟩ := h
  obtain ⟨e1, up1, w1⟩ := treed_rO a2
  obtain ⟨e2, up2, w2⟩ := treed_rO b2
  have jt : ∀ {o : Option Tr} {R : List Row}, Treed o R → R.length ≤ 1000 → (∀ r ∈ R, r.1.length ≤ 200 ∧ ∀ c ∈ r.1, c < 127) → ∀ t, o = some t → JT t := fun {o R} ht hl hr t e => by
    subst e
    have hm : ∀ x m, (x, m) ∈ t.rws → (x, m) ∈ R := fun x m hx => by rw [← ht.2]; exact hx
    exact ⟨ht.1, fun x m hx => (hr _ (hm x m hx)).1, fun x m hx => (hr _ (hm x m hx)).2, by rw [ht.2]; exact hl⟩
  refine ⟨v, w, o1, o2, rfl, ⟨a1, jt a2 a5 a6⟩, ⟨b1, jt b2 b5 b6⟩, by omega, fun sh => q1 (by rw [← e1, ← e2]; exact sh), fun ns o u H' wf hm s hu => ?_⟩
  have ho := treed_of wf
  exact q2 (by rw [← e1, ← e2]; exact ns) o (rO o) u H' ⟨(treed_rO ho).2.1, fun r => by rw [hm, e1, e2]⟩ ho s hu
end RT

/-! what is asked of trees -/
namespace RT
open PySem PySem.Spec PyProof.Rows L2
def spBelow (K : PySem.W.Frag) : Sp := fun vs H Q _ => ∃ (v : V) (o : Option Tr) (b : List Nat) (R : List Row), vs = [v, .str (st b)] ∧ Dp K H v (oD o) ∧ Treed o R ∧ FitsO o ∧ dpt o < 50 ∧ b.length ≤ 1000 ∧
  ∀ (u : V) (o2 : Option Tr) (H' : Hp), Treed o2 (goneR b R) → Same H H' → Dp K H' u (oD o2) → Q u H'
theorem below_gone {b : List Nat} (R : List Row) : below b R = (goneR b R).map (pre b) := by
  unfold below goneR
  rw [List.map_map]
  conv => lhs; rw [← List.map_id (R.filter (tk b))]
  refine List.map_congr_left fun r hr => ?_
  have := tk_split (List.mem_filter.mp hr).2
  exact Prod.ext this rfl
theorem rows_rO (o : Option Tr) : rowsOf Tr.rws o = rO o := by cases o <;> rfl
/-! ### the longest name with which a text begins -/
def IsLg (R : List Row) (x : List Nat) : Option (List Nat) → Prop
  | none => ∀ z m, (z, m) ∈ R → ¬ z <+: x
  | some z => z <+: x ∧ (∃ m, (z, m) ∈ R) ∧ ∀ z' m', (z', m') ∈ R → z' <+: x → z' <+: z
theorem pre_not_lt {a b : List Nat} (h : a <+: b) : ¬ b < a := by
  obtain ⟨y, rfl⟩ := h
  intro z
  have := (app_lt a (a := y) (b := [])).mp (by rw [List.append_nil]; exact z)
  exact lt_nil _ this
theorem lg_lgs {R : List Row} (up : Up R) {x : List Nat} {r : Option (List Nat)} (h : IsLg R x r) : r = lgs R x := by
  have mem : ∀ y, y ∈ R.filter (fun r => decide (x.take r.1.length = r.1)) ↔ y ∈ R ∧ y.1 <+: x := fun y => by
    rw [List.mem_filter, decide_eq_true_eq, List.prefix_iff_eq_take]
    exact and_congr Iff.rfl eq_comm
  unfold lgs
  have upF : Up (R.filter fun r => decide (x.take r.1.length = r.1)) := up.filter _
  generalize R.filter (fun r => decide (x.take r.1.length = r.1)) = F at mem upF
  cases r with
  | none =>
    have : F = [] := List.eq_nil_iff_forall_not_mem.mpr fun y hy => by
      obtain ⟨h1, h2⟩ := (mem y).mp hy
      exact h y.1 y.2 h1 h2
    rw [this]; rfl
  | some z =>
    obtain ⟨h1, ⟨m, h2⟩, h3⟩ := h
    have hz := (mem (z, m)).mpr ⟨h2, h1⟩
    have ne : F ≠ [] := fun e => by rw [e] at hz; simp at hz
    have e := List.dropLast_concat_getLast ne
    rw [List.getLast?_eq_some_getLast ne]
    show some z = some (F.getLast ne).1
    have hl := (mem _).mp (List.getLast_mem ne)
    have p1 := h3 (F.getLast ne).1 (F.getLast ne).2 hl.1 hl.2
    rw [← e] at hz upF
    rcases List.mem_append.mp hz with hz | hz
    · have := (List.pairwise_append.mp upF).2.2 _ hz _ (List.mem_singleton.mpr rfl)
      exact absurd this (pre_not_lt p1)
    · rw [← List.mem_singleton.mp hz]
section
variable {t : List Nat} {bs : List (List Nat × Tr)}
theorem lg_in (w : Wf (.fork t bs)) {y x' : List Nat} {m : Int} (hx : (x', m) ∈ (Tr.fork t bs).rws) (hp : x' <+: t ++ y) : ∃ q, x' = t ++ q ∧ (q.drop 1, m) ∈ rO (innr bs (q.take 1)) ∧ (q = [] ∨ (q.take 1 = y.take 1 ∧ q.drop 1 <+: y.drop 1)) := by
  obtain ⟨q, rfl, hq⟩ := mem_fork.mp hx
  have hq' := (rwss_iff w.2).mp hq
  refine ⟨q, rfl, hq', ?_⟩
  obtain ⟨s, hs⟩ := (List.prefix_append_right_inj t).mp hp
  cases q with
  | nil => exact .inl rfl
  | cons c r =>
    refine .inr ?_
    rw [← hs]
    exact ⟨rfl, List.prefix_append _ _⟩
theorem lg_first (w : Wf (.fork t bs)) {y z : List Nat} (h : IsLg (rO (innr bs (y.take 1))) (y.drop 1) (some z)) : IsLg (Tr.fork t bs).rws (t ++ y) (some (t ++ y.take 1 ++ z)) := by
  obtain ⟨h1, ⟨m, h2⟩, h3⟩ := h
  refine ⟨?_, ⟨m, ?_⟩, fun x' m' hx hp => ?_⟩
  · rw [List.append_assoc]
    refine (List.prefix_append_right_inj t).mpr ?_
    conv => rhs; rw [← List.take_append_drop 1 y]
    exact (List.prefix_append_right_inj _).mpr h1
  · cases hi : innr bs (y.take 1) with
    | none => rw [hi] at h2; simp [rO] at h2
    | some u =>
      rw [hi] at h2
      exact mem_fork.mpr ⟨y.take 1 ++ z, by rw [List.append_assoc], mem_rwss.mpr ⟨_, innr_mem hi, z, rfl, h2⟩⟩
  · obtain ⟨q, rfl, hq, c⟩ := lg_in w hx hp
    rw [List.append_assoc]
    refine (List.prefix_append_right_inj t).mpr ?_
    rcases c with rfl | ⟨e1, e2⟩
    · exact List.nil_prefix
    · rw [e1] at hq
      have := h3 _ m' hq e2
      conv => lhs; rw [← List.take_append_drop 1 q]
      rw [e1]
      exact (List.prefix_append_right_inj _).mpr this
theorem lg_end (w : Wf (.fork t bs)) {y z : List Nat} (h : IsLg (rO (innr bs (y.take 1))) (y.drop 1) none) (h2 : IsLg (rO (innr bs [])) (y.drop 1) (some z)) : IsLg (Tr.fork t bs).rws (t ++ y) (some (t ++ [] ++ z)) := by
  obtain ⟨_, ⟨m, h2⟩, _⟩ := h2
  cases hi : innr bs [] with
  | none => rw [hi] at h2; simp [rO] at h2
  | some u =>
    have mu := innr_mem hi
    obtain ⟨n, en⟩ := ((wfB_iff.mp w.2).1 _ mu).2.1 rfl
    have en : u = .leaf [] n := en
    rw [hi, en] at h2
    have ez : z = [] := (mem_leaf.mp h2).1
    subst ez
    refine ⟨by rw [List.append_nil, List.append_nil]; exact List.prefix_append _ _, ⟨m, ?_⟩, fun x' m' hx hp => ?_⟩
    · refine mem_fork.mpr ⟨[], by simp, mem_rwss.mpr ⟨_, mu, [], rfl, ?_⟩⟩
      rw [en]; exact h2
    · obtain ⟨q, rfl, hq, c⟩ := lg_in w hx hp
      rcases c with rfl | ⟨e1, e2⟩
      · simp
      · rw [e1] at hq
        exact absurd e2 (h _ m' hq)
theorem lg_none (w : Wf (.fork t bs)) {y : List Nat} (h : IsLg (rO (innr bs (y.take 1))) (y.drop 1) none) (h2 : IsLg (rO (innr bs [])) (y.drop 1) none) : IsLg (Tr.fork t bs).rws (t ++ y) none := fun x' m' hx hp => by
  obtain ⟨q, rfl, hq, c⟩ := lg_in w hx hp
  rcases c with rfl | ⟨e1, e2⟩
  · exact h2 _ m' hq List.nil_prefix
  · rw [e1] at hq
    exact h _ m' hq e2
end
def spLongestN (K : PySem.W.Frag) (n : Nat) : Sp := fun vs H Q _ => ∃ (v : V) (o : Option Tr) (x : List Nat), vs = [v, .str (st x)] ∧ Dp K H v (oD o) ∧ FitsO o ∧ dpt o < n ∧ x.length ≤ 1000 ∧ ∀ (r : Option (List Nat)) (H' : Hp), IsLg (rO o) x r → Same H H' → Q (optT r) H'
theorem longest_imp {K : PySem.W.Frag} (vs : List V) (H : Hp) (Q : VK) (E : XK) (h : spLongest K vs H Q E) : spLongestN K 50 vs H Q E := by
  obtain ⟨v, o, R, x, rfl, ⟨hv, tr, g⟩, hx, q⟩ := h
  obtain ⟨ff, fd⟩ := good_fits tr g
  refine ⟨v, o, x, rfl, hv, ff, fd, by omega, fun r H' h s => ?_⟩
  rw [(treed_rO tr).1] at h
  rw [lg_lgs g.1 h]
  exact q H' s
/-! ### the first name behind a text -/
theorem aft_at {R : List Row} {x : List Nat} {i : Nat} {r : Row} (hr : R[i]? = some r) (h : x < r.1) (n : (R.take i).filter (fun r => decide (x < r.1)) = []) : aft R x = some r.1 := by
  have hlt := (List.getElem?_eq_some_iff.mp hr).1
  have e : R = R.take i ++ r :: R.drop (i + 1) := by
    have := List.drop_eq_getElem_cons hlt
    rw [(List.getElem?_eq_some_iff.mp hr).2] at this
    rw [← this, List.take_append_drop]
  unfold aft
  rw [e, List.filter_append, n, List.nil_append, List.filter_cons_of_pos (by simpa using h)]
  rfl
theorem aft_no {R : List Row} {x : List Nat} (n : R.filter (fun r => decide (x < r.1)) = []) : aft R x = none := by
  unfold aft; rw [n]; rfl
theorem aft_step {R : List Row} {x : List Nat} {i : Nat} {r : Row} (hr : R[i]? = some r) (h : ¬ x < r.1) (n : (R.take i).filter (fun r => decide (x < r.1)) = []) : (R.take (i + 1)).filter (fun r => decide (x < r.1)) = [] := by
  rw [List.take_add_one, hr, List.filter_append, n]
  simp [h]
/-! ### the longest common beginning -/
theorem cm_tree {t : Tr} {b : List Nat} {R : List Row} (h : Treed (some t) (goneR b R)) : cmOf (below b R) = some (b ++ t.text) := by
  rw [below_gone, ← h.2]
  have up := up_rws t h.1
  obtain ⟨r0, hr0⟩ := rws_ne t h.1
  have ne : t.rws ≠ [] := fun e => by rw [e] at hr0; simp at hr0
  obtain ⟨a, ha⟩ : ∃ a, t.rws.head? = some a := by
    cases e : t.rws with
    | nil => exact absurd e ne
    | cons x r => exact ⟨x, rfl⟩
  obtain ⟨l, hl⟩ : ∃ l, t.rws.getLast? = some l := ⟨_, List.getLast?_eq_some_getLast ne⟩
  unfold cmOf
  rw [List.head?_map, List.getLast?_map, ha, hl]
  show some ((pre b a).1.take (lcp (pre b a).1 (pre b l).1)) = _
  have ma : a ∈ t.rws := List.mem_of_mem_head? (by rw [ha]; rfl)
  have ml : l ∈ t.rws := List.mem_of_getLast? hl
  have key : a.1.take (lcp a.1 l.1) = t.text := by
    have pa := text_pre (x := a.1) (m := a.2) ma
    have pl := text_pre (x := l.1) (m := l.2) ml
    have ab := all_begin up ha hl
    have p1 : a.1.take (lcp a.1 l.1) <+: t.text := by
      cases t with
      | leaf u n => rw [(mem_leaf (x := a.1) (m := a.2)).mp ma |>.1]; exact List.take_prefix _ _
      | fork u bs => exact fork_text h.1 fun x m hx => ab _ hx
    have p2 : t.text <+: a.1.take (lcp a.1 l.1) := by
      have more : ∀ {a b : List Nat} {p : List Nat}, p <+: a → p <+: b → p <+: a.take (lcp a b) := by
        intro a
        induction a with
        | nil => intro b p h1 _; simpa [lcp] using h1
        | cons x r ih =>
          intro b p h1 h2
          cases p with
          | nil => exact List.nil_prefix
          | cons c p =>
            obtain ⟨y, hy⟩ := h1
            obtain ⟨z, hz⟩ := h2
            simp only [List.cons_append, List.cons.injEq] at hy
            obtain ⟨rfl, hy⟩ := hy
            cases b with
            | nil => simp at hz
            | cons d s =>
              simp only [List.cons_append, List.cons.injEq] at hz
              obtain ⟨rfl, hz⟩ := hz
              have := ih (b := s) (p := p) ⟨y, hy⟩ ⟨z, hz⟩
              unfold lcp
              rw [if_pos rfl, List.take_succ_cons]
              exact (List.prefix_cons_inj c).mpr this
      exact more pa pl
    exact List.IsPrefix.eq_of_length p1 (Nat.le_antisymm p1.length_le p2.length_le)
  have grow : ∀ p a l : List Nat, (p ++ a).take (lcp (p ++ a) (p ++ l)) = p ++ a.take (lcp a l) := fun p a l => by
    induction p with
    | nil => rfl
    | cons c p ih =>
      rw [List.cons_append, List.cons_append, lcp, if_pos rfl, List.take_succ_cons, ih, List.cons_append]
  show some ((b ++ a.1).take (lcp (b ++ a.1) (b ++ l.1))) = _
  rw [grow, key]
/-! ### what can come next -/
theorem sg_pre (b : List Nat) (r : Row) : sg b.length (pre b r) = r.1.take 1 := by
  unfold sg pre
  show ((b ++ r.1).drop b.length).take 1 = _
  rw [List.drop_left]
theorem nxt_none {b : List Nat} {R : List Row} (h : goneR b R = []) : Nxt b R [] := by
  refine ⟨List.Pairwise.nil, fun s => ?_⟩
  rw [below_gone, h]; simp
theorem nxt_one' {t : Tr} {b : List Nat} {R : List Row} (h : Treed (some t) (goneR b R)) (c : (∃ n, t = .leaf t.text n) ∨ t.text ≠ []) : Nxt b R [t.text.take 1] := by
  refine ⟨List.pairwise_singleton _ _, fun s => ?_⟩
  rw [below_gone, ← h.2, List.mem_singleton]
  have all : ∀ r ∈ t.rws, r.1.take 1 = t.text.take 1 := fun r hr => by
    rcases c with ⟨n, e⟩ | ne
    · rw [e] at hr
      rw [(mem_leaf (x := r.1) (m := r.2)).mp hr |>.1]
    · obtain ⟨y, hy⟩ := text_pre (x := r.1) (m := r.2) hr
      rw [← hy]
      cases ht : t.text with
      | nil => exact absurd ht ne
      | cons c r => rfl
  constructor
  · intro e
    obtain ⟨r, hr⟩ := rws_ne t h.1
    exact ⟨pre b r, List.mem_map.mpr ⟨r, hr, rfl⟩, by rw [sg_pre, all r hr, e]⟩
  · rintro ⟨r, hr, e⟩
    obtain ⟨r0, h0, rfl⟩ := List.mem_map.mp hr
    rw [sg_pre, all r0 h0] at e
    exact e.symm
theorem nxt_fork {bs : List (List Nat × Tr)} {b : List Nat} {R : List Row} (h : Treed (some (.fork [] bs)) (goneR b R)) : Nxt b R (bs.map (·.1)) := by
  have w := wfB_iff.mp h.1.2
  refine ⟨List.pairwise_map.mpr w.2, fun s => ?_⟩
  rw [below_gone, ← h.2, List.mem_map]
  constructor
  · rintro ⟨c, hc, rfl⟩
    obtain ⟨⟨y, m⟩, hy⟩ := rws_ne c.2 (w.1 c hc).2.2
    refine ⟨pre b (c.1 ++ y, m), List.mem_map.mpr ⟨_, mem_fork.mpr ⟨c.1 ++ y, rfl, mem_rwss.mpr ⟨c, hc, y, rfl, hy⟩⟩, rfl⟩, ?_⟩
    rw [sg_pre]
    exact (sign_of (w.1 c hc) hy).1.symm
  · rintro ⟨r, hr, e⟩
    obtain ⟨⟨x, m⟩, h0, rfl⟩ := List.mem_map.mp hr
    rw [sg_pre] at e
    obtain ⟨y, rfl, hy⟩ := mem_fork.mp h0
    obtain ⟨c, hc, v, rfl, hv⟩ := mem_rwss.mp hy
    refine ⟨c, hc, ?_⟩
    rw [← e]
    exact (sign_of (w.1 c hc) hv).1
theorem optT_ne {z : List Nat} : decide (optT (some z) = V.non) = false := decide_eq_false fun e => by cases e
end RT

/-! what is a name -/
namespace RT
open PySem PySem.Spec PyProof.Rows L2
def sgnOk (c : Nat) : Bool := (!decide (c < 32) && !decide (126 < c)) && !decide (c = 37)
def isNm (x : List Nat) : Bool := decide (x.length ≤ 40) && x.all sgnOk
theorem tab_sgn : ∀ c ∈ signTab, sgnOk c = true := by decide
theorem isNm_of {x : List Nat} (h1 : x.length ≤ 40) (h2 : ∀ c ∈ x, c ∈ signTab) : isNm x = true := by
  unfold isNm
  rw [decide_eq_true h1, Bool.true_and, List.all_eq_true]
  exact fun c hc => tab_sgn c (h2 c hc)
theorem isNm_long {x : List Nat} (h : 40 < x.length) : isNm x = false := by
  unfold isNm
  rw [decide_eq_false (by omega), Bool.false_and]
theorem isNm_bad {x : List Nat} {c : Nat} (h : c ∈ x) (b : sgnOk c = false) : isNm x = false := by
  unfold isNm
  rw [Bool.and_eq_false_iff]
  refine .inr (Bool.eq_false_iff.mpr fun z => ?_)
  have := List.all_eq_true.mp z c h
  rw [b] at this; cases this
theorem one_lt (a c : Nat) : decide ((st [a]).cps.toList < (st [c]).cps.toList) = decide (a < c) := by
  refine decide_eq_decide.mpr ?_
  show [a] < [c] ↔ a < c
  rw [cons_lt]
  exact ⟨fun h => h.elim id fun z => absurd z.2 (lt_irr _), .inl⟩
def spIsSign : Sp := fun vs H Q _ => ∃ c : Nat, vs = [.str (st [c])] ∧ Q (.bl (sgnOk c)) H
def spIsName (K : PySem.W.Frag) : Sp := fun vs H Q _ => ∃ v : V, vs = [v] ∧ ((∃ x : List Nat, v = .str (st x) ∧ x.length ≤ 100000 ∧ ∀ H', Same H H' → Q (.bl (isNm x)) H') ∨ ∃ T : String, TyX K H v (.type T) ∧ kitB T "str" = some false ∧ Q (.bl false) H)
theorem bls_of {acc : List V} {l : List Nat} (h : acc = (l.map sgnOk).map V.bl) : acc = (l.map sgnOk).map V.bl := h
theorem all_id (l : List Nat) : (l.map sgnOk).all id = l.all sgnOk := by rw [List.all_map]; rfl
end RT
namespace RT
open PySem PySem.Spec PyProof.Rows L2
/-- the signs' answers, one behind the other -/
def LcB (K : PySem.W.Frag) (H : Hp) (D : Addr) (x : List Nat) (i : Nat) (H' : Hp) : Prop := Same H H' ∧ H' D = some (.lst (((x.take i).map sgnOk).map V.bl))
theorem lcb0 {K : PySem.W.Frag} {H : Hp} {D : Addr} {x : List Nat} (hD : H D = none) : LcB K H D x 0 (upd H D (.lst [])) := ⟨same_new hD _, upd_same⟩
theorem lcb_add {K : PySem.W.Frag} {H H' : Hp} {D : Addr} {x : List Nat} {i c : Nat} (h : LcB K H D x i H') (hD : H D = none) (hc : x[i]? = some c) (hl : i ≤ 20000) :
    ∃ acc, H' D = some (.lst acc) ∧ acc.length < sizeLine ∧ LcB K H D x (i + 1) (upd H' D (.lst (acc ++ [.bl (sgnOk c)]))) := by
  obtain ⟨s, e⟩ := h
  refine ⟨_, e, ?_, same_off hD s _, ?_⟩
  · refine Nat.lt_of_le_of_lt (m := 20000) ?_ (by decide)
    rw [List.length_map, List.length_map, List.length_take]
    omega
  · rw [upd_same, List.take_add_one, hc, List.map_append, List.map_append]; rfl
end RT
namespace RT
open PySem PySem.Spec PyProof.Rows L2
theorem nm_iff {x : List Nat} : isNm x = true ↔ x.length ≤ 40 ∧ ∀ c ∈ x, c ∈ signTab := by
  constructor
  · intro h
    unfold isNm at h
    rw [Bool.and_eq_true, decide_eq_true_eq, List.all_eq_true] at h
    refine ⟨h.1, fun c hc => ?_⟩
    have := h.2 c hc
    have key : ∀ c, c < 127 → sgnOk c = true → c ∈ signTab := by decide
    refine key c ?_ this
    unfold sgnOk at this
    simp at this
    omega
  · intro h
    exact isNm_of h.1 h.2
end RT

/-! defs that may raise -/
namespace RT
open PySem PySem.Spec PyProof.Rows L2
/-- a def of the top that may let exceptions out -/
structure HasX (P : Program) (w : World) (K : PySem.W.Frag) (mg : Str → Option Value) (base : Heap) (x : Str) (ps : List Str) (k : Nat) (sp : Sp) : Prop where
  ex : ∃ (f : Addr) (fd : FuncData), FnOk P w K mg base (L2.CX P w) k f fd ps sp ∧ Binds K fd ps [] ∧ PySem.W.keepIn K (.ref f) = true ∧ mg x = some (.ref f)
section
variable {P : Program} {w : World} {K : PySem.W.Frag} {mg : Str → Option Value} {base : Heap} {x : Str} {ps : List Str} {j k : Nat} {sp sp' : Sp} {s : Stmt} {f : Addr} {fd : FuncData}
theorem HasX.mono (h : HasX P w K mg base x ps j sp) (hl : j ≤ k) : HasX P w K mg base x ps k sp := by
  obtain ⟨f, fd, G, b, kp, m⟩ := h.ex
  exact ⟨f, fd, G.mono hl, b, kp, m⟩
theorem HasX.imp (h : HasX P w K mg base x ps k sp) (i : ∀ vs H Q E, sp' vs H Q E → sp vs H Q E) : HasX P w K mg base x ps k sp' := by
  obtain ⟨f, fd, G, b, kp, m⟩ := h.ex
  exact ⟨f, fd, G.imp i, b, kp, m⟩
theorem DefAt.hasX (D : DefAt K mg x s f fd) (b : Binds K fd ps []) (F : FnOk P w K mg base (L2.CX P w) k f fd ps sp) : HasX P w K mg base x ps k sp :=
  ⟨f, fd, F, b, D.1.kp, D.2⟩
end
section
variable {X : Cx} {x : Str} {ps : List Str} {k j : Nat} {sp : Sp} {e : Expr} {es : List Expr} {t : TA} {p pos : Pos}
/-- a call in a def that lets the callee's exceptions out (or of one that lets none out here) -/
theorem pe_hasX {E : XK} (h : HasX X.prog X.w X.K X.mg X.base x ps k sp) (hr : Room j X.A) (hl : k ≤ j) (hx : Passes (L2.CX X.prog X.w) X E) (ha : PA X (e :: es) t) (hg : Gl X x := by rfl)
    (noDebug : (x == ("__debug__" : Str)) = false := by decide)
    (noStar : starEach (e :: es) X.env = (false, eval e X.env) :: starEach es X.env := by rfl)
    (noStars : (backTo pos (starEach es X.env)).any (·.1) = false := by rfl) :
    PE X (.Call (.Name x p) (e :: es) [] pos) (tCall sp [] E t) := by
  obtain ⟨f, fd, G, b, kp, m⟩ := h.ex
  exact pe_call G (hr.mono hl) hg m kp b .nil hx ha noDebug noStar noStars
/-- a call in a try's body -/
theorem pe_hasS {E : L2.St → XK} (h : HasX X.prog X.w X.K X.mg X.base x ps k sp) (hr : Room j X.A) (hl : k ≤ j) (hx : ∀ σ, PassesAt (L2.CX X.prog X.w) X σ (E σ)) (ha : PA X (e :: es) t) (hg : Gl X x := by rfl)
    (noDebug : (x == ("__debug__" : Str)) = false := by decide)
    (noStar : starEach (e :: es) X.env = (false, eval e X.env) :: starEach es X.env := by rfl)
    (noStars : (backTo pos (starEach es X.env)).any (·.1) = false := by rfl) :
    PE X (.Call (.Name x p) (e :: es) [] pos) (tCallS sp E t) := by
  obtain ⟨f, fd, G, b, kp, m⟩ := h.ex
  exact pe_callS G (hr.mono hl) hg m kp b hx ha noDebug noStar noStars
end
theorem placed_len (bs : List (List Nat × Tr)) (b : List Nat × Tr) : (placed bs b).length ≤ bs.length + 1 := by
  have h : ∀ bs : List (List Nat × Tr), (bs.filter fun a => a.1 < b.1).length + (bs.filter fun a => b.1 < a.1).length ≤ bs.length := fun bs => by
    induction bs with
    | nil => simp
    | cons x r ih =>
      by_cases l : x.1 < b.1
      · have n : ¬ b.1 < x.1 := fun z => lt_irr _ (lt_trans l z)
        rw [List.filter_cons_of_pos (by simpa using l), List.filter_cons_of_neg (by simpa using n)]
        simp only [List.length_cons]; omega
      · rw [List.filter_cons_of_neg (by simpa using l)]
        by_cases l2 : b.1 < x.1
        · rw [List.filter_cons_of_pos (by simpa using l2)]
          simp only [List.length_cons]; omega
        · rw [List.filter_cons_of_neg (by simpa using l2)]
          simp only [List.length_cons]; omega
  have := h bs
  unfold placed
  simp only [List.length_append, List.length_singleton]; omega
theorem JT.beh_len {t : Tr} (h : JT t) {c : Nat} (hc : c ≤ t.text.length) : (behB t (t.text.take c)).length ≤ 1000 := by
  by_cases f : (∃ n, t = .leaf t.text n) ∨ t.text ≠ t.text.take c
  · rw [beh_one f]; show 1 ≤ 1000; omega
  · obtain ⟨n1, n2⟩ := not_or.mp f
    have et : t.text = t.text.take c := Decidable.byContradiction fun z => n2 z
    rw [← et]
    cases t with
    | leaf x m => exact absurd ⟨m, rfl⟩ n1
    | fork x bs =>
      show (behB (.fork x bs) x).length ≤ 1000
      rw [beh_all]
      have w := wfB_iff.mp h.wf.2
      have h1 := bs_len (bs := bs) fun b hb => (w.1 b hb).2.2
      have h2 := h.many
      simp only [Tr.rws, List.length_map] at h2
      omega
/-- a tree's data, looked into, its kind told -/
theorem Dp_kind {K : PySem.W.Frag} {H : Hp} {v : V} {t : Tr} (h : Dp K H v t.toD) : ∃ p s z, v = .ref p ∧ SqT K H p [.str s, .str (st t.text), z] ∧ PyData.strOk s = true ∧
    ((s = Str.ofString "leaf" ∧ ∃ n, t = .leaf t.text n ∧ z = .int n) ∨ (s = Str.ofString "fork" ∧ ∃ bs, t = .fork t.text bs ∧ Dp K H z (.tuple (toDs bs)))) := by
  obtain ⟨p, x, z, rfl, hs, hc⟩ := Dp_tree h
  rcases hc with ⟨n, e, rfl, rfl⟩ | ⟨bs, e, rfl, hz⟩
  · exact ⟨p, _, _, rfl, hs, by decide +kernel, .inl ⟨rfl, n, e, rfl⟩⟩
  · exact ⟨p, _, _, rfl, hs, by decide +kernel, .inr ⟨rfl, bs, e, hz⟩⟩
end RT

/-! branches moved, copied -/
namespace RT
open PySem PySem.Spec PyProof.Rows L2
theorem treed_ahd {o : Option Tr} {R : List Row} (c : List Nat) (h : Treed o R) : Treed (o.map (Tr.ahd c)) (R.map (pre c)) := by
  cases o with
  | none =>
    have e : R = [] := h
    subst e; exact rfl
  | some t => exact ⟨wf_ahd h.1, by rw [rws_ahd, h.2]⟩
theorem ahd_deep (c : List Nat) (t : Tr) : (t.ahd c).deep = t.deep := by cases t <;> rfl
theorem dpt_ahd (c : List Nat) (o : Option Tr) : dpt (o.map (Tr.ahd c)) = dpt o := by
  cases o with
  | none => rfl
  | some t => exact ahd_deep c t
/-- what joined wants, of rows of at most 200 signs, the depth told -/
theorem inJ_of {K : PySem.W.Frag} {H : Hp} {v : V} {o : Option Tr} {R : List Row} (h : Dp K H v (oD o)) (t : Treed o R) (d : dpt o < 50) (hl : R.length ≤ 1000) (hr : ∀ r ∈ R, r.1.length ≤ 200 ∧ ∀ c ∈ r.1, c < 127) : InJ K H v o R :=
  ⟨h, t, treed_fits t (by omega) (fun r hr' => by have := (hr r hr').1; omega), d, hl, hr⟩
theorem good_inJ {K : PySem.W.Frag} {H : Hp} {v : V} {o : Option Tr} {R : List Row} (h : Dp K H v (oD o)) (t : Treed o R) (g : Good R) : InJ K H v o R :=
  inJ_of h t (good_fits t g).2 (by have := g.2.1; omega) fun r hr => ⟨by have := (g.2.2 r hr).1; omega, fun c hc => tab_ok c ((g.2.2 r hr).2.1 c hc)⟩
theorem fresh_inJ {K : PySem.W.Frag} {H : Hp} {v : V} {o : Option Tr} {R : List Row} {b c : List Nat} (h : Dp K H v (oD (o.map (Tr.ahd c)))) (t : Treed o (goneR b R)) (g : Good R) (hc : c.length ≤ 40) (ht : ∀ x ∈ c, x ∈ signTab) :
    InJ K H v (o.map (Tr.ahd c)) (freshR b c R) := by
  have gm := fresh_gm (b := b) g hc ht
  exact inJ_of h (treed_ahd c t) (by rw [dpt_ahd]; exact (good_fits t (gone_good g)).2) (by have := gm.2.1; omega) fun r hr => ⟨by have := (gm.2.2 r hr).1; omega, fun x hx => tab_ok x ((gm.2.2 r hr).2 x hx)⟩
theorem fresh_nil {b c : List Nat} {R : List Row} : freshR b c R = [] ↔ goneR b R = [] := by
  unfold freshR
  rw [List.map_eq_nil_iff]
theorem treed_nil {o : Option Tr} {R : List Row} (h : Treed o R) : o = none ↔ R = [] := by
  constructor
  · intro e; subst e; exact h
  · intro e
    subst e
    exact treed_one h (show Treed none [] from rfl)
/-- cut, or refused with the class at CN -/
def spParted (K : PySem.W.Frag) (CN : Addr) : Sp := fun vs H Q E => ∃ (v : V) (o : Option Tr) (b : List Nat) (R : List Row), vs = [v, .str (st b)] ∧ Dp K H v (oD o) ∧ Treed o R ∧ FitsO o ∧ dpt o < 50 ∧ b.length ≤ 900 ∧ (∀ c ∈ b, c < 127) ∧
  (goneR b R = [] → ∀ H', Same H H' → E (.ref CN) none H') ∧ (goneR b R ≠ [] → ∀ (u : V) (o1 o2 : Option Tr) (H' : Hp), Treed o1 (stayR b R) → Treed o2 (goneR b R) → Same H H' → Dp K H' u (.tuple [oD o1, oD o2]) → Q u H')
theorem str_app_len (a b : Str) : (a ++ b).length = a.length + b.length := by
  show (a.cps ++ b.cps).size = _
  rw [Array.size_append]; rfl
end RT

/-! trails: objects -/
namespace RT
open PySem PySem.Spec PyProof.Rows L2
/-! ### own methods called in a try's body -/
section
variable {X : Cx} {k : Nat} {f C : Addr} {fd : FuncData} {ps : List Str} {sp : Sp} {m : Str} {pos apos : Pos} {e o : Expr} {es : List Expr} {ta : TE} {t : TA}
def tMethE (C : Addr) (m : Str) (sp : Sp) (E : L2.St → XK) (ta : TE) (t : TA) : TE := fun σ H Q =>
  ta σ H fun x H1 => ∃ a dx fs, x = .ref a ∧ H1 a = some (.ins C dx fs) ∧ fs.lookup m = none ∧ t σ H1 fun vs H2 => sp (x :: vs) H2 Q (E σ)
theorem pe_methE {pl : Sem Bool} {E : L2.St → XK} (rcv : PE X o ta) (c : Cls X.K C) (M : Meth X.K C m f) (F : FnOk X.prog X.w X.K X.mg X.base (L2.CX X.prog X.w) k f fd ps sp) (hr : Room k X.A) (b : Binds X.K fd ps []) (out : ∀ σ, PassesAt (L2.CX X.prog X.w) X σ (E σ)) (arg : PA X (e :: es) t)
    (stars : starEach (e :: es) X.env = (false, eval e X.env) :: starEach es X.env := by rfl) (noStars : (backTo pos (starEach es X.env)).any (·.1) = false := by rfl)
    (tree : eval (.Call (.Attribute o m apos) (e :: es) [] pos) X.env = (eval o X.env >>= fun ov => standAt apos.atName >>= fun _ => holding [ov] (getMethod ov m pl) >>= fun fm => callWith pos fm.1 fm.2 (backTo pos (starEach (e :: es) X.env)) (backToKw pos (keywordEach [] X.env))) := by rfl) :
    PE X (.Call (.Attribute o m apos) (e :: es) [] pos) (tMethE C m sp E ta t) := by
  constructor
  intro pins s σ H Q I h
  refine PySem.W.methodCall_KW (pl := pl) ?_ tree
  apply thn (rcv.run pins s σ H _ I h)
  rintro u s1 ⟨x, H1, I1, rx, a, dx, fs, rfl, ea, l, q⟩
  cases (show u = Value.ref a from rx)
  apply getmeth_ok I1 ea c M l
  refine PySem.W.callWith_K (first := [.ref a]) (h₀ := X.base) I.ok.mod.kin M.kp ?_ stars noStars
  apply thn (arg.run pos pins s1 σ H1 _ I1 q)
  rintro us s2 ⟨vs, H2, I2, r, q2⟩
  exact ⟨I2.kIn, run_fnS (E := E) (us := .ref a :: us) (vs := .ref a :: vs) F hr b (out σ) I2 (.cons rfl r) q2⟩
theorem pe_methE0 {pl : Sem Bool} {E : L2.St → XK} (rcv : PE X o ta) (c : Cls X.K C) (M : Meth X.K C m f) (F : FnOk X.prog X.w X.K X.mg X.base (L2.CX X.prog X.w) k f fd ps sp) (hr : Room k X.A) (b : Binds X.K fd ps []) (out : ∀ σ, PassesAt (L2.CX X.prog X.w) X σ (E σ))
    (tree : eval (.Call (.Attribute o m apos) [] [] pos) X.env = (eval o X.env >>= fun ov => standAt apos.atName >>= fun _ => holding [ov] (getMethod ov m pl) >>= fun fm => callWith pos fm.1 fm.2 (backTo pos (starEach [] X.env)) (backToKw pos (keywordEach [] X.env))) := by rfl) :
    PE X (.Call (.Attribute o m apos) [] [] pos) (tMethE C m sp E ta tNil) := by
  constructor
  intro pins s σ H Q I h
  refine PySem.W.methodCall_KW (pl := pl) ?_ tree
  apply thn (rcv.run pins s σ H _ I h)
  rintro u s1 ⟨x, H1, I1, rx, a, dx, fs, rfl, ea, l, q⟩
  cases (show u = Value.ref a from rx)
  apply getmeth_ok I1 ea c M l
  exact PySem.W.callWith_K0 (first := [.ref a]) I1.kIn M.kp (run_fnS (E := E) (us := [.ref a]) (vs := [.ref a]) F hr b (out σ) I1 (.cons rfl .nil) q)
end
/-- a def that lets nothing out lets out no more than another -/
theorem fn_wide {P : Program} {w : World} {K : PySem.W.Frag} {mg : Str → Option Value} {base : Heap} {k : Nat} {f : Addr} {fd : FuncData} {ps : List Str} {sp : Sp} (F : FnOk P w K mg base CX0 k f fd ps sp) : FnOk P w K mg base (L2.CX P w) k f fd ps sp := by
  refine ⟨F.len, fun A outer s H args us vs Q E hr e0 hb hv h => codeAny_mono (F.run A outer s H args us vs Q E hr e0 hb hv h) fun r s' got => ?_⟩
  match r, got with
  | .error _, got => exact False.elim got
  | .ok (.ret _), got => exact got
  | .ok .next, got => exact got
  | .ok .brk, got => exact got
  | .ok .cont, got => exact got
theorem Has.wide {P : Program} {w : World} {K : PySem.W.Frag} {mg : Str → Option Value} {base : Heap} {x : Str} {k : Nat} {ps : List Str} {sp : Sp} (h : Has P w K mg base x ps k sp) : HasX P w K mg base x ps k sp := by
  obtain ⟨f, fd, G, b, kp, m⟩ := h.ex
  exact ⟨f, fd, fn_wide G, b, kp, m⟩
/-! ### a method of the text as it stands -/
def MethAt (K : PySem.W.Frag) (C : Addr) (m qual : Str) (s : Stmt) (f : Addr) (fd : FuncData) : Prop := Fun K m qual s f fd ∧ Meth K C m f
theorem methAt {K : PySem.W.Frag} {C f : Addr} {m qual : Str} {s : Stmt} {od an : Option Addr} {sl : Array (Option Value)} {oc kV dc pm cd ct : Value} (a : PySem.W.findIn K (.ref C) m = some (some (.ref f))) (i : PySem.W.isFn K (.ref f) = true)
    (l : K.lookup f = some ⟨oc, od, .func (PySem.W.fnOf m qual (defArgs s) (defBody s) (defScope s) .none kV dc pm an cd ct), sl⟩) (c : PySem.W.codeIn K cd qual = true) (k : PySem.W.keepIn K (.ref f) = true) : ∃ fd, MethAt K C m qual s f fd :=
  ⟨_, fun_mk (st := s) l c k, ⟨a, i, k⟩⟩
/-- the class of trails, as the top has it -/
structure TrTxt (K : PySem.W.Frag) (mg : Str → Option Value) (C f1 : Addr) : Prop where
  cl : Cls K C
  nN : NoAttr K C "_now"
  nE : NoAttr K C "_earlier"
  mgC : mg "Trail" = some (.ref C)
  mkC : Mk K C f1
theorem trTxt {K : PySem.W.Frag} {h : Heap} {mg : Str → Option Value} {C f1 : Addr} (X : K.In h) (G : h.Ns mainGlobals mg) (aC : PySem.W.nsIn K mainGlobals "Trail" = some (some (.ref C))) (pg : PySem.W.plainGet K C Str.empty = true) (hd : PySem.W.hasDictIn K C = true)
    (po : PySem.W.plainOver K C = true) (sa : PySem.W.findIn K (.ref C) "__setattr__" = some (some (.builtin "object.__setattr__"))) (mk : PySem.W.makesIn K C = true) (kc : PySem.W.keepIn K (.ref C) = true) (nN : PySem.W.findIn K (.ref C) "_now" = some none) (nE : PySem.W.findIn K (.ref C) "_earlier" = some none)
    (a1 : PySem.W.findIn K (.ref C) "__init__" = some (some (.ref f1))) (i1 : PySem.W.isFn K (.ref f1) = true) : TrTxt K mg C f1 :=
  ⟨⟨pg, hd, po, sa⟩, nN, nE, PySem.W.mg_of X G aC, ⟨mk, a1, i1, kc⟩⟩
/-! ### what an object holds -/
def tf (v : V) (l : Addr) : List (Str × V) := [("_now", v), ("_earlier", .ref l)]
theorem ne_ : ¬ (("_now" : Str) = "_earlier") := by decide +kernel
theorem tf_init (v : V) (l : Addr) : putF "_earlier" (.ref l) (putF "_now" v []) = tf v l := by
  show (if ("_now" : Str) = "_earlier" then _ else (("_now" : Str), v) :: putF "_earlier" (V.ref l) []) = tf v l
  rw [if_neg ne_]; rfl
theorem tf_now (v : V) (l : Addr) : (tf v l).lookup ("_now" : Str) = some v := rfl
theorem tf_earlier (v : V) (l : Addr) : (tf v l).lookup ("_earlier" : Str) = some (.ref l) := rfl
theorem tf_put (v u : V) (l : Addr) : putF "_now" u (tf v l) = tf u l := by
  show (if ("_now" : Str) = "_now" then (("_now" : Str), u) :: [(("_earlier" : Str), V.ref l)] else _) = tf u l
  rw [if_pos rfl]; rfl
/-- a trail at x, its list at l: the tree now and those ahead of it -/
def TrAt (K : PySem.W.Frag) (C : Addr) (H : Hp) (x dx l : Addr) (o : Option Tr) (ps : List (Option Tr)) : Prop :=
  ∃ v acc, H x = some (.ins C dx (tf v l)) ∧ H l = some (.lst acc) ∧ Dp K H v (oD o) ∧ DpAll K H acc (ps.map oD)
theorem TrAt.same {K : PySem.W.Frag} {C : Addr} {H H' : Hp} {x dx l : Addr} {o : Option Tr} {ps : List (Option Tr)} (h : TrAt K C H x dx l o ps) (s : Same H H') : TrAt K C H' x dx l o ps := by
  obtain ⟨v, acc, h1, h2, h3, h4⟩ := h
  exact ⟨v, acc, s _ _ h1, s _ _ h2, Dp_same s h3, DpAll_same s h4⟩
/-- all but x and l is as it was -/
def Fr (x l : Addr) (H H' : Hp) : Prop := ∀ b u, b ≠ x → b ≠ l → H b = some u → H' b = some u
theorem Fr.of {x l : Addr} {H H' : Hp} (s : Same H H') : Fr x l H H' := fun b u _ _ e => s b u e
theorem Fr.trans {x l : Addr} {H H1 H2 : Hp} (a : Fr x l H H1) (b : Fr x l H1 H2) : Fr x l H H2 := fun c u h1 h2 e => b c u h1 h2 (a c u h1 h2 e)
/-! ### what is a name, told of any thing -/
def Thg (K : PySem.W.Frag) (H : Hp) (w : V) : Option (List Nat) → Prop
  | some b => w = .str (st b) ∧ isNm b = true
  | none => (∃ x, w = .str (st x) ∧ x.length ≤ 100000 ∧ isNm x = false) ∨ ∃ T : String, (∀ H', Same H H' → TyX K H' w (.type T)) ∧ kitB T "str" = some false
theorem Thg.same {K : PySem.W.Frag} {H H' : Hp} {w : V} {b : Option (List Nat)} (h : Thg K H w b) (s : Same H H') : Thg K H' w b := by
  cases b with
  | some b => exact h
  | none => exact h.imp id fun ⟨T, a, c⟩ => ⟨T, fun H2 s2 => a H2 (s.trans s2), c⟩
theorem tyx_str {K : PySem.W.Frag} {H : Hp} {x : Str} {T : String} (h : TyX K H (.str x) (.type T)) : T = "str" := by
  cases h with
  | base b => cases b; rfl
/-! ### promises -/
def spInit (K : PySem.W.Frag) (C : Addr) : Sp := fun vs H Q _ => ∃ (x dx : Addr), vs = [.ref x] ∧ H x = some (.ins C dx []) ∧ ∀ (l : Addr) (H' : Hp), H l = none → (∀ b u, b ≠ x → H b = some u → H' b = some u) → TrAt K C H' x dx l none [] → Q .non H'
def spRefuse (K : PySem.W.Frag) (CN : Addr) : Sp := fun vs H Q E => ∃ (l : Addr) (ws : List V), vs = [.ref l] ∧ H l = some (.lst ws) ∧ (∀ w ∈ ws, ∃ b, Thg K H w b) ∧ ((∃ w ∈ ws, Thg K H w none) → ∀ H', Same H H' → E (.ref CN) none H') ∧
  ((∀ w ∈ ws, ∃ b, Thg K H w (some b)) → ∀ H', Same H H' → Q .non H')
def spTold (K : PySem.W.Frag) (C CN : Addr) : Sp := fun vs H Q E => ∃ (x dx l : Addr) (o : Option Tr) (ps : List (Option Tr)) (R : List Row) (w : V) (t : Option (List Nat)), vs = [.ref x, w] ∧ TrAt K C H x dx l o ps ∧ Treed o R ∧ Good R ∧ Thg K H w t ∧
  (t = none → ∀ H', Same H H' → E (.ref CN) none H') ∧ ∀ b, t = some b → newL K H ((below b R).map rowD) Q
end RT
namespace RT
open PySem PySem.Spec PyProof.Rows L2
theorem good_nil : Good [] := ⟨List.Pairwise.nil, by simp, fun r hr => by simp at hr⟩
/-- no text, now and later -/
def NoStr (K : PySem.W.Frag) (H : Hp) (w : V) : Prop := ∃ T : String, (∀ H', Same H H' → TyX K H' w (.type T)) ∧ kitB T "str" = some false
def spOther (K : PySem.W.Frag) : Sp := fun vs H Q _ => ∃ c : Int, vs = [.int c] ∧ ∀ (w : V) (H' : Hp), Same H H' → NoStr K H' w → Q w H'
def spRef2 (K : PySem.W.Frag) : Sp := fun vs H Q _ => ∃ (w : V) (t : Option (List Nat)), vs = [w] ∧ Thg K H w t ∧ (t = none → ∀ H', Same H H' → Q (.bl true) H') ∧ ∀ b, t = some b → ∀ H', Same H H' → Q (.bl false) H'
theorem thg_of {K : PySem.W.Frag} {H : Hp} {x : List Nat} (h : x.length ≤ 100000) : Thg K H (.str (st x)) (if isNm x = true then some x else none) := by
  cases e : isNm x with
  | true => exact ⟨rfl, e⟩
  | false => exact .inl ⟨x, rfl, h, e⟩
end RT
namespace RT
open PySem PySem.Spec PyProof.Rows L2
theorem globAt {K : PySem.W.Frag} {h : Heap} {mg : Str → Option Value} {x : Str} {v : Int} {t : Tok} (X : K.In h) (G : h.Ns mainGlobals mg) (a : PySem.W.nsIn K mainGlobals x = some (some (.int v t))) : ∃ t, mg x = some (.int v t) := ⟨t, PySem.W.mg_of X G a⟩
end RT

/-! trails: deeds -/
namespace RT
open PySem PySem.Spec PyProof.Rows L2
/-- all tuples, all frozen things stay -/
def KT (H H' : Hp) : Prop := (∀ b xs, H b = some (.tup xs) → H' b = some (.tup xs)) ∧ ∀ b o u, H b = some (.frz o u) → H' b = some (.frz o u)
theorem KT.of {H H' : Hp} (s : Same H H') : KT H H' := ⟨fun b xs e => s b _ e, fun b o u e => s b _ e⟩
theorem KT.trans {H H1 H2 : Hp} (a : KT H H1) (b : KT H1 H2) : KT H H2 := ⟨fun c xs e => b.1 c xs (a.1 c xs e), fun c o u e => b.2 c o u (a.2 c o u e)⟩
mutual
theorem Dp_kt {K : PySem.W.Frag} {H H' : Hp} (e : KT H H') : ∀ {v : V} {d : PyData}, nolist d = true → Dp K H v d → Dp K H' v d
  | _, _, _, .non => .non
  | _, _, _, .bl b => .bl b
  | _, _, _, .int i => .int i
  | _, _, _, .str x => .str x
  | _, _, h, .lst s a => by simp [nolist] at h
  | _, _, h, .tup s a => .tup (by
      rcases s with (s | ⟨o, s⟩) | s
      · exact .inl (.inl (e.1 _ _ s))
      · exact .inl (.inr ⟨o, e.2 _ _ _ s⟩)
      · exact .inr s) (DpAll_kt e (by simpa [nolist] using h) a)
theorem DpAll_kt {K : PySem.W.Frag} {H H' : Hp} (e : KT H H') : ∀ {vs : List V} {ds : List PyData}, nolists ds = true → DpAll K H vs ds → DpAll K H' vs ds
  | _, _, _, .nil => .nil
  | _, _, h, .cons a r => by
    simp only [nolists, Bool.and_eq_true] at h
    have h1 := h
    exact .cons (Dp_kt e h1.1 a) (DpAll_kt e h1.2 r)
end
theorem oDs_nolist (ps : List (Option Tr)) : nolists (ps.map oD) = true := by
  induction ps with
  | nil => rfl
  | cons p r ih => simp [nolists, oD_nolist, ih]
theorem kt_fr {x l : Addr} {H H' : Hp} (hx : ∃ C dx fs, H x = some (.ins C dx fs)) (hl : ∃ acc, H l = some (.lst acc)) (f : Fr x l H H') : KT H H' := by
  obtain ⟨C, dx, fs, hx⟩ := hx
  obtain ⟨acc, hl⟩ := hl
  refine ⟨fun b xs e => f b _ (fun z => ?_) (fun z => ?_) e, fun b o u e => f b _ (fun z => ?_) (fun z => ?_) e⟩
  · rw [z, hx] at e; cases e
  · rw [z, hl] at e; cases e
  · rw [z, hx] at e; cases e
  · rw [z, hl] at e; cases e
/-- a tree that a trail keeps -/
def GT (o : Option Tr) : Prop := (∀ t, o = some t → Wf t) ∧ Good (rO o) ∧ (rO o).length ≤ 100
theorem GT.tr {o : Option Tr} (h : GT o) : Treed o (rO o) := treed_of h.1
theorem gt_of {o : Option Tr} {R : List Row} (h : Treed o R) (g : Good R) (l : R.length ≤ 100) : GT o ∧ rO o = R := by
  obtain ⟨e, _, w⟩ := treed_rO h
  exact ⟨⟨w, by rw [e]; exact g, by rw [e]; exact l⟩, e⟩
theorem gt_none : GT none := ⟨fun t e => (by cases e), good_nil, by simp [rO]⟩
theorem thg_uniq {K : PySem.W.Frag} {H : Hp} {w : V} {t t' : Option (List Nat)} (h : Thg K H w t) (h' : Thg K H w t') : t = t' := by
  have no : ∀ {b}, Thg K H w (some b) → ¬ Thg K H w none := fun {b} ⟨e, nb⟩ hn => by
    rcases hn with ⟨y, e2, _, nb2⟩ | ⟨T, ty, hT⟩
    · rw [e] at e2
      have := st_inj (V.str.inj e2)
      rw [← this, nb] at nb2; cases nb2
    · rw [e] at ty
      have e3 := tyx_str (ty _ (Same.refl _))
      rw [e3] at hT
      exact absurd hT (by decide +kernel)
  cases t with
  | none => cases t' with
    | none => rfl
    | some b => exact absurd h (no h')
  | some b => cases t' with
    | none => exact absurd h' (no h)
    | some b' =>
      obtain ⟨e, _⟩ := h
      obtain ⟨e', _⟩ := h'
      rw [e] at e'
      rw [st_inj (V.str.inj e')]
theorem refuse1 {K : PySem.W.Frag} {CN : Addr} {H : Hp} {w : V} {t : Option (List Nat)} {Q : VK} {E : XK} (h : Thg K H w t) (he : t = none → ∀ H', Same H H' → E (.ref CN) none H') (hq : ∀ b, t = some b → ∀ H', Same H H' → Q .non H') :
    1 ≤ sizeLine ∧ ∀ m, H m = none → spRefuse K CN [.ref m] (upd H m (.lst [w])) Q E := by
  refine ⟨by decide, fun m nm => ?_⟩
  have sm := same_new nm (.lst [w])
  refine ⟨m, [w], rfl, upd_same, fun z hz => ⟨t, by rw [List.mem_singleton.mp hz]; exact h.same sm⟩, fun ⟨z, hz, hn⟩ H' s => ?_, fun all H' s => ?_⟩
  · rw [List.mem_singleton.mp hz] at hn
    exact he (thg_uniq (h.same sm) hn) H' (sm.trans s)
  · obtain ⟨b, hb⟩ := all w (List.mem_singleton.mpr rfl)
    exact hq b (thg_uniq (h.same sm) hb) H' (sm.trans s)
theorem refuse2 {K : PySem.W.Frag} {CN : Addr} {H : Hp} {w u : V} {t s : Option (List Nat)} {Q : VK} {E : XK} (h : Thg K H w t) (k : Thg K H u s) (he : t = none ∨ s = none → ∀ H', Same H H' → E (.ref CN) none H') (hq : ∀ b c, t = some b → s = some c → ∀ H', Same H H' → Q .non H') :
    2 ≤ sizeLine ∧ ∀ m, H m = none → spRefuse K CN [.ref m] (upd H m (.lst [w, u])) Q E := by
  refine ⟨by decide, fun m nm => ?_⟩
  have sm := same_new nm (.lst [w, u])
  refine ⟨m, [w, u], rfl, upd_same, fun z hz => ?_, fun ⟨z, hz, hn⟩ H' s' => ?_, fun all H' s' => ?_⟩
  · rcases List.mem_cons.mp hz with e | hz
    · rw [e]; exact ⟨t, h.same sm⟩
    · rw [List.mem_singleton.mp hz]; exact ⟨s, k.same sm⟩
  · rcases List.mem_cons.mp hz with e | hz
    · rw [e] at hn; exact he (.inl (thg_uniq (h.same sm) hn)) H' (sm.trans s')
    · rw [List.mem_singleton.mp hz] at hn; exact he (.inr (thg_uniq (k.same sm) hn)) H' (sm.trans s')
  · obtain ⟨b, hb⟩ := all w (List.mem_cons_self ..)
    obtain ⟨c, hc⟩ := all u (List.mem_cons_of_mem _ (List.mem_singleton.mpr rfl))
    exact hq b c (thg_uniq (h.same sm) hb) (thg_uniq (k.same sm) hc) H' (sm.trans s')
/-! ### promises -/
def spDo (K : PySem.W.Frag) (C : Addr) : Sp := fun vs H Q _ => ∃ (x dx l : Addr) (o o' : Option Tr) (ps : List (Option Tr)) (u : V), vs = [.ref x, u] ∧ TrAt K C H x dx l o ps ∧ ps.length ≤ 2000 ∧ Dp K H u (oD o') ∧ ∀ H', Fr x l H H' → TrAt K C H' x dx l o' (ps ++ [o]) → Q .non H'
def spOfSize (K : PySem.W.Frag) (CM : Addr) : Sp := fun vs H Q E => ∃ (v : V) (o : Option Tr), vs = [v] ∧ Dp K H v (oD o) ∧ FitsO o ∧ dpt o < 50 ∧ (100 < (rO o).length → ∀ H', Same H H' → E (.ref CM) none H') ∧ ((rO o).length ≤ 100 → ∀ H', Same H H' → Q v H')
def spLong (K : PySem.W.Frag) (CL : Addr) : Sp := fun vs H Q E => ∃ (v : V) (o : Option Tr) (b c : List Nat), vs = [v, .str (st b), .str (st c)] ∧ Dp K H v (oD o) ∧ Treed o (rO o) ∧ Good (rO o) ∧ b.length ≤ 40 ∧ c.length ≤ 40 ∧
  ((∃ r ∈ freshR b c (rO o), 40 < r.1.length) → ∀ H', Same H H' → E (.ref CL) none H') ∧ ((∀ r ∈ freshR b c (rO o), r.1.length ≤ 40) → ∀ H', Same H H' → Q .non H')
def spKeep (K : PySem.W.Frag) (C CN CM : Addr) : Sp := fun vs H Q E => ∃ (x dx l : Addr) (o : Option Tr) (ps : List (Option Tr)) (w : V) (n : Int) (t : Option (List Nat)), vs = [.ref x, w, .int n] ∧ TrAt K C H x dx l o ps ∧ GT o ∧ ps.length ≤ 2000 ∧ n.natAbs < 10 ^ 60 ∧ Thg K H w t ∧
  (t = none → ∀ H', Same H H' → E (.ref CN) none H') ∧ ∀ b, t = some b → (∀ S, putR (rO o) b n S → 100 < S.length → ∀ H', Same H H' → E (.ref CM) none H') ∧
    ∀ o' H', GT o' → putR (rO o) b n (rO o') → Fr x l H H' → TrAt K C H' x dx l o' (ps ++ [o]) → Q (optV (fndO o b)) H'
def spDrop (K : PySem.W.Frag) (C CN CR : Addr) : Sp := fun vs H Q E => ∃ (x dx l : Addr) (o : Option Tr) (ps : List (Option Tr)) (w : V) (t : Option (List Nat)), vs = [.ref x, w] ∧ TrAt K C H x dx l o ps ∧ GT o ∧ ps.length ≤ 2000 ∧ Thg K H w t ∧
  (t = none → ∀ H', Same H H' → E (.ref CN) none H') ∧ ∀ b, t = some b → (fndO o b = none → ∀ H', Same H H' → E (.ref CR) none H') ∧
    ∀ k, fndO o b = some k → ∀ o' H', GT o' → rO o' = (rO o).filter (fun r => !decide (r.1 = b)) → Fr x l H H' → TrAt K C H' x dx l o' (ps ++ [o]) → Q (.int k) H'
def spPrune (K : PySem.W.Frag) (C CN CR : Addr) : Sp := fun vs H Q E => ∃ (x dx l : Addr) (o : Option Tr) (ps : List (Option Tr)) (w : V) (t : Option (List Nat)), vs = [.ref x, w] ∧ TrAt K C H x dx l o ps ∧ GT o ∧ ps.length ≤ 2000 ∧ Thg K H w t ∧
  (t = none → ∀ H', Same H H' → E (.ref CN) none H') ∧ ∀ b, t = some b → (goneR b (rO o) = [] → ∀ H', Same H H' → E (.ref CR) none H') ∧
    (goneR b (rO o) ≠ [] → ∀ o' H', GT o' → rO o' = stayR b (rO o) → Fr x l H H' → TrAt K C H' x dx l o' (ps ++ [o]) → Q (.int ((goneR b (rO o)).length : Nat)) H')
/-- move; graft: with the bound -/
def spMove (K : PySem.W.Frag) (C CN CR CL CT : Addr) (stay : List Nat → List Row → List Row) (many : Option Addr) : Sp := fun vs H Q E => ∃ (x dx l : Addr) (o : Option Tr) (ps : List (Option Tr)) (w u : V) (t s : Option (List Nat)), vs = [.ref x, w, u] ∧ TrAt K C H x dx l o ps ∧ GT o ∧ ps.length ≤ 2000 ∧ Thg K H w t ∧ Thg K H u s ∧
  (t = none ∨ s = none → ∀ H', Same H H' → E (.ref CN) none H') ∧ ∀ b c, t = some b → s = some c → (goneR b (rO o) = [] → ∀ H', Same H H' → E (.ref CR) none H') ∧
    (goneR b (rO o) ≠ [] → (∃ r ∈ freshR b c (rO o), 40 < r.1.length) → ∀ H', Same H H' → E (.ref CL) none H') ∧
    (goneR b (rO o) ≠ [] → (∀ r ∈ freshR b c (rO o), r.1.length ≤ 40) → Share (stay b (rO o)) (freshR b c (rO o)) → ∀ H', Same H H' → E (.ref CT) none H') ∧
    (∀ CM, many = some CM → goneR b (rO o) ≠ [] → (∀ r ∈ freshR b c (rO o), r.1.length ≤ 40) → ¬ Share (stay b (rO o)) (freshR b c (rO o)) → 100 < (stay b (rO o)).length + (freshR b c (rO o)).length → ∀ H', Same H H' → E (.ref CM) none H') ∧
    (goneR b (rO o) ≠ [] → (∀ r ∈ freshR b c (rO o), r.1.length ≤ 40) → ¬ Share (stay b (rO o)) (freshR b c (rO o)) → (stay b (rO o)).length + (freshR b c (rO o)).length ≤ 100 →
      ∀ o' H', GT o' → Both (stay b (rO o)) (freshR b c (rO o)) (rO o') → Fr x l H H' → TrAt K C H' x dx l o' (ps ++ [o]) → Q (.int ((goneR b (rO o)).length : Nat)) H')
def spBack (K : PySem.W.Frag) (C CD : Addr) : Sp := fun vs H Q E => ∃ (x dx l : Addr) (o : Option Tr) (ps : List (Option Tr)), vs = [.ref x] ∧ TrAt K C H x dx l o ps ∧ (ps = [] → ∀ H', Same H H' → E (.ref CD) none H') ∧
  ∀ qs p, ps = qs ++ [p] → ∀ H', Fr x l H H' → TrAt K C H' x dx l p qs → Q .non H'
def spTreeM (K : PySem.W.Frag) (C : Addr) : Sp := fun vs H Q _ => ∃ (x dx l : Addr) (o : Option Tr) (ps : List (Option Tr)), vs = [.ref x] ∧ TrAt K C H x dx l o ps ∧ ∀ v, Dp K H v (oD o) → Q v H
def spSize (K : PySem.W.Frag) (C : Addr) : Sp := fun vs H Q _ => ∃ (x dx l : Addr) (o : Option Tr) (ps : List (Option Tr)), vs = [.ref x] ∧ TrAt K C H x dx l o ps ∧ GT o ∧ ∀ H', Same H H' → Q (.int ((rO o).length : Nat)) H'
/-! ### rows -/
theorem up_nodup {R : List Row} (h : Up R) : R.Nodup := h.imp fun h e => by rw [e] at h; exact lt_irr _ h
theorem both_perm {A B T : List Row} (ha : Up A) (hb : Up B) (n : ¬ Share A B) (h : Both A B T) : T.Perm (A ++ B) := by
  refine (List.perm_ext_iff_of_nodup (up_nodup h.1) (List.nodup_append.mpr ⟨up_nodup ha, up_nodup hb, fun r hr s hs e => ?_⟩)).mpr fun r => by rw [h.2, List.mem_append]
  subst e
  exact n ⟨r.1, r.2, r.2, hr, hs⟩
theorem both_len {A B T : List Row} (ha : Up A) (hb : Up B) (n : ¬ Share A B) (h : Both A B T) : T.length = A.length + B.length := by
  rw [(both_perm ha hb n h).length_eq, List.length_append]
theorem both_good {A B T : List Row} (ga : ∀ r ∈ A, GoodR r) (gb : ∀ r ∈ B, GoodR r) (h : Both A B T) (l : T.length ≤ 150) : Good T :=
  ⟨h.1, l, fun r hr => ((h.2 r).mp hr).elim (ga r) (gb r)⟩
theorem put_len {R S : List Row} {x : List Nat} {n : Int} (up : Up R) (h : putR R x n S) : S.length ≤ R.length + 1 := by
  have : S.length ≤ (R ++ [(x, n)]).length := (up_nodup h.1).length_le_of_subset fun r hr => by
    rw [List.mem_append, List.mem_singleton]
    rcases (h.2 r.1 r.2).mp hr with ⟨m, _⟩ | ⟨e1, e2⟩
    · exact .inl m
    · exact .inr (Prod.ext e1 e2)
  rw [List.length_append] at this; simpa using this
theorem put_good {R S : List Row} {x : List Nat} {n : Int} (g : ∀ r ∈ R, GoodR r) (nx : isNm x = true) (hn : n.natAbs < 10 ^ 60) (h : putR R x n S) : ∀ r ∈ S, GoodR r := fun r hr => by
  rcases (h.2 r.1 r.2).mp hr with ⟨m, _⟩ | ⟨e1, e2⟩
  · exact g r m
  · obtain ⟨a, b⟩ := nm_iff.mp nx
    exact ⟨by rw [e1]; exact a, by rw [e1]; exact b, by rw [e2]; exact hn⟩
theorem fresh_good {b c : List Nat} {R : List Row} (g : Good R) (nc : isNm c = true) (hl : ∀ r ∈ freshR b c R, r.1.length ≤ 40) : ∀ r ∈ freshR b c R, GoodR r := fun r hr => by
  refine ⟨hl r hr, fun x hx => ?_, ?_⟩
  · obtain ⟨r0, h0, rfl⟩ := List.mem_map.mp hr
    rcases List.mem_append.mp hx with hx | hx
    · exact (nm_iff.mp nc).2 x hx
    · exact ((gone_good g).2.2 r0 h0).2.1 x hx
  · obtain ⟨r0, h0, rfl⟩ := List.mem_map.mp hr
    exact ((gone_good g).2.2 r0 h0).2.2
theorem TrAt.fr_ne {K : PySem.W.Frag} {C : Addr} {H : Hp} {x dx l : Addr} {o : Option Tr} {ps : List (Option Tr)} (h : TrAt K C H x dx l o ps) : x ≠ l := by
  obtain ⟨v, acc, h1, h2, _⟩ := h
  exact ne_of h1 h2 (by intro z; cases z)
theorem TrAt.kt {K : PySem.W.Frag} {C : Addr} {H H' : Hp} {x dx l : Addr} {o : Option Tr} {ps : List (Option Tr)} (h : TrAt K C H x dx l o ps) (f : Fr x l H H') : KT H H' := by
  obtain ⟨v, acc, h1, h2, _⟩ := h
  exact kt_fr ⟨_, _, _, h1⟩ ⟨_, h2⟩ f
end RT
namespace RT
open PySem PySem.Spec PyProof.Rows L2
theorem small1000' {n : Nat} (h : n ≤ 100000) : n < sizeLine := Nat.lt_of_le_of_lt h (by decide)
/-- rows with a name's row put in -/
def putS (R : List Row) (x : List Nat) (n : Int) : List Row := R.filter (fun r => decide (r.1 < x)) ++ [(x, n)] ++ R.filter (fun r => decide (x < r.1))
theorem putS_ok {R : List Row} {x : List Nat} {n : Int} (up : Up R) : putR R x n (putS R x n) := by
  unfold putS
  refine ⟨List.pairwise_append.mpr ⟨List.pairwise_append.mpr ⟨up.filter _, List.pairwise_singleton _ _, fun a ha b hb => ?_⟩, up.filter _, fun a ha b hb => ?_⟩, fun y m => ?_⟩
  · rw [List.mem_singleton.mp hb]
    exact of_decide_eq_true (List.mem_filter.mp ha).2
  · have hb' : x < b.1 := of_decide_eq_true (List.mem_filter.mp hb).2
    rcases List.mem_append.mp ha with h | h
    · exact lt_trans (of_decide_eq_true (List.mem_filter.mp h).2) hb'
    · rw [List.mem_singleton.mp h]; exact hb'
  · simp only [List.mem_append, List.mem_filter, decide_eq_true_eq, List.mem_singleton]
    constructor
    · rintro ((⟨h, l⟩ | h) | ⟨h, l⟩)
      · exact .inl ⟨h, fun e => by rw [e] at l; exact lt_irr _ l⟩
      · injection h with h1 h2; exact .inr ⟨h1, h2⟩
      · exact .inl ⟨h, fun e => by rw [e] at l; exact lt_irr _ l⟩
    · rintro (⟨h, ne⟩ | ⟨rfl, rfl⟩)
      · by_cases l : y < x
        · exact .inl (.inl ⟨h, l⟩)
        · by_cases l2 : x < y
          · exact .inr ⟨h, l2⟩
          · exact absurd (lt_tri l l2) ne
      · exact .inl (.inr rfl)
end RT
namespace RT
open PySem PySem.Spec PyProof.Rows L2
section
variable {K : PySem.W.Frag} {H H1 : Hp} {w u : V} {t s : Option (List Nat)}
theorem r1_all (h : Thg K H w t) (sm : Same H H1) : ∀ z ∈ [w], ∃ b, Thg K H1 z b := fun z hz => ⟨t, by rw [List.mem_singleton.mp hz]; exact h.same sm⟩
theorem r1_no {CN : Addr} {E : XK} (h : Thg K H w t) (sm : Same H H1) (he : t = none → ∀ H', Same H H' → E (.ref CN) none H') : (∃ z ∈ [w], Thg K H1 z none) → ∀ H', Same H1 H' → E (.ref CN) none H' := fun ⟨z, hz, hn⟩ H' s => by
  rw [List.mem_singleton.mp hz] at hn
  exact he (thg_uniq (h.same sm) hn) H' (sm.trans s)
theorem r1_yes (h : Thg K H w t) (sm : Same H H1) (all : ∀ z ∈ [w], ∃ b, Thg K H1 z (some b)) : ∃ b, t = some b := by
  obtain ⟨b, hb⟩ := all w (List.mem_singleton.mpr rfl)
  exact ⟨b, thg_uniq (h.same sm) hb⟩
theorem r2_all (h : Thg K H w t) (k : Thg K H u s) (sm : Same H H1) : ∀ z ∈ [w, u], ∃ b, Thg K H1 z b := fun z hz => by
  rcases List.mem_cons.mp hz with e | hz
  · rw [e]; exact ⟨t, h.same sm⟩
  · rw [List.mem_singleton.mp hz]; exact ⟨s, k.same sm⟩
theorem r2_no {CN : Addr} {E : XK} (h : Thg K H w t) (k : Thg K H u s) (sm : Same H H1) (he : t = none ∨ s = none → ∀ H', Same H H' → E (.ref CN) none H') : (∃ z ∈ [w, u], Thg K H1 z none) → ∀ H', Same H1 H' → E (.ref CN) none H' := fun ⟨z, hz, hn⟩ H' s' => by
  rcases List.mem_cons.mp hz with e | hz
  · rw [e] at hn; exact he (.inl (thg_uniq (h.same sm) hn)) H' (sm.trans s')
  · rw [List.mem_singleton.mp hz] at hn; exact he (.inr (thg_uniq (k.same sm) hn)) H' (sm.trans s')
theorem r2_yes (h : Thg K H w t) (k : Thg K H u s) (sm : Same H H1) (all : ∀ z ∈ [w, u], ∃ b, Thg K H1 z (some b)) : ∃ b c, t = some b ∧ s = some c := by
  obtain ⟨b, hb⟩ := all w (List.mem_cons_self ..)
  obtain ⟨c, hc⟩ := all u (List.mem_cons_of_mem _ (List.mem_singleton.mpr rfl))
  exact ⟨b, c, thg_uniq (h.same sm) hb, thg_uniq (k.same sm) hc⟩
end
end RT
namespace RT
open PySem PySem.Spec PyProof.Rows L2
theorem stay_gone (b : List Nat) (R : List Row) : (stayR b R).length + (goneR b R).length = R.length := by
  unfold stayR goneR
  rw [List.length_map]
  induction R with
  | nil => rfl
  | cons r R ih =>
    cases e : tk b r with
    | true =>
      rw [List.filter_cons_of_pos (p := tk b) e, List.filter_cons_of_neg (by simp [e])]
      simp only [List.length_cons]; omega
    | false =>
      rw [List.filter_cons_of_neg (p := tk b) (by simp [e]), List.filter_cons_of_pos (by simp [e])]
      simp only [List.length_cons]; omega
theorem DpAll_split {K : PySem.W.Frag} {H : Hp} : ∀ {vs : List V} {a b : List PyData}, DpAll K H vs (a ++ b) → ∃ v1 v2, vs = v1 ++ v2 ∧ DpAll K H v1 a ∧ DpAll K H v2 b
  | vs, [], b, h => ⟨[], vs, rfl, .nil, h⟩
  | vs, d :: a, b, h => by
    obtain ⟨x, xs, rfl, hx, hr⟩ := DpAll_cons h
    obtain ⟨v1, v2, rfl, g1, g2⟩ := DpAll_split (a := a) (b := b) hr
    exact ⟨x :: v1, v2, rfl, .cons hx g1, g2⟩
end RT

/-! trails: promises of the deeds by cells -/
namespace RT
open PySem PySem.Spec PyProof.Rows L2
def textD (x : List Nat) : PyData := .str (st x)
/-- what the texts by cells are -/
def Tx (w : V) : Prop := (∃ x : List Nat, w = .str (st x) ∧ x.length ≤ 41 ∧ ((∀ c ∈ x, c ∈ signTab) ∨ x = [97, 10] ∨ x = [9, 98])) ∨ w = .non ∨ w = .int 7
theorem Tx.scal {w : V} (h : Tx w) (y : Str) : L2.scal (.str y) w = true := by
  rcases h with ⟨x, rfl, _⟩ | rfl | rfl <;> rfl
theorem Tx.thg {K : PySem.W.Frag} {H : Hp} {w : V} (h : Tx w) : ∃ t, Thg K H w t := by
  rcases h with ⟨x, rfl, hx, _⟩ | rfl | rfl
  · cases e : isNm x with
    | true => exact ⟨some x, rfl, e⟩
    | false => exact ⟨none, .inl ⟨x, rfl, by omega, e⟩⟩
  · exact ⟨none, .inr ⟨"NoneType", fun _ _ => .base .non, by decide +kernel⟩⟩
  · exact ⟨none, .inr ⟨"int", fun _ _ => .base (.int _), by decide +kernel⟩⟩
/-- a text, or a thing that is none, by a cell -/
def spTextBy (K : PySem.W.Frag) : Sp := fun vs H Q _ => ∃ (c : Int) (v : V) (xs : List (List Nat)), vs = [.int c, v] ∧ Dp K H v (.list (xs.map textD)) ∧ (∀ x ∈ xs, isNm x = true) ∧ ∀ (w : V) (H' : Hp), Same H H' → Tx w → Q w H'
/-- a deed by a cell: refused, and nothing changed, or done -/
def spDeed (K : PySem.W.Frag) (C : Addr) : Sp := fun vs H Q _ => ∃ (x dx l : Addr) (o : Option Tr) (ps : List (Option Tr)) (c : Int), vs = [.ref x, .int c] ∧ TrAt K C H x dx l o ps ∧ GT o ∧ ps.length ≤ 2000 ∧ (∀ H', Same H H' → Q (.bl false) H') ∧
  (c % 10 ≠ 9 → ∀ (o' : Option Tr) (H' : Hp), GT o' → Fr x l H H' → TrAt K C H' x dx l o' (ps ++ [o]) → Q (.bl true) H') ∧
  (c % 10 = 9 → ∀ (qs : List (Option Tr)) (p : Option Tr), ps = qs ++ [p] → ∀ H', Fr x l H H' → TrAt K C H' x dx l p qs → Q (.bl true) H')
theorem texts_shaped {R : List (List Nat)} (h : ∀ x ∈ R, ∀ c ∈ x, c ∈ signTab) : SeqAt.shaped (.list (R.map textD)) = true := by
  have h1 : ∀ R : List (List Nat), (∀ x ∈ R, ∀ c ∈ x, c ∈ signTab) → PyData.canLayAll0 (R.map textD) = true ∧ PyData.depthAll (R.map textD) ≤ 1 := fun R h => by
    induction R with
    | nil => exact ⟨rfl, by simp [PyData.depthAll]⟩
    | cons x r ih =>
      obtain ⟨i1, i2⟩ := ih fun a ha => h a (List.mem_cons_of_mem _ ha)
      have hx := st_ok (h x (List.mem_cons_self ..))
      constructor
      · simp [PyData.canLayAll0, textD, PyData.canLay0, hx, i1]
      · simp only [List.map_cons, PyData.depthAll, textD, PyData.depth]; omega
  obtain ⟨a, b⟩ := h1 R h
  unfold SeqAt.shaped
  rw [show PyData.canLay0 (.list (R.map textD)) = true by simpa [PyData.canLay0] using a]
  rw [decide_eq_true (show PyData.depth (.list (R.map textD)) ≤ 64 by simp only [PyData.depth]; omega)]
  rfl
/-- a tree and what was told of it, as they were -/
def entD (p : Option Tr) : PyData := .tuple [oD p, .list ((rO p).map rowD)]
/-- all but what changes -/
def off (M : List Addr) (H : Hp) : Hp := fun a => if a ∈ M then none else H a
theorem off_some {M : List Addr} {H : Hp} {a : Addr} {o : HO} (h : off M H a = some o) : a ∉ M ∧ H a = some o := by
  unfold off at h
  by_cases e : a ∈ M
  · rw [if_pos e] at h; cases h
  · rw [if_neg e] at h; exact ⟨e, h⟩
theorem off_of {M : List Addr} {H : Hp} {a : Addr} {o : HO} (n : a ∉ M) (h : H a = some o) : off M H a = some o := by
  unfold off; rw [if_neg n]; exact h
theorem off_same (M : List Addr) (H : Hp) : Same (off M H) H := fun a o h => (off_some h).2
theorem off_mono {M M' : List Addr} {H H' : Hp} (m : ∀ a o, H a = some o → a ∈ M' → a ∈ M) (s : ∀ a o, a ∉ M → H a = some o → H' a = some o) : Same (off M H) (off M' H') := fun a o h => by
  obtain ⟨n, e⟩ := off_some h
  exact off_of (fun z => n (m a o e z)) (s a o n e)
theorem off_fr {x l : Addr} {H H' : Hp} (f : Fr x l H H') : Same (off [x, l] H) (off [x, l] H') := off_mono (fun _ _ _ h => h) fun a o n e => f a o (fun z => n (by rw [z]; simp)) (fun z => n (by rw [z]; simp)) e
theorem fr_off {x l : Addr} {H H' : Hp} (f : Fr x l H H') : Same (off [x, l] H) H' := (off_fr f).trans (off_same _ _)
/-- all trees taken back -/
def spNoMore (K : PySem.W.Frag) (C : Addr) : Sp := fun vs H Q _ => ∃ (x dx l : Addr) (o : Option Tr), vs = [.ref x] ∧ TrAt K C H x dx l o [] ∧ ∀ H', Same H H' → Q (.bl true) H'
def spLed (K : PySem.W.Frag) (C : Addr) : Sp := fun vs H Q _ => ∃ (x dx l : Addr) (o : Option Tr) (ps : List (Option Tr)) (L : Addr) (us : List V), vs = [.ref x, .ref L] ∧ TrAt K C H x dx l o ps ∧ GT o ∧ (∀ p ∈ ps, GT p) ∧ (ps ++ [o]).head? = some none ∧ ps.length ≤ 1000 ∧
  H L = some (.lst us) ∧ L ≠ x ∧ L ≠ l ∧ DpAll K (off [x, l] H) us (ps.map entD) ∧ ∀ H', Fr x l H H' → Q (.bl true) H'
theorem seqT {K : PySem.W.Frag} {H H' : Hp} {a : Addr} {xs : List V} (e : Same H H') (h : SqT K H a xs) : SqT K H' a xs := by
  rcases h with (h | ⟨o, h⟩) | h
  · exact .inl (.inl (e _ _ h))
  · exact .inl (.inr ⟨o, e _ _ h⟩)
  · exact .inr h
theorem ify {A B p : Prop} {i : Decidable p} (h : p) (a : A) : if decide p = true then A else B := by rw [decide_eq_true h]; exact iteT a
theorem ifn {A B p : Prop} {i : Decidable p} (h : ¬ p) (b : B) : if decide p = true then A else B := by rw [decide_eq_false h]; exact iteF b
theorem below_nil (R : List Row) : below [] R = R := List.filter_eq_self.mpr fun r _ => by simp [tk]
theorem thg_nil {K : PySem.W.Frag} {H : Hp} : Thg K H (.str (st [])) (some []) := ⟨rfl, by decide +kernel⟩
theorem thg_word {K : PySem.W.Frag} {H : Hp} {x : List Nat} (h : x.length ≤ 100000) : ∃ t, Thg K H (.str (st x)) t := ⟨_, thg_of h⟩
end RT

/-! trees walked from the top -/
namespace RT
open PySem PySem.Spec PyProof.Rows L2
def spStartBy (K : PySem.W.Frag) : Sp := fun vs H Q _ => ∃ (c : Int) (v : V) (xs : List (List Nat)), vs = [.int c, v] ∧ Dp K H v (.list (xs.map textD)) ∧ (∀ x ∈ xs, isNm x = true) ∧ ∀ (b : List Nat) (H' : Hp), Same H H' → isNm b = true → Q (.str (st b)) H'
def branchD (b : List Nat × Tr) : PyData := .tuple [.str (st b.1), b.2.toD]
def spIsEnd (K : PySem.W.Frag) : Sp := fun vs H Q _ => ∃ (v : V) (b : List Nat × Tr), vs = [v] ∧ Dp K H v (branchD b) ∧ (b.1 = [] → ∃ n, b.2 = .leaf [] n) ∧ ∀ H', Same H H' → Q (.bl true) H'
/-- the names, the knots of a tree walked -/
def givesW (K : PySem.W.Frag) (H : Hp) (t : Tr) (s : List Nat) (Q : VK) : Prop := ∀ (pw L1 L2 : Addr) (a1 a2 : List V) (H' : Hp), Same H H' → H' pw = some (.tup [.ref L1, .ref L2]) → H' L1 = some (.lst a1) → H' L2 = some (.lst a2) → DpAll K H' a1 ((t.rws.map (pre s)).map rowD) → DpAll K H' a2 ((t.kn.map (pre s)).map rowD) → Q (.ref pw) H'
def spWalk (K : PySem.W.Frag) (n : Nat) : Sp := fun vs H Q _ => ∃ (v : V) (t : Tr) (s : List Nat), vs = [v, .str (st s)] ∧ Dp K H v t.toD ∧ Fits t ∧ t.deep < n ∧ (∀ x m, (x, m) ∈ t.rws → s.length + x.length ≤ 1000) ∧ givesW K H t s Q
theorem lst_row {K : PySem.W.Frag} {H : Hp} {c L : Addr} {x : List Nat} {m : Int} (nc : H c = none) (nL : upd H c (.tup [.str (st x), .int m]) L = none) :
    Same H (upd (upd H c (.tup [.str (st x), .int m])) L (.lst [.ref c])) ∧ upd (upd H c (.tup [.str (st x), .int m])) L (.lst [.ref c]) L = some (.lst [.ref c]) ∧ DpAll K (upd (upd H c (.tup [.str (st x), .int m])) L (.lst [.ref c])) [.ref c] ([(x, m)].map rowD) :=
  ⟨(same_new nc _).trans (same_new nL _), upd_same, .cons (Dp_same (same_new nL _) (Dp_new nc (.cons (.str _) (.cons (.int _) .nil)))) .nil⟩
theorem pre_nil (R : List Row) : R.map (pre []) = R := (List.map_congr_left fun r _ => rfl).trans (List.map_id _)
theorem walk_last {K : PySem.W.Frag} {σ : L2.St} {H : Hp} {F : Bool → Hp → Prop} {y4 z : V} {pb : Addr} {x : List Nat} (h4 : σ[4]? = some (some y4)) (h5 : σ[5]? = some (some (.ref pb))) (hp : SqT K H pb [.str (st x), z]) (hy : y4 = .non ∨ ∃ y, y4 = .str (st y) ∧ y < x) (G : F false H) :
    tAnd (tTest (tOp (fun x y H Q => y = V.non ∧ Q (V.bl !decide (x = V.non)) H) (tVar 4) (tC V.non))) (tTest (tOp (fun x y H Q => ∃ i j, x = V.str i ∧ y = V.str j ∧ Q (V.bl !decide (j.cps.toList < i.cps.toList)) H) (tOp (rIxT K) (tVar 5) (tC (V.int 0))) (tVar 4))) σ H F := by
  rcases hy with rfl | ⟨y, rfl, hy⟩
  · exact ⟨_, h4, rfl, _, rfl, iteF G⟩
  · refine ⟨_, h4, rfl, _, rfl, iteT ⟨_, h5, pb, _, _, _, rfl, rfl, hp, (rfl : atI [V.str (st x), z] 0 = some (V.str (st x))), _, h4, _, _, rfl, rfl, _, rfl, ?_⟩⟩
    rw [show (!decide ((st y).cps.toList < (st x).cps.toList)) = false by
      rw [Bool.not_eq_false', decide_eq_true_iff]; exact hy]
    exact G
/-- the beginnings of a text, by threes, and their numbers -/
def bg (w : List Nat) (i : Nat) : Row := (w.take (3 * i), (i : Int))
theorem bg_up {w : List Nat} {n : Nat} (h : 3 * n ≤ w.length + 3) : Up ((List.range n).map (bg w)) := up_range fun i j hij hj => take_lt (by omega) (by omega)
theorem bg_put {w : List Nat} {n : Nat} (h : 3 * n ≤ w.length) {R S : List Row} (eR : R = (List.range n).map (bg w)) (p : putR R (w.take (3 * n)) (n : Int) S) : S = (List.range (n + 1)).map (bg w) := by
  subst eR
  refine up_ext p.1 (bg_up (by omega)) fun r => ?_
  rw [show r = (r.1, r.2) from rfl, p.2 r.1 r.2, List.range_succ, List.map_append, List.mem_append]
  simp only [List.mem_map, List.mem_range, List.map_cons, List.map_nil, List.mem_singleton]
  constructor
  · rintro (⟨h, _⟩ | ⟨e1, e2⟩)
    · exact .inl h
    · exact .inr (Prod.ext e1 e2)
  · rintro (⟨j, hj, e⟩ | e)
    · refine .inl ⟨⟨j, hj, e⟩, fun z => ?_⟩
      have e1 : w.take (3 * j) = r.1 := congrArg Prod.fst e
      have := congrArg List.length (e1.trans z)
      simp only [List.length_take] at this
      omega
    · exact .inr ⟨congrArg Prod.fst e, congrArg Prod.snd e⟩
theorem same_fr {H0 H H' : Hp} {x l : Addr} (s : Same H0 H) (nx : H0 x = none) (nl : H0 l = none) (f : Fr x l H H') : Same H0 H' := fun b o e => f b o (ne_of_none e nx) (ne_of_none e nl) (s b o e)
def spRight (K : PySem.W.Frag) (C : Addr) : Sp := fun vs H Q _ => ∃ (x dx l : Addr) (o : Option Tr) (ps : List (Option Tr)) (b : List Nat), vs = [.ref x, .str (st b)] ∧ TrAt K C H x dx l o ps ∧ GT o ∧ isNm b = true ∧ ∀ H', Same H H' → Q (.bl true) H'
end RT

namespace RT
open PySem PySem.Spec PyProof.Rows L2
def topS (i : Nat) : Stmt := PySem.Challenge.pw_radixtrail_k13_whole_no_single_child.main.body.getD i (.Pass ⟨0, 0, 0, 0⟩)
abbrev sPwall : Stmt := topS 0
abbrev pPwall : List Str := ["k"]
theorem cPwall : FnScope ["k"] ["k"] (defScope sPwall) := ⟨rfl, rfl, rfl, by decide +kernel, rfl, by decide +kernel, by decide +kernel⟩
abbrev sinner_of : Stmt := topS 10
abbrev pinner_of : List Str := ["branches", "sign"]
theorem cinner_of : FnScope ["branches", "sign", "own_sign", "tree"] ["branches", "sign"] (defScope sinner_of) := ⟨rfl, rfl, rfl, by decide +kernel, rfl, by decide +kernel, by decide +kernel⟩
abbrev splaced : Stmt := topS 11
abbrev pplaced : List Str := ["branches", "branch"]
theorem cplaced : FnScope ["branches", "branch", "sign", "lower", "higher", "pair"] ["branches", "branch"] (defScope splaced) := ⟨rfl, rfl, rfl, by decide +kernel, rfl, by decide +kernel, by decide +kernel⟩
abbrev sbranches_behind : Stmt := topS 12
abbrev pbranches_behind : List Str := ["tree", "beginning"]
theorem cbranches_behind : FnScope ["tree", "beginning", "kind", "text", "held", "behind"] ["tree", "beginning"] (defScope sbranches_behind) := ⟨rfl, rfl, rfl, by decide +kernel, rfl, by decide +kernel, by decide +kernel⟩
abbrev sreplaced : Stmt := topS 13
abbrev preplaced : List Str := ["fork", "sign", "inner"]
theorem creplaced : FnScope ["fork", "sign", "inner", "_", "shared", "branches", "left", "last_sign", "kind", "text", "held", "branch"] ["fork", "sign", "inner"] (defScope sreplaced) := ⟨rfl, rfl, rfl, by decide +kernel, rfl, by decide +kernel, by decide +kernel⟩
abbrev sis_name : Stmt := topS 17
abbrev pis_name : List Str := ["thing"]
theorem cis_name : FnScope ["thing", "sign"] ["thing"] (defScope sis_name) := ⟨rfl, rfl, rfl, by decide +kernel, rfl, by decide +kernel, by decide +kernel⟩
abbrev sPis_sign : Stmt := topS 18
abbrev pPis_sign : List Str := ["sign"]
theorem cPis_sign : FnScope ["sign"] ["sign"] (defScope sPis_sign) := ⟨rfl, rfl, rfl, by decide +kernel, rfl, by decide +kernel, by decide +kernel⟩
abbrev scommon : Stmt := topS 19
abbrev pcommon : List Str := ["one", "other"]
theorem ccommon : FnScope ["one", "other", "many", "sign", "other_sign"] ["one", "other"] (defScope scommon) := ⟨rfl, rfl, rfl, by decide +kernel, rfl, by decide +kernel, by decide +kernel⟩
abbrev srest : Stmt := topS 20
abbrev prest : List Str := ["name", "beginning"]
theorem crest : FnScope ["name", "beginning"] ["name", "beginning"] (defScope srest) := ⟨rfl, rfl, rfl, by decide +kernel, rfl, by decide +kernel, by decide +kernel⟩
abbrev sfound : Stmt := topS 22
abbrev pfound : List Str := ["tree", "name"]
theorem cfound : FnScope ["tree", "name", "kind", "text", "held", "behind"] ["tree", "name"] (defScope sfound) := ⟨rfl, rfl, rfl, by decide +kernel, rfl, by decide +kernel, by decide +kernel⟩
abbrev sput : Stmt := topS 23
abbrev pput : List Str := ["tree", "name", "number"]
theorem cput : FnScope ["tree", "name", "number", "shared", "branches", "behind", "sign", "inner"] ["tree", "name", "number"] (defScope sput) := ⟨rfl, rfl, rfl, by decide +kernel, rfl, by decide +kernel, by decide +kernel⟩
abbrev swithout : Stmt := topS 24
abbrev pwithout : List Str := ["tree", "name"]
theorem cwithout : FnScope ["tree", "name"] ["tree", "name"] (defScope swithout) := ⟨rfl, rfl, rfl, by decide +kernel, rfl, by decide +kernel, by decide +kernel⟩
abbrev sPless : Stmt := topS 25
abbrev pPless : List Str := ["tree", "name"]
theorem cPless : FnScope ["tree", "name", "kind", "text", "held", "behind", "sign"] ["tree", "name"] (defScope sPless) := ⟨rfl, rfl, rfl, by decide +kernel, rfl, by decide +kernel, by decide +kernel⟩
abbrev sahead : Stmt := topS 26
abbrev pahead : List Str := ["tree", "beginning"]
theorem cahead : FnScope ["tree", "beginning", "kind", "text", "held"] ["tree", "beginning"] (defScope sahead) := ⟨rfl, rfl, rfl, by decide +kernel, rfl, by decide +kernel, by decide +kernel⟩
abbrev snames : Stmt := topS 27
abbrev pnames : List Str := ["tree"]
theorem cnames : FnScope ["tree", "kind", "text", "held", "pairs", "sign", "inner", "name", "number"] ["tree"] (defScope snames) := ⟨rfl, rfl, rfl, by decide +kernel, rfl, by decide +kernel, by decide +kernel⟩
abbrev sknots : Stmt := topS 28
abbrev pknots : List Str := ["tree"]
theorem cknots : FnScope ["tree", "kind", "text", "held", "pairs", "sign", "inner", "behind", "many"] ["tree"] (defScope sknots) := ⟨rfl, rfl, rfl, by decide +kernel, rfl, by decide +kernel, by decide +kernel⟩
abbrev scut : Stmt := topS 30
abbrev pcut : List Str := ["tree", "beginning"]
theorem ccut : FnScope ["tree", "beginning", "kind", "text", "held", "behind", "sign", "left", "taken"] ["tree", "beginning"] (defScope scut) := ⟨rfl, rfl, rfl, by decide +kernel, rfl, by decide +kernel, by decide +kernel⟩
abbrev sjoined : Stmt := topS 31
abbrev pjoined : List Str := ["one", "other"]
theorem cjoined : FnScope ["one", "other", "shared", "branches", "sign", "inner"] ["one", "other"] (defScope sjoined) := ⟨rfl, rfl, rfl, by decide +kernel, rfl, by decide +kernel, by decide +kernel⟩
abbrev smoved : Stmt := topS 32
abbrev pmoved : List Str := ["tree", "beginning", "other"]
theorem cmoved : FnScope ["tree", "beginning", "other", "left", "taken"] ["tree", "beginning", "other"] (defScope smoved) := ⟨rfl, rfl, rfl, by decide +kernel, rfl, by decide +kernel, by decide +kernel⟩
abbrev scopied : Stmt := topS 33
abbrev pcopied : List Str := ["tree", "beginning", "other"]
theorem ccopied : FnScope ["tree", "beginning", "other", "_", "taken"] ["tree", "beginning", "other"] (defScope scopied) := ⟨rfl, rfl, rfl, by decide +kernel, rfl, by decide +kernel, by decide +kernel⟩
abbrev sPparted : Stmt := topS 34
abbrev pPparted : List Str := ["tree", "beginning"]
theorem cPparted : FnScope ["tree", "beginning", "left", "taken"] ["tree", "beginning"] (defScope sPparted) := ⟨rfl, rfl, rfl, by decide +kernel, rfl, by decide +kernel, by decide +kernel⟩
abbrev sunder : Stmt := topS 36
abbrev punder : List Str := ["tree", "beginning"]
theorem cunder : FnScope ["tree", "beginning", "behind", "number"] ["tree", "beginning"] (defScope sunder) := ⟨rfl, rfl, rfl, by decide +kernel, rfl, by decide +kernel, by decide +kernel⟩
abbrev smany : Stmt := topS 37
abbrev pmany : List Str := ["tree", "beginning"]
theorem cmany : FnScope ["tree", "beginning"] ["tree", "beginning"] (defScope smany) := ⟨rfl, rfl, rfl, by decide +kernel, rfl, by decide +kernel, by decide +kernel⟩
abbrev sPbelow : Stmt := topS 38
abbrev pPbelow : List Str := ["tree", "beginning"]
theorem cPbelow : FnScope ["tree", "beginning", "_", "taken"] ["tree", "beginning"] (defScope sPbelow) := ⟨rfl, rfl, rfl, by decide +kernel, rfl, by decide +kernel, by decide +kernel⟩
abbrev sPrefuse_no_names : Stmt := topS 42
abbrev pPrefuse_no_names : List Str := ["things"]
theorem cPrefuse_no_names : FnScope ["things", "thing"] ["things"] (defScope sPrefuse_no_names) := ⟨rfl, rfl, rfl, by decide +kernel, rfl, by decide +kernel, by decide +kernel⟩
abbrev sPrefuse_long_names : Stmt := topS 43
abbrev pPrefuse_long_names : List Str := ["tree", "beginning", "other"]
theorem cPrefuse_long_names : FnScope ["tree", "beginning", "other", "name", "_"] ["tree", "beginning", "other"] (defScope sPrefuse_long_names) := ⟨rfl, rfl, rfl, by decide +kernel, rfl, by decide +kernel, by decide +kernel⟩
abbrev sPof_size : Stmt := topS 44
abbrev pPof_size : List Str := ["tree"]
theorem cPof_size : FnScope ["tree"] ["tree"] (defScope sPof_size) := ⟨rfl, rfl, rfl, by decide +kernel, rfl, by decide +kernel, by decide +kernel⟩
abbrev sLcell_at : Stmt := topS 46
abbrev pLcell_at : List Str := ["_law_script", "_law_k"]
theorem cLcell_at : FnScope ["_law_script", "_law_k"] ["_law_script", "_law_k"] (defScope sLcell_at) := ⟨rfl, rfl, rfl, by decide +kernel, rfl, by decide +kernel, by decide +kernel⟩
abbrev sLwhole : Stmt := topS 47
abbrev pLwhole : List Str := ["_law_told"]
theorem cLwhole : FnScope ["_law_told"] ["_law_told"] (defScope sLwhole) := ⟨rfl, rfl, rfl, by decide +kernel, rfl, by decide +kernel, by decide +kernel⟩
abbrev sLsign_by : Stmt := topS 48
abbrev pLsign_by : List Str := ["_law_cell"]
theorem cLsign_by : FnScope ["_law_cell", "_law_some"] ["_law_cell"] (defScope sLsign_by) := ⟨rfl, rfl, rfl, by decide +kernel, rfl, by decide +kernel, by decide +kernel⟩
abbrev sLword_by : Stmt := topS 49
abbrev pLword_by : List Str := ["_law_cell", "_law_size"]
theorem cLword_by : FnScope ["_law_cell", "_law_size", "_law_made", "_law_number", "_law_k"] ["_law_cell", "_law_size"] (defScope sLword_by) := ⟨rfl, rfl, rfl, by decide +kernel, rfl, by decide +kernel, by decide +kernel⟩
abbrev sLnumber_by : Stmt := topS 50
abbrev pLnumber_by : List Str := ["_law_cell"]
theorem cLnumber_by : FnScope ["_law_cell", "_law_size", "_law_number", "_law_mixed", "_law_k"] ["_law_cell"] (defScope sLnumber_by) := ⟨rfl, rfl, rfl, by decide +kernel, rfl, by decide +kernel, by decide +kernel⟩
abbrev sLalike : Stmt := topS 51
abbrev pLalike : List Str := ["_law_told", "_law_due"]
theorem cLalike : FnScope ["_law_told", "_law_due", "_law_k"] ["_law_told", "_law_due"] (defScope sLalike) := ⟨rfl, rfl, rfl, by decide +kernel, rfl, by decide +kernel, by decide +kernel⟩
abbrev sLtext_by : Stmt := topS 52
abbrev pLtext_by : List Str := ["_law_cell", "_law_held"]
theorem cLtext_by : FnScope ["_law_cell", "_law_held", "_law_size", "_law_word", "_law_old"] ["_law_cell", "_law_held"] (defScope sLtext_by) := ⟨rfl, rfl, rfl, by decide +kernel, rfl, by decide +kernel, by decide +kernel⟩
abbrev sLother_by : Stmt := topS 53
abbrev pLother_by : List Str := ["_law_cell", "_law_held"]
theorem cLother_by : FnScope ["_law_cell", "_law_held"] ["_law_cell", "_law_held"] (defScope sLother_by) := ⟨rfl, rfl, rfl, by decide +kernel, rfl, by decide +kernel, by decide +kernel⟩
abbrev sLdeed : Stmt := topS 54
abbrev pLdeed : List Str := ["_law_trail", "_law_cell"]
theorem cLdeed : FnScope ["_law_trail", "_law_cell", "_law_way", "_law_pair", "_law_held", "_law_one", "_law_other", "_law_number"] ["_law_trail", "_law_cell"] (defScope sLdeed) := ⟨rfl, rfl, rfl, by decide +kernel, rfl, by decide +kernel, by decide +kernel⟩
abbrev sLstart_by : Stmt := topS 55
abbrev pLstart_by : List Str := ["_law_cell", "_law_held"]
theorem cLstart_by : FnScope ["_law_cell", "_law_held", "_law_start"] ["_law_cell", "_law_held"] (defScope sLstart_by) := ⟨rfl, rfl, rfl, by decide +kernel, rfl, by decide +kernel, by decide +kernel⟩
abbrev sLis_end : Stmt := topS 56
abbrev pLis_end : List Str := ["_law_branch"]
theorem cLis_end : FnScope ["_law_branch"] ["_law_branch"] (defScope sLis_end) := ⟨rfl, rfl, rfl, by decide +kernel, rfl, by decide +kernel, by decide +kernel⟩
abbrev sLwalk : Stmt := topS 57
abbrev pLwalk : List Str := ["_law_tree", "_law_start"]
theorem cLwalk : FnScope ["_law_tree", "_law_start", "_law_rows", "_law_seen", "_law_last", "_law_branch", "_law_more"] ["_law_tree", "_law_start"] (defScope sLwalk) := ⟨rfl, rfl, rfl, by decide +kernel, rfl, by decide +kernel, by decide +kernel⟩
abbrev sLright : Stmt := topS 58
abbrev pLright : List Str := ["_law_trail", "_law_start"]
theorem cLright : FnScope ["_law_trail", "_law_start", "_law_tree", "_law_walked", "_law_k", "_law_below", "_law_row"] ["_law_trail", "_law_start"] (defScope sLright) := ⟨rfl, rfl, rfl, by decide +kernel, rfl, by decide +kernel, by decide +kernel⟩
abbrev slaw : Stmt := topS 59
abbrev plaw : List Str := ["_law_script"]
theorem claw : FnScope ["_law_script", "_law_trail", "_law_word", "_law_count", "_law_k", "_law_cell", "_law_tree", "_law_first", "_law_held", "_law_pair"] ["_law_script"] (defScope slaw) := ⟨rfl, rfl, rfl, by decide +kernel, rfl, by decide +kernel, by decide +kernel⟩
abbrev sT_init : Stmt := inClass (topS 41) 0
abbrev pT_init : List Str := ["self"]
theorem cT_init : FnScope ["self"] ["self"] (defScope sT_init) := ⟨rfl, rfl, rfl, by decide +kernel, rfl, by decide +kernel, by decide +kernel⟩
abbrev sT_keep : Stmt := inClass (topS 41) 1
abbrev pT_keep : List Str := ["self", "name", "number"]
theorem cT_keep : FnScope ["self", "name", "number", "had"] ["self", "name", "number"] (defScope sT_keep) := ⟨rfl, rfl, rfl, by decide +kernel, rfl, by decide +kernel, by decide +kernel⟩
abbrev sT_drop : Stmt := inClass (topS 41) 2
abbrev pT_drop : List Str := ["self", "name"]
theorem cT_drop : FnScope ["self", "name", "had"] ["self", "name"] (defScope sT_drop) := ⟨rfl, rfl, rfl, by decide +kernel, rfl, by decide +kernel, by decide +kernel⟩
abbrev sT_prune : Stmt := inClass (topS 41) 3
abbrev pT_prune : List Str := ["self", "beginning"]
theorem cT_prune : FnScope ["self", "beginning", "left", "taken"] ["self", "beginning"] (defScope sT_prune) := ⟨rfl, rfl, rfl, by decide +kernel, rfl, by decide +kernel, by decide +kernel⟩
abbrev sT_move : Stmt := inClass (topS 41) 4
abbrev pT_move : List Str := ["self", "beginning", "other"]
theorem cT_move : FnScope ["self", "beginning", "other", "moving"] ["self", "beginning", "other"] (defScope sT_move) := ⟨rfl, rfl, rfl, by decide +kernel, rfl, by decide +kernel, by decide +kernel⟩
abbrev sT_graft : Stmt := inClass (topS 41) 5
abbrev pT_graft : List Str := ["self", "beginning", "other"]
theorem cT_graft : FnScope ["self", "beginning", "other", "copying"] ["self", "beginning", "other"] (defScope sT_graft) := ⟨rfl, rfl, rfl, by decide +kernel, rfl, by decide +kernel, by decide +kernel⟩
abbrev sT_back : Stmt := inClass (topS 41) 6
abbrev pT_back : List Str := ["self"]
theorem cT_back : FnScope ["self"] ["self"] (defScope sT_back) := ⟨rfl, rfl, rfl, by decide +kernel, rfl, by decide +kernel, by decide +kernel⟩
abbrev sT_told : Stmt := inClass (topS 41) 7
abbrev pT_told : List Str := ["self", "beginning"]
theorem cT_told : FnScope ["self", "beginning"] ["self", "beginning"] (defScope sT_told) := ⟨rfl, rfl, rfl, by decide +kernel, rfl, by decide +kernel, by decide +kernel⟩
abbrev sT_tree : Stmt := inClass (topS 41) 8
abbrev pT_tree : List Str := ["self"]
theorem cT_tree : FnScope ["self"] ["self"] (defScope sT_tree) := ⟨rfl, rfl, rfl, by decide +kernel, rfl, by decide +kernel, by decide +kernel⟩
abbrev sT_size : Stmt := inClass (topS 41) 9
abbrev pT_size : List Str := ["self"]
theorem cT_size : FnScope ["self"] ["self"] (defScope sT_size) := ⟨rfl, rfl, rfl, by decide +kernel, rfl, by decide +kernel, by decide +kernel⟩
abbrev sT_do : Stmt := inClass (topS 41) 10
abbrev pT_do : List Str := ["self", "tree"]
theorem cT_do : FnScope ["self", "tree"] ["self", "tree"] (defScope sT_do) := ⟨rfl, rfl, rfl, by decide +kernel, rfl, by decide +kernel, by decide +kernel⟩
end RT
namespace RT
open PySem PySem.Spec PyProof.Rows L2
section
variable {P : Program} {w : World} {K : PySem.W.Frag} {mg : Str → Option Value} {base : Heap} {f g : Addr} {fd gd : FuncData} {k : Nat}
theorem ok_Lcell_at (F : Fun K "_law_cell_at" "_law_cell_at" sLcell_at f fd) (m_len : mg "len" = none) :
    FnOk P w K mg base CX0 1 f fd pLcell_at (spCell K) := by
  refine F.ok cLcell_at (fun vs H Q E h => ?_) (fun cdv A outer s H vs Q E hr h => ?_)
  · obtain ⟨a, ns, k, rfl, _⟩ := h
    rfl
  obtain ⟨a, ns, k, rfl, hS, h0, q⟩ := h
  refine ⟨_, (pss_cons (ps_if (pt_cmpR op_lt (pv 1) (pe_callB call_len_seq (by rfl) m_len (by decide +kernel) (pa_cons (pv 0) pa_nil)) (nomark _)) (pss_one (ps_ret (pe_ix (r := rIxL K) ix_list (pv 0) (pv 1) (fun _ _ => rfl)))) pss_nil)
    (pss_one (ps_ret pe_int))), ?_⟩
  have hl : (ns.map V.int).length = ns.length := List.length_map _
  refine ⟨_, rfl, _, rfl, a, _, rfl, .inl hS, _, _, rfl, rfl, _, rfl, ?_⟩
  refine ite2 (fun c => ?_) (fun c => ?_)
  · have c' : k < (((ns.map V.int).length : Nat) : Int) := of_decide_eq_true c
    rw [hl] at c'
    have hk : k.toNat < ns.length := by omega
    have hv : atI (ns.map V.int) k = some (.int (cell ns k)) := at_of (j := k.toNat) (by omega) (by
      unfold cell; rw [List.getElem?_map, List.getElem?_eq_getElem hk] <;> rfl)
    exact ⟨_, rfl, _, rfl, a, _, _, _, rfl, rfl, hS, hv, q⟩
  · have c' : ¬ k < (((ns.map V.int).length : Nat) : Int) := of_decide_eq_false (Bool.eq_false_iff.mpr c)
    rw [hl] at c'
    have e : cell ns k = 0 := by unfold cell; rw [List.getElem?_eq_none (by omega)] <;> rfl
    rw [e] at q
    exact q
theorem ok_Lsign_by (F : Fun K "_law_sign_by" "_law_sign_by" sLsign_by f fd) :
    FnOk P w K mg base CX0 1 f fd pLsign_by (spSign) := by
  refine F.ok cLsign_by (fun vs H Q E h => ?_) (fun cdv A outer s H vs Q E hr h => ?_)
  · obtain ⟨c, rfl, _⟩ := h
    rfl
  obtain ⟨c, rfl, q⟩ := h
  refine ⟨_, (pss_cons (ps_set (i := 1) cLsign_by.nd rfl (Or.inl rfl) pe_str)
    (pss_cons (ps_set (i := 1) cLsign_by.nd rfl (Or.inl rfl) (pe_op op_add_str (pv 1) pe_str))
    (pss_one (ps_ret (pe_ix ix_str (pv 1) (pe_op op_mod (pv 0) pe_int) (fun _ _ => rfl)))))), ?_⟩
  refine ⟨_, rfl, _, _, rfl, rfl, (by decide +kernel), ?_⟩
  refine ⟨_, rfl, _, rfl, _, _, rfl, rfl, (by show (0 : Int) < 94; decide), _, _, sgn c, rfl, rfl, (by decide +kernel), ?_, q⟩
  have e : ((Str.ofString " !\"#$&'()*+,-./0123456789:;<=>?@ABCDEFGHIJKLMNOPQRSTUVWXYZ[\\]^_`" ++ Str.ofString "abcdefghijklmnopqrstuvwxyz{|}~" : Str)).cps.toList = signTab := by decide +kernel
  rw [e]
  have hz : c % 94 = (((c % 94).toNat : Nat) : Int) := by omega
  have hq := atI_nat (xs := signTab) (sgn_at c)
  rw [← hz] at hq
  exact hq
theorem ok_Lword_by (F : Fun K "_law_word_by" "_law_word_by" sLword_by f fd)
    (G_Lsign_by : Has P w K mg base "_law_sign_by" pLsign_by 1 (spSign)) (m_range : mg "range" = none) :
    FnOk P w K mg base CX0 2 f fd pLword_by (spWord) := by
  refine F.ok cLword_by (fun vs H Q E h => ?_) (fun cdv A outer s H vs Q E hr h => ?_)
  · obtain ⟨c, n, rfl, _⟩ := h
    rfl
  obtain ⟨c, n, rfl, hn0, hn, q⟩ := h
  refine ⟨_, (pss_cons (ps_set (i := 2) cLword_by.nd rfl (Or.inl rfl) pe_str)
    (pss_cons (ps_set (i := 3) cLword_by.nd rfl (Or.inl rfl) (pv 0))
    (pss_cons (ps_for PassesOwn.never rfl (pi_range1 (by rfl) m_range (pa_cons (pv 1) pa_nil)) (pg_name (i := 4) cLword_by.nd rfl (Or.inl rfl)) (pss_cons (ps_set (i := 3) cLword_by.nd rfl (Or.inl rfl) (pe_op op_mod (pe_op op_add (pe_op op_mul (pv 3) pe_int) pe_int) pe_int))
    (pss_one (ps_set (i := 2) cLword_by.nd rfl (Or.inl rfl) (pe_op op_add_str (pv 2) (pe_has G_Lsign_by hr (by omega) (pa_cons (pe_op op_add pe_int (pe_op op_mod (pe_op op_fdiv (pv 3) pe_int) (pe_ix (r := rIxL K) ix_list (pe_lst (pa_cons pe_int (pa_cons pe_int pa_nil))) (pe_op op_mod (pv 0) pe_int) (fun _ _ => rfl)))) pa_nil)))))))
    (pss_one (ps_ret (pv 2)))))), ?_⟩
  refine ⟨_, rfl, _, rfl, n, rfl, by omega, by omega, for_range (lo := 0) (n := n.toNat) (fun i σ H' => ∃ y4, σ = [some (.int c), some (.int n), some (.str (st (wordGo c i).2)), some (.int (wordGo c i).1), y4] ∧ Same H H')
    ⟨none, rfl, Same.refl H⟩ (fun i σ H1 hi h1 => ?_) (fun σ H1 h1 => ?_)⟩
  · obtain ⟨y4, rfl, s1⟩ := h1
    refine ⟨_, rfl, _, _, rfl, rfl, .inr ⟨by decide, by decide⟩, _, _, rfl, rfl, _, _, rfl, rfl, (by show (0 : Int) < 2147483647; decide), ?_⟩
    refine ⟨_, rfl, _, rfl, _, _, rfl, rfl, ⟨by decide, by decide⟩, (by show 2 ≤ sizeLine; decide), fun p hp => ?_⟩
    have hz : c % 2 = 0 ∨ c % 2 = 1 := by omega
    refine ⟨_, rfl, _, _, rfl, rfl, (by show (0 : Int) < 2; decide), p, _, _, .int (if c % 2 = 0 then 2 else 94), rfl, rfl, SqL.of upd_same, ?_, _, _, rfl, rfl, ?_, _, _, rfl, rfl, ?_⟩
    · rcases hz with z | z <;> rw [z] <;> rfl
    · show (0 : Int) < (if c % 2 = 0 then 2 else 94)
      split <;> decide
    refine ⟨_, rfl, _, _, rfl, rfl, ?_, ?_⟩
    · rw [st_len, st_len, wordGo_len]
      exact smallZ (by simp; omega)
    · refine ⟨some (.int (0 + i)), ?_, s1.trans (same_new hp _)⟩
      rw [st_add]
      rfl
  · obtain ⟨y4, rfl, s1⟩ := h1
    exact ⟨_, rfl, q _ s1⟩
theorem ok_Lwhole (F : Fun K "_law_whole" "_law_whole" sLwhole f fd) (m_isinstance : mg "isinstance" = none) (m_int : mg "int" = none) (m_bool : mg "bool" = none) :
    FnOk P w K mg base CX0 1 f fd pLwhole (spWhole K) := by
  refine F.ok cLwhole (fun vs H Q E h => ?_) (fun cdv A outer s H vs Q E hr h => ?_)
  · obtain ⟨v, i, rfl, _⟩ := h
    rfl
  obtain ⟨v, i, rfl, hv, q⟩ := h
  refine ⟨_, (pss_one (ps_ret (pe_and (pe_callB call_isi (by rfl) m_isinstance (by decide +kernel) (pa_cons (pv 0) (pa_cons (pe_bltn rfl m_int (by decide +kernel) (v := .ty "int") rfl) pa_nil))) (pe_one (pe_not (pe_callB call_isi (by rfl) m_isinstance (by decide +kernel) (pa_cons (pv 0) (pa_cons (pe_bltn rfl m_bool (by decide +kernel) (v := .ty "bool") rfl) pa_nil)))))))), ?_⟩
  refine ⟨_, rfl, _, _, _, _, true, rfl, .ty _, tyx_of hv, kit_ty (by simp only [tyN]; decide +kernel), ⟨true, rfl, iteT ?_⟩⟩
  exact ⟨_, rfl, _, _, _, _, false, rfl, .ty _, tyx_of hv, kit_ty (by simp only [tyN]; decide +kernel), ⟨false, rfl, q⟩⟩
theorem ok_Lnumber_by (F : Fun K "_law_number_by" "_law_number_by" sLnumber_by f fd) (m_range : mg "range" = none) :
    FnOk P w K mg base CX0 1 f fd pLnumber_by (spNum) := by
  refine F.ok cLnumber_by (fun vs H Q E h => ?_) (fun cdv A outer s H vs Q E hr h => ?_)
  · obtain ⟨c, rfl, _⟩ := h
    rfl
  obtain ⟨c, rfl, q⟩ := h
  refine ⟨_, (pss_cons (ps_if (pt_cmpR op_gt (pe_op op_mod (pv 0) pe_int) pe_int (nomark _)) (pss_one (ps_ret (pe_op op_sub (pe_op op_mod (pe_op op_fdiv (pv 0) pe_int) pe_int) pe_int))) pss_nil)
    (pss_cons (ps_set (i := 1) cLnumber_by.nd rfl (Or.inl rfl) (pe_ix (r := rIxL K) ix_list (pe_lst (pa_cons pe_int (pa_cons (pe_op op_add pe_int (pe_op op_mod (pe_op op_fdiv (pv 0) pe_int) pe_int)) pa_nil))) (pe_op op_mod (pv 0) pe_int) (fun _ _ => rfl)))
    (pss_cons (ps_set (i := 2) cLnumber_by.nd rfl (Or.inl rfl) pe_int)
    (pss_cons (ps_set (i := 3) cLnumber_by.nd rfl (Or.inl rfl) (pv 0))
    (pss_cons (ps_for PassesOwn.never rfl (pi_range1 (by rfl) m_range (pa_cons (pv 1) pa_nil)) (pg_name (i := 4) cLnumber_by.nd rfl (Or.inl rfl)) (pss_cons (ps_set (i := 3) cLnumber_by.nd rfl (Or.inl rfl) (pe_op op_mod (pe_op op_add (pe_op op_mul (pv 3) pe_int) pe_int) pe_int))
    (pss_one (ps_set (i := 2) cLnumber_by.nd rfl (Or.inl rfl) (pe_op op_add (pe_op op_mul (pv 2) pe_int) (pe_op op_mod (pe_op op_fdiv (pv 3) pe_int) pe_int))))))
    (pss_one (ps_ret (pe_op op_mul (pe_ix (r := rIxL K) ix_list (pe_lst (pa_cons pe_int (pa_cons (pe_un un_neg pe_int) pa_nil))) (pe_op op_mod (pe_op op_fdiv (pv 0) pe_int) pe_int) (fun _ _ => rfl)) (pv 2))))))))), ?_⟩
  refine ⟨_, rfl, _, _, rfl, rfl, (by show (0 : Int) < 5; decide), _, _, rfl, rfl, _, rfl, ite2 (fun z => ?_) (fun z => ?_)⟩
  · have z' : c % 5 > 1 := of_decide_eq_true z
    refine ⟨_, rfl, _, _, rfl, rfl, ⟨by decide, by decide⟩, _, _, rfl, rfl, (by show (0 : Int) < 39; decide), _, _, rfl, rfl, ?_⟩
    have e : numOf c = c / 5 % 39 - 19 := by unfold numOf; rw [if_pos z']
    have q' := q H (Same.refl H)
    rw [e] at q'
    exact q'
  · have z' : ¬ c % 5 > 1 := of_decide_eq_false (Bool.eq_false_iff.mpr z)
    have hz : c % 5 = 0 ∨ c % 5 = 1 := by omega
    refine ⟨_, rfl, _, _, rfl, rfl, ⟨by decide, by decide⟩, _, _, rfl, rfl, (by show (0 : Int) < 60; decide), _, _, rfl, rfl, (by show 2 ≤ sizeLine; decide), fun p hp => ?_⟩
    refine ⟨_, rfl, _, _, rfl, rfl, (by show (0 : Int) < 5; decide), p, _, _, .int (if c % 5 = 0 then 60 else 1 + c / 10 % 60), rfl, rfl, SqL.of upd_same, ?_, ?_⟩
    · rcases hz with z | z <;> rw [z] <;> rfl
    generalize hn : (if c % 5 = 0 then (60 : Int) else 1 + c / 10 % 60) = n
    have hn' : 0 ≤ n ∧ n ≤ 60 := by
      rw [← hn]; split
      · omega
      · have h1 : 0 ≤ c / 10 % 60 := by omega
        have h2 : c / 10 % 60 < 60 := by omega
        omega
    refine ⟨_, rfl, ?_⟩
    refine ⟨_, rfl, n, rfl, by omega, by omega, for_range (lo := 0) (n := n.toNat) (fun i σ H' => ∃ y4, σ = [some (.int c), some (.int n), some (.int (numGo c i).2), some (.int (numGo c i).1), y4] ∧ Same H H')
      ⟨none, rfl, same_new hp _⟩ (fun i σ H1 hi h1 => ?_) (fun σ H1 h1 => ?_)⟩
    · obtain ⟨y4, rfl, s1⟩ := h1
      refine ⟨_, rfl, _, _, rfl, rfl, .inr ⟨by decide, by decide⟩, _, _, rfl, rfl, _, _, rfl, rfl, (by show (0 : Int) < 2147483647; decide), ?_⟩
      refine ⟨_, rfl, _, _, rfl, rfl, .inr ⟨by decide, by decide⟩, _, rfl, _, _, rfl, rfl, ⟨by decide, by decide⟩, _, _, rfl, rfl, (by show (0 : Int) < 10; decide), _, _, rfl, rfl, ?_⟩
      exact ⟨_, rfl, s1⟩
    · obtain ⟨y4, rfl, s1⟩ := h1
      have hz2 : c / 5 % 2 = 0 ∨ c / 5 % 2 = 1 := by omega
      refine ⟨_, rfl, (by show 2 ≤ sizeLine; decide), fun p2 hp2 => ?_⟩
      refine ⟨_, rfl, _, _, rfl, rfl, ⟨by decide, by decide⟩, _, _, rfl, rfl, (by show (0 : Int) < 2; decide), p2, _, _, .int (if c / 5 % 2 = 0 then 1 else -1), rfl, rfl, SqL.of upd_same, ?_, ?_⟩
      · rcases hz2 with z | z <;> rw [z] <;> rfl
      refine ⟨_, rfl, _, _, rfl, rfl, .inl (by split <;> decide), ?_⟩
      have e : numOf c = (if c / 5 % 2 = 0 then 1 else -1) * (numGo c n.toNat).2 := by unfold numOf; rw [if_neg z', hn]
      have q' := q _ (s1.trans (same_new hp2 (.lst [.int 1, .int (-1)])))
      rw [e] at q'
      exact q'
theorem ok_Lalike0 : FnOk P w K mg base CX0 0 f fd pLalike (spAlike K 0) := by
  have no : ∀ vs H Q E, ¬ spAlike K 0 vs H Q E := fun vs H Q E h => by
    obtain ⟨v, u, d, _, _, _, _, h5, _⟩ := h
    have := dep_pos d
    omega
  exact ⟨fun vs H Q E h => absurd h (no vs H Q E), fun A outer s H args us vs Q E _ _ _ _ h => absurd h (no vs H Q E)⟩
theorem ok_Lalike1 {n : Nat} (F : Fun K "_law_alike" "_law_alike" sLalike f fd) (G_Lalike : Has P w K mg base "_law_alike" pLalike (n + 1) (spAlike K n)) (G_Lwhole : Has P w K mg base "_law_whole" pLwhole 1 (spWhole K))
    (m_isinstance : mg "isinstance" = none) (m_str : mg "str" = none) (m_int : mg "int" = none) (m_tuple : mg "tuple" = none) (m_list : mg "list" = none) (m_len : mg "len" = none) (m_range : mg "range" = none) :
    FnOk P w K mg base CX0 (n + 2) f fd pLalike (spAlike K (n + 1)) := by
  refine F.ok cLalike (fun vs H Q E h => ?_) (fun cdv A outer s H vs Q E hr h => ?_)
  · obtain ⟨v, u, d, rfl, _⟩ := h
    rfl
  obtain ⟨v, u, d, rfl, hv, hu, hp, hd, q⟩ := h
  refine ⟨_, (pss_cons (ps_if (pt_cmpR op_isN (pv 1) pe_non (nomark _)) (pss_one (ps_ret (pe_cmpR op_isN (pv 0) pe_non (nomark _)))) pss_nil)
    (pss_cons (ps_if (pt_val (pe_callB call_isi (by rfl) m_isinstance (by decide +kernel) (pa_cons (pv 1) (pa_cons (pe_bltn rfl m_str (by decide +kernel) (v := .ty "str") rfl) pa_nil)))) (pss_one (ps_ret (pe_and (pe_callB call_isi (by rfl) m_isinstance (by decide +kernel) (pa_cons (pv 0) (pa_cons (pe_bltn rfl m_str (by decide +kernel) (v := .ty "str") rfl) pa_nil))) (pe_one (pe_cmpR op_eq (pv 0) (pv 1) (nomark _)))))) pss_nil)
    (pss_cons (ps_if (pt_val (pe_callB call_isi (by rfl) m_isinstance (by decide +kernel) (pa_cons (pv 1) (pa_cons (pe_bltn rfl m_int (by decide +kernel) (v := .ty "int") rfl) pa_nil)))) (pss_one (ps_ret (pe_and (pe_has G_Lwhole hr (by omega) (pa_cons (pv 0) pa_nil)) (pe_one (pe_cmpR op_eq (pv 0) (pv 1) (nomark _)))))) pss_nil)
    (pss_cons (ps_if (PW.pt (pw_and (pt_val (pe_callB call_isi (by rfl) m_isinstance (by decide +kernel) (pa_cons (pv 1) (pa_cons (pe_bltn rfl m_tuple (by decide +kernel) (v := .ty "tuple") rfl) pa_nil)))) (pw_and1 (pt_not (pt_val (pe_callB call_isi (by rfl) m_isinstance (by decide +kernel) (pa_cons (pv 0) (pa_cons (pe_bltn rfl m_tuple (by decide +kernel) (v := .ty "tuple") rfl) pa_nil)))))))) (pss_one (ps_ret pe_bl)) pss_nil)
    (pss_cons (ps_if (PW.pt (pw_and (pt_val (pe_callB call_isi (by rfl) m_isinstance (by decide +kernel) (pa_cons (pv 1) (pa_cons (pe_bltn rfl m_list (by decide +kernel) (v := .ty "list") rfl) pa_nil)))) (pw_and1 (pt_not (pt_val (pe_callB call_isi (by rfl) m_isinstance (by decide +kernel) (pa_cons (pv 0) (pa_cons (pe_bltn rfl m_list (by decide +kernel) (v := .ty "list") rfl) pa_nil)))))))) (pss_one (ps_ret pe_bl)) pss_nil)
    (pss_cons (ps_if (pt_cmpR op_ne (pe_callB call_len_seq (by rfl) m_len (by decide +kernel) (pa_cons (pv 0) pa_nil)) (pe_callB call_len_seq (by rfl) m_len (by decide +kernel) (pa_cons (pv 1) pa_nil)) (nomark _)) (pss_one (ps_ret pe_bl)) pss_nil)
    (pss_cons (ps_for PassesOwn.never rfl (pi_range1 (by rfl) m_range (pa_cons (pe_callB call_len_seq (by rfl) m_len (by decide +kernel) (pa_cons (pv 1) pa_nil)) pa_nil)) (pg_name (i := 2) cLalike.nd rfl (Or.inl rfl)) (pss_one (ps_if (pt_not (pt_val (pe_has G_Lalike hr (by omega) (pa_cons (pe_ix (r := rIx K) ix_seq (pv 0) (pv 2) (fun _ _ => rfl)) (pa_cons (pe_ix (r := rIx K) ix_seq (pv 1) (pv 2) (fun _ _ => rfl)) pa_nil))))) (pss_one (ps_ret pe_bl)) pss_nil)))
    (pss_one (ps_ret pe_bl))))))))), ?_⟩
  cases d with
  | bool b => exact absurd hp (by simp [plain])
  | dict b => exact absurd hp (by simp [plain])
  | none =>
    cases Dp_non hv
    cases Dp_non hu
    exact ⟨_, rfl, rfl, _, rfl, iteT ⟨_, rfl, rfl, q H (Same.refl H)⟩⟩
  | str x =>
    cases Dp_str hv
    cases Dp_str hu
    refine ⟨_, rfl, rfl, _, rfl, iteF ?_⟩
    refine ⟨_, rfl, _, _, _, _, true, rfl, .ty _, tyx_of hu, kit_ty (by simp only [tyN]; decide +kernel), ⟨true, rfl, iteT ?_⟩⟩
    refine ⟨_, rfl, _, _, _, _, true, rfl, .ty _, tyx_of hv, kit_ty (by simp only [tyN]; decide +kernel), ⟨true, rfl, iteT ?_⟩⟩
    refine ⟨_, rfl, _, rfl, rfl, ?_⟩
    rw [decide_eq_true rfl]
    exact q H (Same.refl H)
  | int x =>
    cases Dp_int hv
    cases Dp_int hu
    refine ⟨_, rfl, rfl, _, rfl, iteF ?_⟩
    refine ⟨_, rfl, _, _, _, _, false, rfl, .ty _, tyx_of hu, kit_ty (by simp only [tyN]; decide +kernel), ⟨false, rfl, iteF ?_⟩⟩
    refine ⟨_, rfl, _, _, _, _, true, rfl, .ty _, tyx_of hu, kit_ty (by simp only [tyN]; decide +kernel), ⟨true, rfl, iteT ?_⟩⟩
    refine ⟨_, rfl, _, x, rfl, hv, true, rfl, iteT ?_⟩
    refine ⟨_, rfl, _, rfl, rfl, ?_⟩
    rw [decide_eq_true rfl]
    exact q H (Same.refl H)
  | list ds =>
    obtain ⟨a, xs, rfl, ha, ra⟩ := Dp_lst hv
    obtain ⟨b, ys, rfl, hb, rb⟩ := Dp_lst hu
    have la := DpAll_len ra
    have lb := DpAll_len rb
    have hp' : ds.length ≤ 10000 ∧ plains ds = true := by simpa [plain] using hp
    have hd' : deps ds ≤ n := by simp [dep] at hd; omega
    refine ⟨_, rfl, rfl, _, rfl, iteF ?_⟩
    refine ⟨_, rfl, _, _, _, _, false, rfl, .ty _, tyx_of hu, kit_ty (by simp only [tyN]; decide +kernel), ⟨false, rfl, iteF ?_⟩⟩
    refine ⟨_, rfl, _, _, _, _, false, rfl, .ty _, tyx_of hu, kit_ty (by simp only [tyN]; decide +kernel), ⟨false, rfl, iteF ?_⟩⟩
    refine ⟨_, rfl, _, _, _, _, false, rfl, .ty _, tyx_of hu, kit_ty (by simp only [tyN]; decide +kernel), ⟨false, rfl, iteF (iteF ?_)⟩⟩
    refine ⟨_, rfl, _, _, _, _, true, rfl, .ty _, tyx_of hu, kit_ty (by simp only [tyN]; decide +kernel), ⟨true, rfl, iteT ⟨_, rfl, _, _, _, _, true, rfl, .ty _, tyx_of hv, kit_ty (by simp only [tyN]; decide +kernel), ⟨true, rfl, iteF ?_⟩⟩⟩⟩
    refine ⟨_, rfl, _, _, rfl, .inl ha, _, rfl, _, _, rfl, .inl hb, rfl, _, rfl, iteNS (by rw [la, lb]) ?_⟩
    refine ⟨_, rfl, _, _, rfl, .inl hb, _, rfl, by omega, by omega, for_range (lo := 0) (n := ((ys.length : Nat) : Int).toNat) (fun i σ H' => ∃ y2, σ = [some (.ref a), some (.ref b), y2] ∧ Same H H') ⟨none, rfl, Same.refl H⟩ (fun i σ H1 hi h1 => ?_) (fun σ H1 h1 => ?_)⟩
    · obtain ⟨y2, rfl, s1⟩ := h1
      have hids : i < ds.length := by omega
      obtain ⟨v1, e1, g1⟩ := DpAll_get ra (List.getElem?_eq_getElem hids)
      obtain ⟨v2, e2, g2⟩ := DpAll_get rb (List.getElem?_eq_getElem hids)
      have p1 := plains_get hp'.2 (List.getElem?_eq_getElem hids)
      have p2 : dep ds[i] ≤ n := Nat.le_trans (deps_get (List.getElem?_eq_getElem hids)) hd'
      have ez : (0 : Int) + (i : Int) = ((i : Nat) : Int) := by omega
      refine ⟨_, rfl, _, rfl, .inl ⟨a, xs, _, v1, rfl, rfl, Same.seq s1 ha, by rw [ez]; exact atI_nat e1, ?_⟩⟩
      refine ⟨_, rfl, _, rfl, .inl ⟨b, ys, _, v2, rfl, rfl, Same.seq s1 hb, by rw [ez]; exact atI_nat e2, ?_⟩⟩
      refine ⟨v1, v2, ds[i], rfl, Dp_same s1 g1, Dp_same s1 g2, p1, p2, fun H2 s2 => ⟨_, rfl, iteF ⟨_, rfl, s1.trans s2⟩⟩⟩
    · obtain ⟨y2, rfl, s1⟩ := h1
      exact q _ s1
  | tuple ds =>
    obtain ⟨a, xs, rfl, ha, ra⟩ := Dp_tup hv
    obtain ⟨b, ys, rfl, hb, rb⟩ := Dp_tup hu
    have la := DpAll_len ra
    have lb := DpAll_len rb
    have hp' : ds.length ≤ 10000 ∧ plains ds = true := by simpa [plain] using hp
    have hd' : deps ds ≤ n := by simp [dep] at hd; omega
    refine ⟨_, rfl, rfl, _, rfl, iteF ?_⟩
    refine ⟨_, rfl, _, _, _, _, false, rfl, .ty _, tyx_of hu, kit_ty (by simp only [tyN]; decide +kernel), ⟨false, rfl, iteF ?_⟩⟩
    refine ⟨_, rfl, _, _, _, _, false, rfl, .ty _, tyx_of hu, kit_ty (by simp only [tyN]; decide +kernel), ⟨false, rfl, iteF ?_⟩⟩
    refine ⟨_, rfl, _, _, _, _, true, rfl, .ty _, tyx_of hu, kit_ty (by simp only [tyN]; decide +kernel), ⟨true, rfl, iteT ⟨_, rfl, _, _, _, _, true, rfl, .ty _, tyx_of hv, kit_ty (by simp only [tyN]; decide +kernel), ⟨true, rfl, iteF ?_⟩⟩⟩⟩
    refine ⟨_, rfl, _, _, _, _, false, rfl, .ty _, tyx_of hu, kit_ty (by simp only [tyN]; decide +kernel), ⟨false, rfl, iteF (iteF ?_)⟩⟩
    refine ⟨_, rfl, _, _, rfl, .inr ha, _, rfl, _, _, rfl, .inr hb, rfl, _, rfl, iteNS (by rw [la, lb]) ?_⟩
    refine ⟨_, rfl, _, _, rfl, .inr hb, _, rfl, by omega, by omega, for_range (lo := 0) (n := ((ys.length : Nat) : Int).toNat) (fun i σ H' => ∃ y2, σ = [some (.ref a), some (.ref b), y2] ∧ Same H H') ⟨none, rfl, Same.refl H⟩ (fun i σ H1 hi h1 => ?_) (fun σ H1 h1 => ?_)⟩
    · obtain ⟨y2, rfl, s1⟩ := h1
      have hids : i < ds.length := by omega
      obtain ⟨v1, e1, g1⟩ := DpAll_get ra (List.getElem?_eq_getElem hids)
      obtain ⟨v2, e2, g2⟩ := DpAll_get rb (List.getElem?_eq_getElem hids)
      have p1 := plains_get hp'.2 (List.getElem?_eq_getElem hids)
      have p2 : dep ds[i] ≤ n := Nat.le_trans (deps_get (List.getElem?_eq_getElem hids)) hd'
      have ez : (0 : Int) + (i : Int) = ((i : Nat) : Int) := by omega
      refine ⟨_, rfl, _, rfl, .inr (.inl ⟨a, xs, _, v1, rfl, rfl, sameT s1 ha, by rw [ez]; exact atI_nat e1, ?_⟩)⟩
      refine ⟨_, rfl, _, rfl, .inr (.inl ⟨b, ys, _, v2, rfl, rfl, sameT s1 hb, by rw [ez]; exact atI_nat e2, ?_⟩)⟩
      refine ⟨v1, v2, ds[i], rfl, Dp_same s1 g1, Dp_same s1 g2, p1, p2, fun H2 s2 => ⟨_, rfl, iteF ⟨_, rfl, s1.trans s2⟩⟩⟩
    · obtain ⟨y2, rfl, s1⟩ := h1
      exact q _ s1
theorem has_Lalike (D : DefAt K mg "_law_alike" sLalike f fd) (b : Binds K fd pLalike []) (G_Lwhole : Has P w K mg base "_law_whole" pLwhole 1 (spWhole K)) (m_isinstance : mg "isinstance" = none) (m_str : mg "str" = none) (m_int : mg "int" = none) (m_tuple : mg "tuple" = none) (m_list : mg "list" = none) (m_len : mg "len" = none) (m_range : mg "range" = none) :
    ∀ n, Has P w K mg base "_law_alike" pLalike (n + 1) (spAlike K n)
  | 0 => D.has b (ok_Lalike0.mono (Nat.zero_le _))
  | n + 1 => D.has b (ok_Lalike1 D.1 (has_Lalike D b G_Lwhole m_isinstance m_str m_int m_tuple m_list m_len m_range n) G_Lwhole m_isinstance m_str m_int m_tuple m_list m_len m_range)
theorem ok_Pis_sign (F : Fun K "_is_sign" "_is_sign" sPis_sign f fd) (m_ord : mg "ord" = none) (gP : ∃ t, mg "_PERCENT" = some (.int 37 t)) : FnOk P w K mg base CX0 1 f fd pPis_sign spIsSign := by
  obtain ⟨tP, gP⟩ := gP
  refine F.ok cPis_sign (fun vs H Q E h => ?_) (fun cdv A outer s H vs Q E hr h => ?_)
  · obtain ⟨c, rfl, _⟩ := h
    rfl
  obtain ⟨c, rfl, q⟩ := h
  refine ⟨_, (pss_one (ps_ret (pe_and (pe_chain op_le_str op_le_str pe_str (pv 0) pe_str) (pe_one (pe_cmpR op_ne (pe_callB call_ord (by rfl) m_ord (by decide +kernel) (pa_cons (pv 0) pa_nil)) (pe_glob (v := .int 37) (by rfl) gP ⟨_, rfl⟩) (nomark _)))))), ?_⟩
  refine ⟨_, rfl, _, _, rfl, rfl, _, rfl, ?_⟩
  have e1 : decide ((st [c]).cps.toList < (Str.ofString " ").cps.toList) = decide (c < 32) := one_lt c 32
  have e2 : decide ((Str.ofString "~").cps.toList < (st [c]).cps.toList) = decide (126 < c) := one_lt 126 c
  rw [e1]
  by_cases h1 : c < 32
  · have ev : sgnOk c = false := by unfold sgnOk; simp [h1]
    rw [ev] at q
    rw [decide_eq_true h1]
    exact iteF ⟨false, rfl, iteF q⟩
  rw [decide_eq_false h1]
  refine iteT ⟨_, _, rfl, rfl, _, rfl, ?_⟩
  rw [e2]
  by_cases h2 : 126 < c
  · have ev : sgnOk c = false := by unfold sgnOk; simp [h2]
    rw [ev] at q
    rw [decide_eq_true h2]
    exact iteF q
  rw [decide_eq_false h2]
  refine iteT ⟨_, rfl, _, rfl, rfl, ?_⟩
  have ev : sgnOk c = !decide (V.int (((st [c]).cps.getD 0 0 : Nat) : Int) = V.int 37) := by
    have e : (V.int (((st [c]).cps.getD 0 0 : Nat) : Int) = V.int 37) ↔ c = 37 := by
      show (V.int ((c : Nat) : Int) = V.int 37) ↔ c = 37
      exact ⟨fun z => by have := V.int.inj z; omega, fun z => by rw [z]; rfl⟩
    unfold sgnOk
    rw [decide_eq_false h1, decide_eq_false h2, decide_eq_decide.mpr e]; rfl
  rw [ev] at q
  exact ⟨rfl, q⟩
theorem ok_is_name (F : Fun K "is_name" "is_name" sis_name f fd) (G_Pis_sign : Has P w K mg base "_is_sign" pPis_sign 1 spIsSign) (m_isinstance : mg "isinstance" = none) (m_str : mg "str" = none) (m_len : mg "len" = none) (m_all : mg "all" = none) (gM : ∃ t, mg "MOST_SIGNS" = some (.int 40 t)) :
    FnOk P w K mg base CX0 2 f fd pis_name (spIsName K) := by
  obtain ⟨tM, gM⟩ := gM
  refine F.ok cis_name (fun vs H Q E h => ?_) (fun cdv A outer s H vs Q E hr h => ?_)
  · obtain ⟨v, rfl, _⟩ := h
    rfl
  obtain ⟨v, rfl, h⟩ := h
  refine ⟨_, (pss_cons (ps_if (PW.pt (pw_or (pt_not (pt_val (pe_callB call_isi (by rfl) m_isinstance (by decide +kernel) (pa_cons (pv 0) (pa_cons (pe_bltn rfl m_str (by decide +kernel) (v := .ty "str") rfl) pa_nil))))) (pw_or1 (pt_cmpR op_gt (pe_callB call_len_str (by rfl) m_len (by decide +kernel) (pa_cons (pv 0) pa_nil)) (pe_glob (v := .int 40) (by rfl) gM ⟨_, rfl⟩) (nomark _))))) (pss_one (ps_ret pe_bl)) pss_nil)
    (pss_one (ps_ret (pe_callB (cr_all (by rfl)) (by rfl) m_all (by decide +kernel) (pa_cons (pe_lc (own := [("sign", 1)]) (g := gName 1) (by rfl) cis_name.nd (pi_str (pv 0)) (blkOk_by (own := [("sign", 1)]) (N := ["thing", "sign"]) (sc := defScope sis_name) (by decide +kernel)) (fun _ _ _ _ _ => pg_name (i := 1) cis_name.nd rfl (Or.inl rfl)) (fun _ _ _ _ _ => pts_nil) (fun _ _ _ _ _ => (pe_has G_Pis_sign hr (by omega) (pa_cons (pv 1) pa_nil)))) pa_nil))))), ?_⟩
  rcases h with ⟨x, rfl, xl, q⟩ | ⟨T, ty, hT, q⟩
  · refine ⟨_, rfl, _, _, _, _, true, rfl, .ty "str", .base (.str _), kit_ty (by decide +kernel), ?_⟩
    have zx : (st x).length ≤ sizeLine := by rw [st_len]; exact smallZ (by omega)
    refine ⟨true, rfl, iteF ?_⟩
    refine ⟨_, rfl, _, rfl, zx, _, _, rfl, rfl, _, rfl, ?_⟩
    rw [st_len]
    by_cases h : x.length ≤ 40
    · rw [decide_eq_false (by omega)]
      refine iteF ?_
      refine ⟨_, rfl, st x, rfl, fun D nD => lc_it (walk_str (z := st x)) (fun i H' => LcB K H D x i H') (lcb0 nD) (fun _ _ _ _ => trivial) (fun i y H1 H2 hi h1 hy => ?_) (fun H1 h1 => ?_)⟩
      · obtain ⟨rfl, c, hc, rfl⟩ := hy
        have hc' : x[i]? = some c := by simpa using hc
        refine ⟨rfl, yes_if ?_⟩
        refine ⟨_, rfl, c, rfl, ?_⟩
        exact lcb_add h1 nD hc' (by have : (st x).cps.size = x.length := by simp
                                    omega)
      · have h1 : LcB K H D x x.length H1 := by
          have : (st x).cps.size = x.length := by simp
          rw [this] at h1; exact h1
        obtain ⟨s1, e1⟩ := h1
        rw [List.take_length] at e1
        refine ⟨D, x.map sgnOk, rfl, SqL.of e1, ?_⟩
        have ev : isNm x = (x.map sgnOk).all id := by unfold isNm; rw [decide_eq_true h, Bool.true_and, all_id]
        rw [← ev]
        exact q _ s1
    · rw [decide_eq_true (by omega)]
      refine iteT ?_
      have := q H (Same.refl H)
      rw [isNm_long (by omega)] at this
      exact this
  · refine ⟨_, rfl, _, _, _, _, false, rfl, .ty "str", ty, kit_ty hT, ?_⟩
    exact ⟨false, rfl, iteT q⟩
theorem ok_common (F : Fun K "common" "common" scommon f fd) (m_zip : mg "zip" = none) :
    FnOk P w K mg base CX0 1 f fd pcommon (spCommon) := by
  refine F.ok ccommon (fun vs H Q E h => ?_) (fun cdv A outer s H vs Q E hr h => ?_)
  · obtain ⟨a, b, rfl, _⟩ := h
    rfl
  obtain ⟨a, b, rfl, ha, hb, q⟩ := h
  refine ⟨_, (pss_cons (ps_set (i := 2) ccommon.nd rfl (Or.inl rfl) pe_int)
    (pss_cons (ps_for PassesOwn.never rfl (pi_zipS (by rfl) m_zip (pa_cons (pv 0) (pa_cons (pv 1) pa_nil))) (pg_tup (by rfl) (pgs_cons (pg_name (i := 3) ccommon.nd rfl (Or.inl rfl)) (pgs_cons (pg_name (i := 4) ccommon.nd rfl (Or.inl rfl)) pgs_nil))) (pss_cons (ps_if (pt_cmpR op_ne (pv 3) (pv 4) (nomark _)) (pss_one ps_break) pss_nil)
    (pss_one (ps_aug (i := 2) ccommon.nd rfl (.inl rfl) pe_int ip_add))))
    (pss_one (ps_ret (pe_slice sl_str (pv 0) po_none (po_some (pv 2))))))), ?_⟩
  have hza : (st a).length ≤ sizeLine := by rw [st_len]; exact smallZ (by omega)
  have fin : ∀ (i : Nat) y3 y4 H', Same H H' → lcp a b = i → tRet (tSl rSlS (tVar 0) tNoPart (tPart (tVar 2))) { nx := fun x H' => Q V.non H', rt := Q } [some (.str (st a)), some (.str (st b)), some (.int i), y3, y4] H' := fun i y3 y4 H' s1 e => by
    subst e
    refine ⟨_, rfl, _, rfl, _, rfl, _, rfl, hza, ?_⟩
    rw [cut_to]
    exact q H' s1
  refine ⟨_, rfl, _, rfl, st a, st b, rfl, fun i m σ H' => ∃ y3 y4, m = a.length - i ∧ i ≤ a.length ∧ i ≤ b.length ∧ a.take i = b.take i ∧ σ = [some (.str (st a)), some (.str (st b)), some (.int i), y3, y4] ∧ Same H H', ⟨_, none, none, rfl, by omega, by omega, rfl, rfl, Same.refl H⟩, ?_⟩
  rintro i m σ H1 ⟨y3, y4, rfl, h1, h2, h3, rfl, s1⟩
  by_cases hi : i = min a.length b.length
  · have hst : i = min (st a).cps.size (st b).cps.size := by simpa using hi
    exact .inl ⟨hst, fin i y3 y4 H1 s1 (lcp_of h3 h1 h2 (by omega))⟩
  · have hia : i < a.length := by omega
    have hib : i < b.length := by omega
    refine .inr ⟨⟨by simpa using hia, by simpa using hib⟩, fun σ' H' => ∃ y3 y4, a.take (i + 1) = b.take (i + 1) ∧ σ' = [some (.str (st a)), some (.str (st b)), some (.int ((i + 1 : Nat) : Int)), y3, y4] ∧ Same H H', fun σ' H' hN => ?_, fun x H' hy => ?_⟩
    · obtain ⟨z3, z4, g1, rfl, g2⟩ := hN
      exact ⟨_, by omega, z3, z4, rfl, by omega, by omega, g1, rfl, g2⟩
    · obtain ⟨T, c, d, rfl, nT, rfl, hc, hd⟩ := hy
      have hc' : a[i]? = some c := by simpa using hc
      have hd' : b[i]? = some d := by simpa using hd
      refine ⟨T, [.str ⟨#[c]⟩, .str ⟨#[d]⟩], rfl, .inl (.inl upd_same), rfl, .str ⟨#[c]⟩, [.str ⟨#[d]⟩], rfl, .str ⟨#[d]⟩, [], rfl, rfl, ?_⟩
      refine ⟨_, rfl, _, rfl, rfl, _, rfl, ?_⟩
      refine ite2 (fun z => ?_) (fun z => ?_)
      · have z' : ¬ V.str (st [c]) = V.str (st [d]) := fun e => by rw [show (V.str ⟨#[c]⟩ = V.str ⟨#[d]⟩) from e] at z; simp at z
        have e : lcp a b = i := lcp_of h3 h1 h2 (.inr (.inr fun e => z' (by rw [hc', hd'] at e; rw [Option.some.inj e])))
        exact fin i _ _ _ (s1.trans (same_new nT _)) e
      · have z' : V.str (st [c]) = V.str (st [d]) := by
          refine Decidable.byContradiction fun e => z ?_
          show (!decide (V.str (st [c]) = V.str (st [d]))) = true
          rw [decide_eq_false e]; rfl
        have e : c = d := by have := st_iff.mp z'; simpa using this
        subst e
        refine ⟨_, rfl, _, _, rfl, rfl, some (.str ⟨#[c]⟩), some (.str ⟨#[c]⟩), take_grow h3 hc' hd', ?_, s1.trans (same_new nT _)⟩
        rfl
theorem ok_rest (F : Fun K "rest" "rest" srest f fd) (m_len : mg "len" = none) :
    FnOk P w K mg base CX0 1 f fd prest (spRest) := by
  refine F.ok crest (fun vs H Q E h => ?_) (fun cdv A outer s H vs Q E hr h => ?_)
  · obtain ⟨a, b, rfl, _⟩ := h
    rfl
  obtain ⟨a, b, rfl, ha, hb, q⟩ := h
  refine ⟨_, (pss_cons (ps_if (pt_not (pt_val (pe_m1 PySem.F.slot_str_startswith PySem.F.type_str_startswith mt_startswith (pv 0) (pv 1)))) (pss_one (ps_ret pe_non)) pss_nil)
    (pss_one (ps_ret (pe_slice sl_str (pv 0) (po_some (pe_callB call_len_str (by rfl) m_len (by decide +kernel) (pa_cons (pv 1) pa_nil))) po_none)))), ?_⟩
  have hza : (st a).length ≤ sizeLine := by rw [st_len]; exact smallZ (by omega)
  have hzb : (st b).length ≤ sizeLine := by rw [st_len]; exact smallZ (by omega)
  refine ⟨_, rfl, ⟨_, rfl⟩, _, rfl, _, _, rfl, rfl, _, rfl, ?_⟩
  show if (!Txt.startswith (st a) (st b)) = true then _ else _
  rw [starts]
  by_cases c : b <+: a
  · rw [if_pos c] at q
    rw [decide_eq_true c]
    refine iteF ?_
    refine ⟨_, rfl, _, rfl, _, rfl, hzb, _, rfl, _, rfl, hza, ?_⟩
    rw [st_len, cut_from]
    exact q
  · rw [if_neg c] at q
    rw [decide_eq_false c]
    exact iteT q
theorem ok_inner_of (F : Fun K "inner_of" "inner_of" sinner_of f fd) :
    FnOk P w K mg base CX0 1 f fd pinner_of (spInner K) := by
  refine F.ok cinner_of (fun vs H Q E h => ?_) (fun cdv A outer s H vs Q E hr h => ?_)
  · obtain ⟨v, bs, s, rfl, _⟩ := h
    rfl
  obtain ⟨v, bs, s', rfl, hv, q⟩ := h
  obtain ⟨a, xs, rfl, ha, hd⟩ := Dp_tup hv
  refine ⟨_, (pss_cons (ps_for PassesOwn.never rfl (pi_tup (pv 0)) (pg_tup (by rfl) (pgs_cons (pg_name (i := 2) cinner_of.nd rfl (Or.inl rfl)) (pgs_cons (pg_name (i := 3) cinner_of.nd rfl (Or.inl rfl)) pgs_nil))) (pss_one (ps_if (pt_cmpR op_eq (pv 2) (pv 1) (nomark _)) (pss_one (ps_ret (pv 3))) pss_nil)))
    (pss_one (ps_ret pe_non))), ?_⟩
  refine ⟨_, rfl, a, rfl, ⟨_, ha⟩, for_tup (xs := xs) (fun i σ H' => H' = H ∧ ∃ y2 y3, σ = [some (.ref a), some (.str (st s')), y2, y3] ∧ innr bs s' = innr (bs.drop i) s') ⟨rfl, none, none, rfl, rfl⟩ (fun i σ H' hi h1 => by rw [h1.1]; exact ha) (fun i x σ H' hx h1 => ?_) (fun σ H' h1 => ?_)⟩
  · obtain ⟨rfl, y2, y3, rfl, e⟩ := h1
    rw [toDs_br] at hd
    obtain ⟨b, hb, hx'⟩ := DpAll_map hd hx
    obtain ⟨p, z1, z2, rfl, hp, h1, h2⟩ := Dp_two hx'
    cases Dp_str h1
    have hlt := (List.getElem?_eq_some_iff.mp hb).1
    have ed : bs.drop i = b :: bs.drop (i + 1) := by rw [List.drop_eq_getElem_cons hlt, (List.getElem?_eq_some_iff.mp hb).2]
    refine ⟨p, _, rfl, hp, rfl, _, _, rfl, _, _, rfl, rfl, ?_⟩
    refine ⟨_, rfl, _, rfl, rfl, _, rfl, ite2 (fun z => ?_) (fun z => ?_)⟩
    · have z' : b.1 = s' := st_iff.mp (of_decide_eq_true z)
      refine ⟨_, rfl, q z2 ?_⟩
      rw [e, ed]
      obtain ⟨b1, b2⟩ := b
      unfold innr
      rw [if_pos z']
      exact h2
    · have z' : ¬ b.1 = s' := fun e => z (decide_eq_true (st_iff.mpr e))
      refine ⟨rfl, _, _, rfl, ?_⟩
      rw [e, ed]
      obtain ⟨b1, b2⟩ := b
      conv => lhs; unfold innr
      rw [if_neg z']
  · obtain ⟨rfl, y2, y3, rfl, e⟩ := h1
    refine q .non ?_
    rw [e, List.drop_of_length_le (by rw [DpAll_len hd, toDs_br, List.length_map]; exact Nat.le_refl _)]
    exact .non
theorem ok_placed (F : Fun K "placed" "placed" splaced f fd) (m_tuple : mg "tuple" = none) :
    FnOk P w K mg base CX0 1 f fd pplaced (spPlaced K) := by
  refine F.ok cplaced (fun vs H Q E h => ?_) (fun cdv A outer s H vs Q E hr h => ?_)
  · obtain ⟨v, u, bs, b, rfl, _⟩ := h
    rfl
  obtain ⟨v, u, bs, b, rfl, hv, hu, hl, q⟩ := h
  obtain ⟨a, xs, rfl, ha, hd⟩ := Dp_tup hv
  rw [toDs_br] at hd
  have hlen : xs.length = bs.length := by rw [DpAll_len hd, List.length_map]
  obtain ⟨p, z1, z2, rfl, hp, h1, h2⟩ := Dp_two hu
  cases Dp_str h1
  refine ⟨_, (pss_cons (ps_set (i := 2) cplaced.nd rfl (Or.inr rfl) (pe_ix (r := rIxT K) ix_tup (pv 1) pe_int (fun _ _ => rfl)))
    (pss_cons (ps_setLc (i := 3) (own := [("pair", 5)]) (g := gName 5) (by rfl) cplaced.nd rfl rfl (sw_true rfl rfl rfl (by decide +kernel)) (pi_tup (pv 0)) (blkOk_by (own := [("pair", 5)]) (N := ["branches", "branch", "sign", "lower", "higher", "pair"]) (sc := defScope splaced) (by decide +kernel)) (fun _ _ _ _ _ => pg_name (i := 5) cplaced.nd rfl (Or.inl rfl)) (fun _ _ _ _ _ => (pts_one (pt_cmpR op_lt_str (pe_ix (r := rIxT K) ix_tup (pv 5) pe_int (fun _ _ => rfl)) (pv 2) (nomark _)))) (fun _ _ _ _ _ => (pv 5)))
    (pss_cons (ps_setLc (i := 4) (own := [("pair", 5)]) (g := gName 5) (by rfl) cplaced.nd rfl rfl (sw_true rfl rfl rfl (by decide +kernel)) (pi_tup (pv 0)) (blkOk_by (own := [("pair", 5)]) (N := ["branches", "branch", "sign", "lower", "higher", "pair"]) (sc := defScope splaced) (by decide +kernel)) (fun _ _ _ _ _ => pg_name (i := 5) cplaced.nd rfl (Or.inl rfl)) (fun _ _ _ _ _ => (pts_one (pt_cmpR op_gt_str (pe_ix (r := rIxT K) ix_tup (pv 5) pe_int (fun _ _ => rfl)) (pv 2) (nomark _)))) (fun _ _ _ _ _ => (pv 5)))
    (pss_one (ps_ret (pe_callTy call_tuple_of (by rfl) m_tuple (by decide +kernel) (pa_cons (pe_op op_cat (pe_op op_cat (pv 3) (pe_lst (pa_cons (pv 1) pa_nil))) (pv 4)) pa_nil))))))), ?_⟩
  refine ⟨_, rfl, p, _, _, _, rfl, rfl, hp, (rfl : atI [V.str (st b.1), z2] 0 = some (V.str (st b.1))), ?_⟩
  have sq : ∀ {c : List Nat × Tr} {x : V} {H1 : Hp}, Dp K H1 x (brD c) → ∃ r w, x = .ref r ∧ SqT K H1 r [.str (st c.1), w] := fun {c x H1} hx => by
    obtain ⟨r, w1, w2, rfl, hr', g1, g2⟩ := Dp_two hx
    cases Dp_str g1
    exact ⟨r, w2, rfl, hr'⟩
  refine ⟨_, rfl, a, rfl, ⟨_, ha⟩, fun D nD => lc_tup (K := K) (xs := xs) (LcP K H D (fm bs (fun c => decide (c.1 < b.1)) brD)) (lcp0 nD rfl) (fun _ _ _ h => sameT h.1 ha) (fun i x H1 hx h1 => ?_) (fun H1 h1 => ?_)⟩
  · obtain ⟨c, hc, hx'⟩ := DpAll_map hd hx
    have hx1 := Dp_same h1.1 hx'
    obtain ⟨r, w2, rfl, hr1⟩ := sq hx1
    refine ⟨rfl, _, rfl, r, _, _, _, rfl, rfl, hr1, (rfl : atI [V.str (st c.1), w2] 0 = some (V.str (st c.1))), _, rfl, _, _, rfl, rfl, _, rfl, ?_⟩
    have ed : decide ((st c.1).cps.toList < (st b.1).cps.toList) = decide (c.1 < b.1) := by simp
    rw [ed]
    by_cases lt : c.1 < b.1
    · rw [decide_eq_true lt]
      refine iteT ⟨_, rfl, ?_⟩
      exact lcp_add h1 nD (Same.refl _) hx1 (fm_yes hc (decide_eq_true lt)) (fm_nolist brD_nolist) (brD_nolist c) (Nat.le_trans fm_len (by omega))
    · rw [decide_eq_false lt]
      exact iteF (lcp_skip h1 (Same.refl _) (fm_no hc (decide_eq_false lt)))
  rw [hlen] at h1
  obtain ⟨s1, acc1, e1, d1⟩ := h1
  rw [fm_all] at d1
  refine ⟨_, rfl, a, rfl, ⟨_, sameT s1 ha⟩, fun D2 nD2 => lc_tup (K := K) (xs := xs) (LcP K H1 D2 (fm bs (fun c => decide (b.1 < c.1)) brD)) (lcp0 nD2 rfl) (fun _ _ _ h => sameT (s1.trans h.1) ha) (fun i x H2 hx h2 => ?_) (fun H2 h2 => ?_)⟩
  · obtain ⟨c, hc, hx'⟩ := DpAll_map hd hx
    have hx1 := Dp_same (s1.trans h2.1) hx'
    obtain ⟨r, w2, rfl, hr1⟩ := sq hx1
    refine ⟨rfl, _, rfl, r, _, _, _, rfl, rfl, hr1, (rfl : atI [V.str (st c.1), w2] 0 = some (V.str (st c.1))), _, rfl, _, _, rfl, rfl, _, rfl, ?_⟩
    have ed : decide ((st b.1).cps.toList < (st c.1).cps.toList) = decide (b.1 < c.1) := by simp
    rw [ed]
    by_cases lt : b.1 < c.1
    · rw [decide_eq_true lt]
      refine iteT ⟨_, rfl, ?_⟩
      exact lcp_add h2 nD2 (Same.refl _) hx1 (fm_yes hc (decide_eq_true lt)) (fm_nolist brD_nolist) (brD_nolist c) (Nat.le_trans fm_len (by omega))
    · rw [decide_eq_false lt]
      exact iteF (lcp_skip h2 (Same.refl _) (fm_no hc (decide_eq_false lt)))
  rw [hlen] at h2
  obtain ⟨s2, acc2, e2, d2⟩ := h2
  rw [fm_all] at d2
  have l1 : acc1.length ≤ 5000 := by
    rw [DpAll_len d1, List.length_map]
    exact Nat.le_trans (List.length_filter_le _ _) hl
  have l2 : acc2.length ≤ 5000 := by
    rw [DpAll_len d2, List.length_map]
    exact Nat.le_trans (List.length_filter_le _ _) hl
  have hu2 := Dp_same (s1.trans s2) hu
  refine ⟨_, rfl, _, rfl, (by show 1 ≤ sizeLine; decide), fun L nL => ?_⟩
  refine ⟨D, L, acc1, [.ref p], rfl, rfl, (same_new nL _) _ _ (s2 _ _ e1), upd_same, ?_, fun M nM => ?_⟩
  · show acc1.length + 1 ≤ sizeLine
    exact smallZ (by omega)
  have sL := same_new nL (.lst [.ref p])
  have sM := same_new nM (.lst (acc1 ++ [.ref p]))
  refine ⟨_, rfl, M, D2, acc1 ++ [.ref p], acc2, rfl, rfl, upd_same, (sL.trans sM) _ _ e2, ?_, fun R nR => ?_⟩
  · rw [List.length_append]
    exact smallZ (by simp; omega)
  have sR := same_new nR (.lst (acc1 ++ [.ref p] ++ acc2))
  refine ⟨R, _, rfl, .inl ⟨SqL.of upd_same, fun l nl => q _ _ ((((s1.trans s2).trans (sL.trans sM)).trans sR).trans (same_new nl _)) ?_⟩⟩
  have all : DpAll K (upd (upd (upd H2 L (.lst [.ref p])) M (.lst (acc1 ++ [.ref p]))) R (.lst (acc1 ++ [.ref p] ++ acc2))) (acc1 ++ [.ref p] ++ acc2) (toDs (placed bs b)) := by
    have sx := (sL.trans sM).trans sR
    unfold placed
    rw [toDs_app, toDs_app, toDs_br, toDs_br, toDs_br]
    exact DpAll_app (DpAll_app (DpAll_same (s2.trans sx) d1) (.cons (Dp_same sx hu2) .nil)) (DpAll_same sx d2)
  exact Dp_new nl all
theorem ok_branches_behind (F : Fun K "branches_behind" "branches_behind" sbranches_behind f fd) (m_len : mg "len" = none) :
    FnOk P w K mg base CX0 1 f fd pbranches_behind (spBehind K) := by
  refine F.ok cbranches_behind (fun vs H Q E h => ?_) (fun cdv A outer s H vs Q E hr h => ?_)
  · obtain ⟨v, t, b, rfl, _⟩ := h
    rfl
  obtain ⟨v, t, b, rfl, hv, ht, hb, q⟩ := h
  refine ⟨_, (pss_cons (ps_asg (pv 0) (pg_tup (by rfl) (pgs_cons (pg_name (i := 2) cbranches_behind.nd rfl (Or.inl rfl)) (pgs_cons (pg_name (i := 3) cbranches_behind.nd rfl (Or.inl rfl)) (pgs_cons (pg_name (i := 4) cbranches_behind.nd rfl (Or.inl rfl)) pgs_nil)))))
    (pss_cons (ps_if (PW.pt (pw_and (pt_cmpR op_eq (pv 2) pe_str (nomark _)) (pw_and1 (pt_cmpR op_eq (pv 3) (pv 1) (nomark _))))) (pss_one (ps_ret (pv 4))) pss_nil)
    (pss_cons (ps_set (i := 5) cbranches_behind.nd rfl (Or.inl rfl) (pe_slice sl_str (pv 3) (po_some (pe_callB call_len_str (by rfl) m_len (by decide +kernel) (pa_cons (pv 1) pa_nil))) po_none))
    (pss_one (ps_ret (pe_tup (pa_cons (pe_tup (pa_cons (pe_slice sl_str (pv 5) po_none (po_some pe_int)) (pa_cons (pe_tup (pa_cons (pv 2) (pa_cons (pe_slice sl_str (pv 5) (po_some pe_int) po_none) (pa_cons (pv 4) pa_nil)))) pa_nil))) pa_nil))))))), ?_⟩
  obtain ⟨p, x, z, rfl, hs, hc⟩ := Dp_tree hv
  have zb : (st b).length ≤ sizeLine := by rw [st_len]; exact smallZ (by omega)
  have zt : (st t.text).length ≤ sizeLine := by rw [st_len]; exact smallZ (by omega)
  have zd : (st (t.text.drop b.length)).length ≤ sizeLine := by rw [st_len, List.length_drop]; exact smallZ (by omega)
  refine ⟨_, rfl, p, _, rfl, hs, rfl, _, _, rfl, _, _, rfl, _, _, rfl, rfl, ?_⟩
  rcases hc with ⟨n, e, rfl, rfl⟩ | ⟨bs, e, rfl, hz⟩
  · refine ⟨_, rfl, rfl, _, rfl, iteF ?_⟩
    have eb : behB t b = [brn t b.length] := beh_one (.inl ⟨n, e⟩)
    rw [eb] at q
    refine ⟨_, rfl, _, rfl, _, rfl, zb, _, rfl, _, rfl, zt, ?_⟩
    rw [st_len, cut_from]
    refine ⟨_, rfl, 1, rfl, _, rfl, zd, ?_⟩
    rw [show cutS (st (t.text.drop b.length)) none (some 1) = _ from cut_to _ 1]
    refine ⟨_, rfl, _, rfl, 1, rfl, _, rfl, zd, ?_⟩
    rw [show cutS (st (t.text.drop b.length)) (some 1) none = _ from cut_from _ 1]
    refine ⟨_, rfl, (by show 3 ≤ sizeLine; decide), fun r nr => ⟨(by show 2 ≤ sizeLine; decide), fun r2 nr2 => ⟨(by show 1 ≤ sizeLine; decide), fun r3 nr3 => q _ _ (((same_new nr _).trans (same_new nr2 _)).trans (same_new nr3 _)) ?_⟩⟩⟩
    refine Dp_new nr3 (.cons ?_ .nil)
    refine Dp_new nr2 (.cons (.str _) (.cons ?_ .nil))
    have e2 : t.setText ((t.text.drop b.length).drop 1) = .leaf ((t.text.drop b.length).drop 1) n := by rw [e]; rfl
    show Dp K _ _ (t.setText ((t.text.drop b.length).drop 1)).toD
    rw [e2]
    exact Dp_new nr (.cons (.str _) (.cons (.str _) (.cons (.int _) .nil)))
  · refine ⟨_, rfl, rfl, _, rfl, iteT ?_⟩
    refine ⟨_, rfl, _, rfl, rfl, _, rfl, ?_⟩
    by_cases c : t.text = b
    · rw [decide_eq_true (show V.str (st t.text) = V.str (st b) by rw [c])]
      have eb : behB t b = bs := by
        rw [e, c]; exact beh_all
      rw [eb] at q
      exact iteT ⟨_, rfl, q _ _ (Same.refl _) hz⟩
    · rw [decide_eq_false (fun z => c (st_iff.mp z))]
      refine iteF ?_
      have eb : behB t b = [brn t b.length] := beh_one (.inr c)
      rw [eb] at q
      refine ⟨_, rfl, _, rfl, _, rfl, zb, _, rfl, _, rfl, zt, ?_⟩
      rw [st_len, cut_from]
      refine ⟨_, rfl, 1, rfl, _, rfl, zd, ?_⟩
      rw [show cutS (st (t.text.drop b.length)) none (some 1) = _ from cut_to _ 1]
      refine ⟨_, rfl, _, rfl, 1, rfl, _, rfl, zd, ?_⟩
      rw [show cutS (st (t.text.drop b.length)) (some 1) none = _ from cut_from _ 1]
      refine ⟨_, rfl, (by show 3 ≤ sizeLine; decide), fun r nr => ⟨(by show 2 ≤ sizeLine; decide), fun r2 nr2 => ⟨(by show 1 ≤ sizeLine; decide), fun r3 nr3 => q _ _ (((same_new nr _).trans (same_new nr2 _)).trans (same_new nr3 _)) ?_⟩⟩⟩
      refine Dp_new nr3 (.cons ?_ .nil)
      refine Dp_new nr2 (.cons (.str _) (.cons ?_ .nil))
      have e2 : t.setText ((t.text.drop b.length).drop 1) = .fork ((t.text.drop b.length).drop 1) bs := by rw [e]; rfl
      show Dp K _ _ (t.setText ((t.text.drop b.length).drop 1)).toD
      rw [e2]
      exact Dp_new nr (.cons (.str _) (.cons (.str _) (.cons hz .nil)))
theorem ok_replaced (F : Fun K "replaced" "replaced" sreplaced f fd)
    (G_placed : Has P w K mg base "placed" pplaced 1 (spPlaced K)) (m_len : mg "len" = none) (m_tuple : mg "tuple" = none) :
    FnOk P w K mg base CX0 2 f fd preplaced (spReplaced K) := by
  refine F.ok creplaced (fun vs H Q E h => ?_) (fun cdv A outer s H vs Q E hr h => ?_)
  · obtain ⟨v, u, t, bs, s', o, rfl, _⟩ := h
    rfl
  obtain ⟨v, u, t, bs, s', o, rfl, hv, hu, hl, ht, hs, hb, hne, q⟩ := h
  refine ⟨_, (pss_cons (ps_asg (pv 0) (pg_tup (by rfl) (pgs_cons (pg_name (i := 3) creplaced.nd rfl (Or.inl rfl)) (pgs_cons (pg_name (i := 4) creplaced.nd rfl (Or.inl rfl)) (pgs_cons (pg_name (i := 5) creplaced.nd rfl (Or.inl rfl)) pgs_nil)))))
    (pss_cons (ps_if (pt_cmpR op_notN (pv 2) pe_non (nomark _)) (pss_one (ps_ret (pe_tup (pa_cons pe_str (pa_cons (pv 4) (pa_cons (pe_has G_placed hr (by omega) (pa_cons (pv 5) (pa_cons (pe_tup (pa_cons (pv 1) (pa_cons (pv 2) pa_nil))) pa_nil))) pa_nil)))))) pss_nil)
    (pss_cons (ps_setLc (i := 6) (own := [("branch", 11)]) (g := gName 11) (by rfl) creplaced.nd rfl rfl (sw_true rfl rfl rfl (by decide +kernel)) (pi_tup (pv 5)) (blkOk_by (own := [("branch", 11)]) (N := ["fork", "sign", "inner", "_", "shared", "branches", "left", "last_sign", "kind", "text", "held", "branch"]) (sc := defScope sreplaced) (by decide +kernel)) (fun _ _ _ _ _ => pg_name (i := 11) creplaced.nd rfl (Or.inl rfl)) (fun _ _ _ _ _ => (pts_one (pt_cmpR op_ne (pe_ix (r := rIxT K) ix_tup (pv 11) pe_int (fun _ _ => rfl)) (pv 1) (nomark _)))) (fun _ _ _ _ _ => (pv 11)))
    (pss_cons (ps_if (pt_cmpR op_gt (pe_callB call_len_seq (by rfl) m_len (by decide +kernel) (pa_cons (pv 6) pa_nil)) pe_int (nomark _)) (pss_one (ps_ret (pe_tup (pa_cons pe_str (pa_cons (pv 4) (pa_cons (pe_callTy call_tuple_of (by rfl) m_tuple (by decide +kernel) (pa_cons (pv 6) pa_nil)) pa_nil)))))) pss_nil)
    (pss_cons (ps_asg (pe_ix (r := rIxL K) ix_list (pv 6) pe_int (fun _ _ => rfl)) (pg_tup (by rfl) (pgs_cons (pg_name (i := 7) creplaced.nd rfl (Or.inl rfl)) (pgs_cons (pg_tup (by rfl) (pgs_cons (pg_name (i := 8) creplaced.nd rfl (Or.inl rfl)) (pgs_cons (pg_name (i := 9) creplaced.nd rfl (Or.inl rfl)) (pgs_cons (pg_name (i := 10) creplaced.nd rfl (Or.inl rfl)) pgs_nil)))) pgs_nil))))
    (pss_one (ps_ret (pe_tup (pa_cons (pv 8) (pa_cons (pe_op op_add_str (pe_op op_add_str (pv 4) (pv 7)) (pv 9)) (pa_cons (pv 10) pa_nil))))))))))), ?_⟩
  obtain ⟨p, x1, x2, z, rfl, hp, g1, g2, g3⟩ := Dp_three hv
  cases Dp_str g1
  cases Dp_str g2
  refine ⟨_, rfl, p, _, rfl, hp, rfl, _, _, rfl, _, _, rfl, _, _, rfl, rfl, ?_⟩
  cases o with
  | some u2 =>
    have nn : decide (u = V.non) = false := decide_eq_false fun e => by
      rw [e] at hu
      have hu : Dp K H .non u2.toD := hu
      cases u2 <;> · simp only [Tr.toD] at hu; obtain ⟨_, _, e, _⟩ := Dp_tup hu; cases e
    refine ⟨_, rfl, rfl, _, rfl, ?_⟩
    show if (!decide (u = V.non)) = true then _ else _
    rw [nn]
    refine iteT ?_
    refine ⟨_, rfl, _, rfl, _, rfl, _, rfl, (by show 2 ≤ sizeLine; decide), fun m nm => ?_⟩
    have sm := same_new nm (.tup [.str (st s'), u])
    refine ⟨z, .ref m, bs, (s', u2), rfl, Dp_same sm g3, Dp_new nm (.cons (.str _) (.cons hu .nil)), hl, fun u4 H4 s4 hu4 => ⟨(by show 3 ≤ sizeLine; decide), fun c nc => q _ _ ((sm.trans s4).trans (same_new nc _)) ?_⟩⟩
    exact Dp_new nc (.cons (.str _) (.cons (.str _) (.cons hu4 .nil)))
  | none =>
    cases Dp_non hu
    refine ⟨_, rfl, rfl, _, rfl, iteF ?_⟩
    obtain ⟨a, xs, rfl, ha, hda⟩ := Dp_tup g3
    rw [toDs_br] at hda
    have hxl : xs.length = bs.length := by rw [DpAll_len hda, List.length_map]
    refine ⟨_, rfl, a, rfl, ⟨_, ha⟩, fun D nD => lc_tup (K := K) (xs := xs) (LcP K H D (fm bs (fun c => !decide (c.1 = s')) brD)) (lcp0 nD rfl) (fun _ _ _ h => sameT h.1 ha) (fun i c H2 hc h2 => ?_) (fun H2 h2 => ?_)⟩
    · obtain ⟨d, hd', hx'⟩ := DpAll_map hda hc
      have hx1 := Dp_same h2.1 hx'
      obtain ⟨r, w1, w2, rfl, hr1, j1, j2⟩ := Dp_two hx1
      cases Dp_str j1
      refine ⟨rfl, _, rfl, r, _, _, _, rfl, rfl, hr1, (rfl : atI [V.str (st d.1), w2] 0 = some (V.str (st d.1))), _, rfl, rfl, _, rfl, ?_⟩
      have ed' : decide (V.str (st d.1) = V.str (st s')) = decide (d.1 = s') := decide_eq_decide.mpr st_iff
      rw [ed']
      by_cases e : d.1 = s'
      · rw [decide_eq_true e]
        exact iteF (lcp_skip h2 (Same.refl _) (fm_no hd' (by simp [e])))
      · rw [decide_eq_false e]
        refine iteT ⟨_, rfl, ?_⟩
        exact lcp_add h2 nD (Same.refl _) hx1 (fm_yes hd' (by simp [e])) (fm_nolist brD_nolist) (brD_nolist d) (Nat.le_trans fm_len (by omega))
    rw [hxl] at h2
    obtain ⟨s2, acc, e2, d2⟩ := h2
    rw [fm_all] at d2
    have fne := hne rfl
    have hb' : ∀ b ∈ bs.filter (fun c => !decide (c.1 = s')), b.1.length ≤ 1 ∧ b.2.text.length ≤ 1000 := fun b hb2 => hb b (List.mem_filter.mp hb2).1
    have eq0 : repl t bs s' none = knt t (bs.filter fun c => !decide (c.1 = s')) := rfl
    rw [eq0] at q
    generalize bs.filter (fun c => !decide (c.1 = s')) = fs at q d2 fne hb'
    have al : acc.length = fs.length := by rw [DpAll_len d2, List.length_map]
    refine ⟨_, rfl, D, acc, rfl, .inl (SqL.of e2), _, _, rfl, rfl, _, rfl, ?_⟩
    rw [al]
    match fs, fne, d2, hb', q with
    | [b], _, d2, hb', q =>
      rw [decide_eq_false (by simp)]
      refine iteF ?_
      obtain ⟨x, xr, rfl, hx, hxr⟩ := DpAll_cons d2
      cases DpAll_nil hxr
      obtain ⟨r, w1, w2, rfl, hr1, j1, j2⟩ := Dp_two hx
      cases Dp_str j1
      obtain ⟨b1, b2⟩ := hb' b (List.mem_cons_self ..)
      obtain ⟨p3, kd, z3, rfl, hs3, hc3⟩ := Dp_tree j2
      refine ⟨_, rfl, D, _, _, .ref r, rfl, rfl, SqL.of e2, (atI_nat (j := 0) rfl), r, _, rfl, hr1, rfl, _, _, rfl, _, _, rfl, p3, _, rfl, hs3, rfl, _, _, rfl, _, _, rfl, _, _, rfl, rfl, rfl, ?_⟩
      refine ⟨_, rfl, _, rfl, _, rfl, _, _, rfl, rfl, ?_, ?_⟩
      · rw [st_len, st_len]; exact smallZ (by omega)
      rw [st_add]
      refine ⟨_, rfl, _, _, rfl, rfl, ?_, ?_⟩
      · rw [st_len, st_len, List.length_append]; exact smallZ (by omega)
      rw [st_add]
      refine ⟨_, rfl, (by show 3 ≤ sizeLine; decide), fun m nm => q _ _ (s2.trans (same_new nm _)) ?_⟩
      show Dp K _ _ (b.2.ahd (t ++ b.1)).toD
      rcases hc3 with ⟨k, e, rfl, rfl⟩ | ⟨ds, e, rfl, hz⟩
      · rw [e]; exact Dp_new nm (.cons (.str _) (.cons (.str _) (.cons (.int _) .nil)))
      · rw [e]; exact Dp_new nm (.cons (.str _) (.cons (.str _) (.cons hz .nil)))
    | b :: c :: r, _, d2, _, q =>
      rw [decide_eq_true (by simp; omega)]
      refine iteT ?_
      refine ⟨_, rfl, _, rfl, D, acc, rfl, .inl ⟨SqL.of e2, fun l nl => ?_⟩⟩
      refine ⟨(by show 3 ≤ sizeLine; decide), fun m nm => q _ _ (s2.trans ((same_new nl _).trans (same_new nm _))) ?_⟩
      show Dp K _ _ (Tr.fork t (b :: c :: r)).toD
      refine Dp_new nm (.cons (.str _) (.cons (.str _) (.cons (Dp_new nl ?_) .nil)))
      rw [toDs_br]; exact d2
theorem ok_ahead (F : Fun K "ahead" "ahead" sahead f fd) :
    FnOk P w K mg base CX0 1 f fd pahead (spAhead K) := by
  refine F.ok cahead (fun vs H Q E h => ?_) (fun cdv A outer s H vs Q E hr h => ?_)
  · obtain ⟨v, o, b, rfl, _⟩ := h
    rfl
  obtain ⟨v, o, b, rfl, hv, hb, ht, q⟩ := h
  refine ⟨_, (pss_cons (ps_if (pt_cmpR op_isN (pv 0) pe_non (nomark _)) (pss_one (ps_ret pe_non)) pss_nil)
    (pss_cons (ps_asg (pv 0) (pg_tup (by rfl) (pgs_cons (pg_name (i := 2) cahead.nd rfl (Or.inl rfl)) (pgs_cons (pg_name (i := 3) cahead.nd rfl (Or.inl rfl)) (pgs_cons (pg_name (i := 4) cahead.nd rfl (Or.inl rfl)) pgs_nil)))))
    (pss_one (ps_ret (pe_tup (pa_cons (pv 2) (pa_cons (pe_op op_add_str (pv 1) (pv 3)) (pa_cons (pv 4) pa_nil)))))))), ?_⟩
  cases o with
  | none =>
    cases Dp_non hv
    exact ⟨_, rfl, rfl, _, rfl, iteT (q .non H (Same.refl H) .non)⟩
  | some t =>
    have hl := ht t rfl
    obtain ⟨p, x, z, rfl, hs, hc⟩ := Dp_tree hv
    refine ⟨_, rfl, rfl, _, rfl, iteF ?_⟩
    refine ⟨_, rfl, p, _, rfl, hs, rfl, _, _, rfl, _, _, rfl, _, _, rfl, rfl, ?_⟩
    refine ⟨_, rfl, _, rfl, _, rfl, _, _, rfl, rfl, ?_, _, rfl, (by show 3 ≤ sizeLine; decide), fun r hr' => ?_⟩
    · rw [st_len, st_len]; exact smallZ (by omega)
    rw [st_add]
    refine q _ _ (same_new hr' _) ?_
    rcases hc with ⟨n, e, rfl, rfl⟩ | ⟨bs, e, rfl, hz⟩
    · rw [e]
      exact Dp_new hr' (.cons (.str _) (.cons (.str _) (.cons (.int _) .nil)))
    · rw [e]
      exact Dp_new hr' (.cons (.str _) (.cons (.str _) (.cons hz .nil)))
theorem ok_names0 : FnOk P w K mg base CX0 0 f fd pnames (spNames K 0) := by
  have no : ∀ vs H Q E, ¬ spNames K 0 vs H Q E := fun vs H Q E h => by
    obtain ⟨v, o, _, _, _, h5, _⟩ := h
    omega
  exact ⟨fun vs H Q E h => absurd h (no vs H Q E), fun A outer s H args us vs Q E _ _ _ _ h => absurd h (no vs H Q E)⟩
theorem ok_names1 {n : Nat} (F : Fun K "names" "names" snames f fd) (G_names : Has P w K mg base "names" pnames (n + 1) (spNames K n)) :
    FnOk P w K mg base CX0 (n + 2) f fd pnames (spNames K (n + 1)) := by
  refine F.ok cnames (fun vs H Q E h => ?_) (fun cdv A outer s H vs Q E hr h => ?_)
  · obtain ⟨v, o, rfl, _⟩ := h
    rfl
  obtain ⟨v, o, rfl, hv, hf, hd, q⟩ := h
  refine ⟨_, (pss_cons (ps_if (pt_cmpR op_isN (pv 0) pe_non (nomark _)) (pss_one (ps_ret (pe_lst pa_nil))) pss_nil)
    (pss_cons (ps_asg (pv 0) (pg_tup (by rfl) (pgs_cons (pg_name (i := 1) cnames.nd rfl (Or.inl rfl)) (pgs_cons (pg_name (i := 2) cnames.nd rfl (Or.inr rfl)) (pgs_cons (pg_name (i := 3) cnames.nd rfl (Or.inl rfl)) pgs_nil)))))
    (pss_cons (ps_if (pt_cmpR op_eq (pv 1) pe_str (nomark _)) (pss_one (ps_ret (pe_lst (pa_cons (pe_tup (pa_cons (pv 2) (pa_cons (pv 3) pa_nil))) pa_nil)))) pss_nil)
    (pss_cons (ps_set (i := 4) cnames.nd rfl (Or.inl rfl) (pe_lst pa_nil))
    (C8.pss_cut (ps_for PassesOwn.never rfl (pi_tup (pv 3)) (pg_tup (by rfl) (pgs_cons (pg_name (i := 5) cnames.nd rfl (Or.inr rfl)) (pgs_cons (pg_name (i := 6) cnames.nd rfl (Or.inl rfl)) pgs_nil))) (pss_one (ps_expr (pe_bm PySem.F.plainAttrs_list PySem.F.slot_list_extend PySem.F.type_list_extend mt_extend (pv 4) (pa_cons (pe_lc (own := [("name", 7), ("number", 8)]) (g := (gTup K 2 (gCons (gName 7) (gCons (gName 8) gNil)))) (by rfl) cnames.nd (pi_list (pe_has G_names hr (by omega) (pa_cons (pv 6) pa_nil))) (blkOk_by (own := [("name", 7), ("number", 8)]) (N := ["tree", "kind", "text", "held", "pairs", "sign", "inner", "name", "number"]) (sc := defScope snames) (by decide +kernel)) (fun _ _ _ _ _ => pg_tup rfl (pgs_cons (pg_name (i := 7) cnames.nd rfl (Or.inl rfl)) (pgs_cons (pg_name (i := 8) cnames.nd rfl (Or.inl rfl)) pgs_nil))) (fun _ _ _ _ _ => pts_nil) (fun _ _ _ _ _ => (pe_tup (pa_cons (pe_op op_add_str (pe_op op_add_str (pv 2) (pv 5)) (pv 7)) (pa_cons (pv 8) pa_nil))))) pa_nil)))))
    (pss_one (ps_ret (pv 4)))))))), ?_⟩
  cases o with
  | none =>
    cases Dp_non hv
    exact ⟨_, rfl, rfl, _, rfl, iteT ⟨(by show 0 ≤ sizeLine; decide), fun L nL => q L [] _ nL (same_new nL _) upd_same .nil⟩⟩
  | some t =>
    have ft := hf t rfl
    have tl := ft.text
    obtain ⟨p, kd, z, rfl, hs, hc⟩ := Dp_tree hv
    refine ⟨_, rfl, rfl, _, rfl, iteF ?_⟩
    refine ⟨_, rfl, p, _, rfl, hs, rfl, _, _, rfl, _, _, rfl, _, _, rfl, rfl, ?_⟩
    rcases hc with ⟨m, e, rfl, rfl⟩ | ⟨bs, e, rfl, hz⟩
    · refine ⟨_, rfl, rfl, _, rfl, iteT ?_⟩
      refine ⟨_, rfl, _, rfl, (by show 2 ≤ sizeLine; decide), fun c nc => ⟨(by show 1 ≤ sizeLine; decide), fun L nL => q L [.ref c] _ (none_back (same_new nc _) nL) ((same_new nc _).trans (same_new nL _)) upd_same ?_⟩⟩
      have e2 : rowsOf Tr.rws (some t) = [(t.text, m)] := by rw [e]; rfl
      rw [e2]
      exact .cons (Dp_same (same_new nL _) (Dp_new nc (.cons (.str _) (.cons (.int _) .nil)))) .nil
    · refine ⟨_, rfl, rfl, _, rfl, iteF ?_⟩
      have fb : Fits (.fork t.text bs) := by rw [← e]; exact ft
      have e2 : rowsOf Tr.rws (some t) = ([] : List Row) ++ (gat Tr.rws bs).map (pre t.text) := by rw [e]; show (rwss bs).map (pre t.text) = _; rw [gat_rws]; rfl
      rw [e2] at q
      have gs : (gat Tr.rws bs).length ≤ 10000 := gat_small (g := 0) (fun t bs => by show ((rwss bs).map (pre t)).length = _; rw [List.length_map, gat_rws]; omega) bnd_rws fb
      obtain ⟨a, xs, rfl, ha, hdx⟩ := Dp_tup hz
      rw [toDs_br] at hdx
      have hxl : xs.length = bs.length := by rw [DpAll_len hdx, List.length_map]
      refine ⟨(by show 0 ≤ sizeLine; decide), fun L nL => ?_⟩
      refine ⟨fun σ' H' => ∃ (y5 y6 : Option V) (acc : List V), σ' = [some (.ref p), some (.str (Str.ofString "fork")), some (.str (st t.text)), some (.ref a), some (.ref L), y5, y6, none, none] ∧ Same H H' ∧ H' L = some (.lst acc) ∧ DpAll K H' acc ((([] : List Row) ++ (gat Tr.rws bs).map (pre t.text)).map rowD), ?_, ?_⟩
      · refine ⟨_, rfl, a, rfl, ⟨_, sameT (same_new nL _) ha⟩, for_tup (xs := xs) (fun i σ H' => ∃ (y5 y6 : Option V) (acc : List V), σ = [some (.ref p), some (.str (Str.ofString "fork")), some (.str (st t.text)), some (.ref a), some (.ref L), y5, y6, none, none] ∧ Same H H' ∧ H' L = some (.lst acc) ∧ DpAll K H' acc ((([] : List Row) ++ (gat Tr.rws (bs.take i)).map (pre t.text)).map rowD))
          ⟨none, none, [], rfl, same_new nL _, upd_same, .nil⟩ (fun i σ H' hi h1 => ?_) (fun i x σ H' hx h1 => ?_) (fun σ H' h1 => ?_)⟩
        · obtain ⟨y5, y6, acc, rfl, s1, _⟩ := h1
          exact sameT s1 ha
        · obtain ⟨y5, y6, acc, rfl, s1, hL, hacc⟩ := h1
          obtain ⟨b, hb, hx0⟩ := DpAll_map hdx hx
          have hx1 := Dp_same s1 hx0
          obtain ⟨pb, z1, z2, rfl, hp, h1, h2⟩ := Dp_two hx1
          cases Dp_str h1
          have hbm : b ∈ bs := List.mem_of_getElem? hb
          obtain ⟨fs, ds, ls⟩ := fb.sub hbm
          have hdt : t.deep < n + 1 := hd
          rw [e] at hdt
          have small := (bnd_rws b.2 fs).1
          have zlen := (bnd_rws b.2 fs).2
          refine ⟨pb, _, rfl, hp, rfl, _, _, rfl, _, _, rfl, rfl, ?_⟩
          refine ⟨_, rfl, .inl ⟨rfl, _, SqL.of hL⟩, _, rfl, z2, some b.2, rfl, h2, (fun u hu => by cases hu; exact fs), (show b.2.deep < n by omega), fun M zs H1 nM sM eM dM => ⟨M, rfl, ⟨_, SqL.of eM⟩, fun D nD => lc_list (K := K) (xs := zs) (LcP K H1 D (fm (Tr.rws b.2) (fun _ => true) (fun r => rowD (pre (t.text ++ b.1) r)))) (lcp0 nD rfl) (fun _ _ _ h => h.1.seq (SqL.of eM)) (fun j y H2 hy h2 => ?_) (fun H2 h2 => ?_)⟩⟩
          · obtain ⟨r, hr, hxr⟩ := DpAll_map dM hy
            have hx2 := Dp_same h2.1 hxr
            obtain ⟨pr, w1, w2, rfl, hpr, g1, g2⟩ := Dp_two hx2
            cases Dp_str g1
            have rl := small r (List.mem_of_getElem? hr)
            refine ⟨pr, _, rfl, hpr, rfl, _, _, rfl, _, _, rfl, rfl, ?_⟩
            refine ⟨rfl, yes_if ?_⟩
            refine ⟨_, rfl, _, rfl, _, _, rfl, rfl, ?_, ?_⟩
            · rw [st_len, st_len]; exact smallZ (by omega)
            rw [st_add]
            refine ⟨_, rfl, _, _, rfl, rfl, ?_, ?_⟩
            · rw [st_len, st_len, List.length_append]; exact smallZ (by omega)
            rw [st_add]
            refine ⟨_, rfl, (by show 2 ≤ sizeLine; decide), fun c nc => ?_⟩
            exact lcp_add h2 nD (same_new nc _) (Dp_new nc (.cons (.str _) (.cons g2 .nil))) (fm_yes hr rfl) (fm_nolist fun _ => rfl) rfl (Nat.le_trans fm_len (by omega))
          have zl : zs.length = (Tr.rws b.2).length := by rw [DpAll_len dM]; show ((Tr.rws b.2).map rowD).length = _; rw [List.length_map]
          rw [zl] at h2
          obtain ⟨s2, acc2, e2', d2⟩ := h2
          rw [fm_true] at d2
          have d2' : DpAll K H2 acc2 ((((Tr.rws b.2).map (pre b.1)).map (pre t.text)).map rowD) := by
            rw [pre_pre, List.map_map]; exact d2
          obtain ⟨g1, g2, g3⟩ := list_grow nL s1 (sM.trans s2) hL hacc d2'
          have gt := gat_take Tr.rws bs i
          refine ⟨L, D, acc, acc2, rfl, rfl, (sM.trans s2) _ _ hL, e2', ?_, ?_⟩
          · have l1 := DpAll_len hacc
            have l2 := DpAll_len d2'
            simp only [List.length_map, List.length_append, List.length_cons, List.length_nil] at l1 l2
            exact smallZ (by omega)
          · refine ⟨_, _, acc ++ acc2, rfl, g1, g2, ?_⟩
            rw [gat_next hb, List.map_append (f := pre t.text), ← List.append_assoc]
            exact g3
        · obtain ⟨y5, y6, acc, rfl, s1, hL, hacc⟩ := h1
          rw [hxl, List.take_length] at hacc
          exact ⟨y5, y6, acc, rfl, s1, hL, hacc⟩
      · rintro σ' H' ⟨y5, y6, acc, rfl, s1, hL, hacc⟩
        exact ⟨_, rfl, q L acc H' nL s1 hL hacc⟩
theorem has_names (D : DefAt K mg "names" snames f fd) (b : Binds K fd pnames []) : ∀ n, Has P w K mg base "names" pnames (n + 1) (spNames K n)
  | 0 => (D.has b ok_names0).mono (by omega)
  | n + 1 => D.has b (ok_names1 D.1 (has_names D b n))
theorem ok_knots0 : FnOk P w K mg base CX0 0 f fd pknots (spKnots K 0) := by
  have no : ∀ vs H Q E, ¬ spKnots K 0 vs H Q E := fun vs H Q E h => by
    obtain ⟨v, o, _, _, _, h5, _⟩ := h
    omega
  exact ⟨fun vs H Q E h => absurd h (no vs H Q E), fun A outer s H args us vs Q E _ _ _ _ h => absurd h (no vs H Q E)⟩
theorem ok_knots1 {n : Nat} (F : Fun K "knots" "knots" sknots f fd) (G_knots : Has P w K mg base "knots" pknots (n + 1) (spKnots K n)) (m_len : mg "len" = none) :
    FnOk P w K mg base CX0 (n + 2) f fd pknots (spKnots K (n + 1)) := by
  refine F.ok cknots (fun vs H Q E h => ?_) (fun cdv A outer s H vs Q E hr h => ?_)
  · obtain ⟨v, o, rfl, _⟩ := h
    rfl
  obtain ⟨v, o, rfl, hv, hf, hd, q⟩ := h
  refine ⟨_, (pss_cons (ps_if (pt_cmpR op_isN (pv 0) pe_non (nomark _)) (pss_one (ps_ret (pe_lst pa_nil))) pss_nil)
    (pss_cons (ps_asg (pv 0) (pg_tup (by rfl) (pgs_cons (pg_name (i := 1) cknots.nd rfl (Or.inl rfl)) (pgs_cons (pg_name (i := 2) cknots.nd rfl (Or.inr rfl)) (pgs_cons (pg_name (i := 3) cknots.nd rfl (Or.inl rfl)) pgs_nil)))))
    (pss_cons (ps_if (pt_cmpR op_eq (pv 1) pe_str (nomark _)) (pss_one (ps_ret (pe_lst (pa_cons (pe_tup (pa_cons (pv 2) (pa_cons pe_int pa_nil))) pa_nil)))) pss_nil)
    (pss_cons (ps_set (i := 4) cknots.nd rfl (Or.inl rfl) (pe_lst (pa_cons (pe_tup (pa_cons (pv 2) (pa_cons (pe_callB call_len_seq (by rfl) m_len (by decide +kernel) (pa_cons (pv 3) pa_nil)) pa_nil))) pa_nil)))
    (C8.pss_cut (ps_for PassesOwn.never rfl (pi_tup (pv 3)) (pg_tup (by rfl) (pgs_cons (pg_name (i := 5) cknots.nd rfl (Or.inr rfl)) (pgs_cons (pg_name (i := 6) cknots.nd rfl (Or.inl rfl)) pgs_nil))) (pss_one (ps_expr (pe_bm PySem.F.plainAttrs_list PySem.F.slot_list_extend PySem.F.type_list_extend mt_extend (pv 4) (pa_cons (pe_lc (own := [("behind", 7), ("many", 8)]) (g := (gTup K 2 (gCons (gName 7) (gCons (gName 8) gNil)))) (by rfl) cknots.nd (pi_list (pe_has G_knots hr (by omega) (pa_cons (pv 6) pa_nil))) (blkOk_by (own := [("behind", 7), ("many", 8)]) (N := ["tree", "kind", "text", "held", "pairs", "sign", "inner", "behind", "many"]) (sc := defScope sknots) (by decide +kernel)) (fun _ _ _ _ _ => pg_tup rfl (pgs_cons (pg_name (i := 7) cknots.nd rfl (Or.inl rfl)) (pgs_cons (pg_name (i := 8) cknots.nd rfl (Or.inl rfl)) pgs_nil))) (fun _ _ _ _ _ => pts_nil) (fun _ _ _ _ _ => (pe_tup (pa_cons (pe_op op_add_str (pe_op op_add_str (pv 2) (pv 5)) (pv 7)) (pa_cons (pv 8) pa_nil))))) pa_nil)))))
    (pss_one (ps_ret (pv 4)))))))), ?_⟩
  cases o with
  | none =>
    cases Dp_non hv
    exact ⟨_, rfl, rfl, _, rfl, iteT ⟨(by show 0 ≤ sizeLine; decide), fun L nL => q L [] _ nL (same_new nL _) upd_same .nil⟩⟩
  | some t =>
    have ft := hf t rfl
    have tl := ft.text
    obtain ⟨p, kd, z, rfl, hs, hc⟩ := Dp_tree hv
    refine ⟨_, rfl, rfl, _, rfl, iteF ?_⟩
    refine ⟨_, rfl, p, _, rfl, hs, rfl, _, _, rfl, _, _, rfl, _, _, rfl, rfl, ?_⟩
    rcases hc with ⟨m, e, rfl, rfl⟩ | ⟨bs, e, rfl, hz⟩
    · refine ⟨_, rfl, rfl, _, rfl, iteT ?_⟩
      refine ⟨_, rfl, (by show 2 ≤ sizeLine; decide), fun c nc => ⟨(by show 1 ≤ sizeLine; decide), fun L nL => q L [.ref c] _ (none_back (same_new nc _) nL) ((same_new nc _).trans (same_new nL _)) upd_same ?_⟩⟩
      have e2 : rowsOf Tr.kn (some t) = [(t.text, 0)] := by rw [e]; rfl
      rw [e2]
      exact .cons (Dp_same (same_new nL _) (Dp_new nc (.cons (.str _) (.cons (.int _) .nil)))) .nil
    · refine ⟨_, rfl, rfl, _, rfl, iteF ?_⟩
      have fb : Fits (.fork t.text bs) := by rw [← e]; exact ft
      have e2 : rowsOf Tr.kn (some t) = [(t.text, (bs.length : Int))] ++ (gat Tr.kn bs).map (pre t.text) := by rw [e]; show (t.text, (bs.length : Int)) :: (knn bs).map (pre t.text) = _; rw [gat_kn]; rfl
      rw [e2] at q
      have gs : (gat Tr.kn bs).length ≤ 10000 := gat_small (g := 1) (fun t bs => by show ((t, (bs.length : Int)) :: (knn bs).map (pre t)).length = _; rw [List.length_cons, List.length_map, gat_kn]; omega) bnd_kn fb
      obtain ⟨a, xs, rfl, ha, hdx⟩ := Dp_tup hz
      rw [toDs_br] at hdx
      have hxl : xs.length = bs.length := by rw [DpAll_len hdx, List.length_map]
      refine ⟨_, rfl, _, rfl, a, xs, rfl, .inr ha, (by show 2 ≤ sizeLine; decide), fun c nc => ⟨(by show 1 ≤ sizeLine; decide), fun L nL => ?_⟩⟩
      have sc := same_new nc (.tup [.str (st t.text), .int (xs.length : Nat)])
      have sL := same_new nL (.lst [.ref c])
      have nLH := none_back sc nL
      refine ⟨fun σ' H' => ∃ (y5 y6 : Option V) (acc : List V), σ' = [some (.ref p), some (.str (Str.ofString "fork")), some (.str (st t.text)), some (.ref a), some (.ref L), y5, y6, none, none] ∧ Same H H' ∧ H' L = some (.lst acc) ∧ DpAll K H' acc (([(t.text, (bs.length : Int))] ++ (gat Tr.kn bs).map (pre t.text)).map rowD), ?_, ?_⟩
      · refine ⟨_, rfl, a, rfl, ⟨_, sameT (sc.trans sL) ha⟩, for_tup (xs := xs) (fun i σ H' => ∃ (y5 y6 : Option V) (acc : List V), σ = [some (.ref p), some (.str (Str.ofString "fork")), some (.str (st t.text)), some (.ref a), some (.ref L), y5, y6, none, none] ∧ Same H H' ∧ H' L = some (.lst acc) ∧ DpAll K H' acc (([(t.text, (bs.length : Int))] ++ (gat Tr.kn (bs.take i)).map (pre t.text)).map rowD))
          ⟨none, none, [.ref c], rfl, sc.trans sL, upd_same, .cons (Dp_same sL (Dp_new nc (.cons (.str _) (.cons (by rw [hxl]; exact .int _) .nil)))) .nil⟩ (fun i σ H' hi h1 => ?_) (fun i x σ H' hx h1 => ?_) (fun σ H' h1 => ?_)⟩
        · obtain ⟨y5, y6, acc, rfl, s1, _⟩ := h1
          exact sameT s1 ha
        · obtain ⟨y5, y6, acc, rfl, s1, hL, hacc⟩ := h1
          obtain ⟨b, hb, hx0⟩ := DpAll_map hdx hx
          have hx1 := Dp_same s1 hx0
          obtain ⟨pb, z1, z2, rfl, hp, h1, h2⟩ := Dp_two hx1
          cases Dp_str h1
          have hbm : b ∈ bs := List.mem_of_getElem? hb
          obtain ⟨fs, ds, ls⟩ := fb.sub hbm
          have hdt : t.deep < n + 1 := hd
          rw [e] at hdt
          have small := (bnd_kn b.2 fs).1
          have zlen := (bnd_kn b.2 fs).2
          refine ⟨pb, _, rfl, hp, rfl, _, _, rfl, _, _, rfl, rfl, ?_⟩
          refine ⟨_, rfl, .inl ⟨rfl, _, SqL.of hL⟩, _, rfl, z2, some b.2, rfl, h2, (fun u hu => by cases hu; exact fs), (show b.2.deep < n by omega), fun M zs H1 nM sM eM dM => ⟨M, rfl, ⟨_, SqL.of eM⟩, fun D nD => lc_list (K := K) (xs := zs) (LcP K H1 D (fm (Tr.kn b.2) (fun _ => true) (fun r => rowD (pre (t.text ++ b.1) r)))) (lcp0 nD rfl) (fun _ _ _ h => h.1.seq (SqL.of eM)) (fun j y H2 hy h2 => ?_) (fun H2 h2 => ?_)⟩⟩
          · obtain ⟨r, hr, hxr⟩ := DpAll_map dM hy
            have hx2 := Dp_same h2.1 hxr
            obtain ⟨pr, w1, w2, rfl, hpr, g1, g2⟩ := Dp_two hx2
            cases Dp_str g1
            have rl := small r (List.mem_of_getElem? hr)
            refine ⟨pr, _, rfl, hpr, rfl, _, _, rfl, _, _, rfl, rfl, ?_⟩
            refine ⟨rfl, yes_if ?_⟩
            refine ⟨_, rfl, _, rfl, _, _, rfl, rfl, ?_, ?_⟩
            · rw [st_len, st_len]; exact smallZ (by omega)
            rw [st_add]
            refine ⟨_, rfl, _, _, rfl, rfl, ?_, ?_⟩
            · rw [st_len, st_len, List.length_append]; exact smallZ (by omega)
            rw [st_add]
            refine ⟨_, rfl, (by show 2 ≤ sizeLine; decide), fun c nc => ?_⟩
            exact lcp_add h2 nD (same_new nc _) (Dp_new nc (.cons (.str _) (.cons g2 .nil))) (fm_yes hr rfl) (fm_nolist fun _ => rfl) rfl (Nat.le_trans fm_len (by omega))
          have zl : zs.length = (Tr.kn b.2).length := by rw [DpAll_len dM]; show ((Tr.kn b.2).map rowD).length = _; rw [List.length_map]
          rw [zl] at h2
          obtain ⟨s2, acc2, e2', d2⟩ := h2
          rw [fm_true] at d2
          have d2' : DpAll K H2 acc2 ((((Tr.kn b.2).map (pre b.1)).map (pre t.text)).map rowD) := by
            rw [pre_pre, List.map_map]; exact d2
          obtain ⟨g1, g2, g3⟩ := list_grow nLH s1 (sM.trans s2) hL hacc d2'
          have gt := gat_take Tr.kn bs i
          refine ⟨L, D, acc, acc2, rfl, rfl, (sM.trans s2) _ _ hL, e2', ?_, ?_⟩
          · have l1 := DpAll_len hacc
            have l2 := DpAll_len d2'
            simp only [List.length_map, List.length_append, List.length_cons, List.length_nil] at l1 l2
            exact smallZ (by omega)
          · refine ⟨_, _, acc ++ acc2, rfl, g1, g2, ?_⟩
            rw [gat_next hb, List.map_append (f := pre t.text), ← List.append_assoc]
            exact g3
        · obtain ⟨y5, y6, acc, rfl, s1, hL, hacc⟩ := h1
          rw [hxl, List.take_length] at hacc
          exact ⟨y5, y6, acc, rfl, s1, hL, hacc⟩
      · rintro σ' H' ⟨y5, y6, acc, rfl, s1, hL, hacc⟩
        exact ⟨_, rfl, q L acc H' nLH s1 hL hacc⟩
theorem has_knots (D : DefAt K mg "knots" sknots f fd) (b : Binds K fd pknots []) (m_len : mg "len" = none) : ∀ n, Has P w K mg base "knots" pknots (n + 1) (spKnots K n)
  | 0 => (D.has b ok_knots0).mono (by omega)
  | n + 1 => D.has b (ok_knots1 D.1 (has_knots D b m_len n) m_len)
theorem ok_cut0 : FnOk P w K mg base CX0 0 f fd pcut (spCutN K 0) := by
  have no : ∀ vs H Q E, ¬ spCutN K 0 vs H Q E := fun vs H Q E h => by
    obtain ⟨v, o, b, R, _, _, _, _, h5, _⟩ := h
    omega
  exact ⟨fun vs H Q E h => absurd h (no vs H Q E), fun A outer s H args us vs Q E _ _ _ _ h => absurd h (no vs H Q E)⟩
theorem ok_cut1 {n : Nat} (F : Fun K "cut" "cut" scut f fd) (G_cut : Has P w K mg base "cut" pcut (n + 2) (spCutN K n)) (G_rest : Has P w K mg base "rest" prest 1 spRest) (G_inner_of : Has P w K mg base "inner_of" pinner_of 1 (spInner K))
    (G_replaced : Has P w K mg base "replaced" preplaced 2 (spReplaced K)) : FnOk P w K mg base CX0 (n + 3) f fd pcut (spCutN K (n + 1)) := by
  refine F.ok ccut (fun vs H Q E h => ?_) (fun cdv A outer s H vs Q E hr h => ?_)
  · obtain ⟨v, o, b, R, rfl, _⟩ := h
    rfl
  obtain ⟨v, o, b, R, rfl, hv, tr, hf, hd, hb, q⟩ := h
  refine ⟨_, (pss_cons (ps_if (pt_cmpR op_isN (pv 0) pe_non (nomark _)) (pss_one (ps_ret (pe_tup (pa_cons pe_non (pa_cons pe_non pa_nil))))) pss_nil)
    (pss_cons (ps_asg (pv 0) (pg_tup (by rfl) (pgs_cons (pg_name (i := 2) ccut.nd rfl (Or.inl rfl)) (pgs_cons (pg_name (i := 3) ccut.nd rfl (Or.inl rfl)) (pgs_cons (pg_name (i := 4) ccut.nd rfl (Or.inl rfl)) pgs_nil)))))
    (pss_cons (ps_set (i := 5) ccut.nd rfl (Or.inl rfl) (pe_has G_rest hr (by omega) (pa_cons (pv 3) (pa_cons (pv 1) pa_nil))))
    (pss_cons (ps_if (pt_cmpR op_notN (pv 5) pe_non (nomark _)) (pss_one (ps_ret (pe_tup (pa_cons pe_non (pa_cons (pe_tup (pa_cons (pv 2) (pa_cons (pv 5) (pa_cons (pv 4) pa_nil)))) pa_nil))))) pss_nil)
    (pss_cons (ps_set (i := 5) ccut.nd rfl (Or.inl rfl) (pe_has G_rest hr (by omega) (pa_cons (pv 1) (pa_cons (pv 3) pa_nil))))
    (pss_cons (ps_if (PW.pt (pw_or (pt_cmpR op_eq (pv 2) pe_str (nomark _)) (pw_or1 (pt_cmpR op_isN (pv 5) pe_non (nomark _))))) (pss_one (ps_ret (pe_tup (pa_cons (pv 0) (pa_cons pe_non pa_nil))))) pss_nil)
    (pss_cons (ps_set (i := 6) ccut.nd rfl (Or.inl rfl) (pe_slice sl_str (pv 5) po_none (po_some pe_int)))
    (pss_cons (ps_asg (pe_has G_cut hr (by omega) (pa_cons (pe_has G_inner_of hr (by omega) (pa_cons (pv 4) (pa_cons (pv 6) pa_nil))) (pa_cons (pe_slice sl_str (pv 5) (po_some pe_int) po_none) pa_nil))) (pg_tup (by rfl) (pgs_cons (pg_name (i := 7) ccut.nd rfl (Or.inl rfl)) (pgs_cons (pg_name (i := 8) ccut.nd rfl (Or.inl rfl)) pgs_nil))))
    (pss_one (ps_ret (pe_tup (pa_cons (pe_has G_replaced hr (by omega) (pa_cons (pv 0) (pa_cons (pv 6) (pa_cons (pv 7) pa_nil)))) (pa_cons (pv 8) pa_nil))))))))))))), ?_⟩
  cases o with
  | none =>
    cases Dp_non hv
    have e : R = [] := tr
    subst e
    exact ⟨_, rfl, rfl, _, rfl, iteT ⟨(by show 2 ≤ sizeLine; decide), fun l nl => q _ none none _ rfl rfl (same_new nl _) (Dp_new nl (.cons .non (.cons .non .nil)))⟩⟩
  | some t =>
    have ft := hf t rfl
    have tl := ft.text
    obtain ⟨p, kd, z, rfl, hs, hc⟩ := Dp_tree hv
    have eR : t.rws = R := tr.2
    subst eR
    refine ⟨_, rfl, rfl, _, rfl, iteF ?_⟩
    refine ⟨_, rfl, p, _, rfl, hs, rfl, _, _, rfl, _, _, rfl, _, _, rfl, rfl, ?_⟩
    refine ⟨_, rfl, _, rfl, t.text, b, rfl, by omega, hb, ?_⟩
    by_cases c1 : b <+: t.text
    · rw [if_pos c1]
      refine ⟨_, rfl, rfl, _, rfl, iteT ?_⟩
      refine ⟨_, rfl, _, rfl, _, rfl, (by show 3 ≤ sizeLine; decide), fun r nr => ⟨(by show 2 ≤ sizeLine; decide), fun r2 nr2 => ?_⟩⟩
      obtain ⟨a1, a2⟩ := cut_all tr.1 c1
      refine q _ _ _ _ a1 a2 ((same_new nr _).trans (same_new nr2 _)) (Dp_new nr2 (.cons .non (.cons ?_ .nil)))
      show Dp K _ _ (t.setText (t.text.drop b.length)).toD
      rcases hc with ⟨m, e, rfl, rfl⟩ | ⟨bs, e, rfl, hz⟩
      · have e2 : t.setText (t.text.drop b.length) = .leaf (t.text.drop b.length) m := by rw [e]; rfl
        rw [e2]
        exact Dp_new nr (.cons (.str _) (.cons (.str _) (.cons (.int _) .nil)))
      · have e2 : t.setText (t.text.drop b.length) = .fork (t.text.drop b.length) bs := by rw [e]; rfl
        rw [e2]
        exact Dp_new nr (.cons (.str _) (.cons (.str _) (.cons hz .nil)))
    · rw [if_neg c1]
      refine ⟨_, rfl, rfl, _, rfl, iteF ?_⟩
      refine ⟨_, rfl, _, rfl, b, t.text, rfl, hb, by omega, ?_⟩
      have none_so : (∃ m, t = .leaf t.text m) ∨ ¬ t.text <+: b → Treed (some t) (stayR b t.rws) ∧ Treed none (goneR b t.rws) := fun h => cut_no tr.1 fun x m hx pb => by
        have pt := text_pre hx
        rcases h with ⟨k, e⟩ | h
        · rw [e] at hx
          have ex := (mem_leaf.mp hx).1
          rw [ex] at pb; exact c1 pb
        · rcases Nat.le_total t.text.length b.length with l | l
          · exact h (List.prefix_of_prefix_length_le pt pb l)
          · exact c1 (List.prefix_of_prefix_length_le pb pt l)
      have stop : ∀ {H' : Hp}, Same H H' → Treed (some t) (stayR b t.rws) ∧ Treed none (goneR b t.rws) → 2 ≤ sizeLine ∧ ∀ l, H' l = none → Q (.ref l) (upd H' l (.tup [.ref p, .non])) := fun {H'} s' ⟨a1, a2⟩ => ⟨by decide, fun l nl => q _ _ _ _ a1 a2 (s'.trans (same_new nl _)) (Dp_new nl (.cons (Dp_same s' hv) (.cons .non .nil)))⟩
      rcases hc with ⟨m, e, rfl, rfl⟩ | ⟨bs, e, rfl, hz⟩
      · refine ⟨_, rfl, rfl, _, rfl, iteT ?_⟩
        exact ⟨_, rfl, stop (Same.refl H) (none_so (.inl ⟨m, e⟩))⟩
      · refine ⟨_, rfl, rfl, _, rfl, iteF ?_⟩
        by_cases c2 : t.text <+: b
        · rw [if_pos c2]
          refine ⟨_, rfl, rfl, _, rfl, iteF ?_⟩
          obtain ⟨y, ey⟩ := c2
          have ed : b.drop t.text.length = y := by rw [← ey, List.drop_left]
          have yne : y ≠ [] := fun z => c1 (by rw [z, List.append_nil] at ey; rw [ey]; exact List.prefix_refl _)
          have yl : y.length ≤ 1000 := by rw [← ed, List.length_drop]; omega
          have zy : (st y).length ≤ sizeLine := by rw [st_len]; exact smallZ (by omega)
          rw [ed]
          have fb : Fits (.fork t.text bs) := by rw [← e]; exact ft
          have w := wfB_iff.mp fb.1.2
          refine ⟨_, rfl, 1, rfl, _, rfl, zy, ?_⟩
          rw [show cutS (st y) none (some 1) = _ from cut_to _ 1]
          refine ⟨_, rfl, _, rfl, z, bs, y.take 1, rfl, hz, fun u hu => ?_⟩
          refine ⟨_, rfl, 1, rfl, _, rfl, zy, ?_⟩
          rw [show cutS (st y) (some 1) none = _ from cut_from _ 1]
          have hdt : t.deep < n + 1 := hd
          rw [e] at hdt
          have wi : ∀ t', innr bs (y.take 1) = some t' → Wf t' := fun t' h' => (w.1 _ (innr_mem h')).2.2
          have di : dpt (innr bs (y.take 1)) < n := by
            cases hi : innr bs (y.take 1) with
            | none =>
              have := deeps_pos fb.1
              simp only [Tr.deep] at hdt
              show 0 < n
              omega
            | some u' =>
              have := (fb.sub (innr_mem hi)).2.1
              show u'.deep < n
              simp only at this
              omega
          refine ⟨u, innr bs (y.take 1), y.drop 1, rO (innr bs (y.take 1)), rfl, hu, treed_of wi, fun t' h' => (fb.sub (innr_mem h')).1, di, by rw [List.length_drop]; omega, fun r o1 o2 H1 t1 t2 s1 hr1 => ?_⟩
          obtain ⟨p2, l1, l2, rfl, hp2, d1, d2⟩ := Dp_two hr1
          refine ⟨p2, _, rfl, hp2, rfl, _, _, rfl, _, _, rfl, rfl, ?_⟩
          obtain ⟨a1, a2⟩ := cut_in fb.1 yne t1 t2
          have hv1 := Dp_same s1 hv
          rw [e] at hv1
          refine ⟨_, rfl, _, rfl, _, rfl, .ref p, l1, t.text, bs, y.take 1, o1, rfl, hv1, d1, fb.len, tl, by rw [List.length_take]; omega, fun c hc => ?_, fun _ => filt_ne w.2 fb.1.1, fun u4 H4 s4 hu4 => ?_⟩
          · have := fb.sub hc
            exact ⟨this.2.2, this.1.text⟩
          refine ⟨_, rfl, (by show 2 ≤ sizeLine; decide), fun l nl => ?_⟩
          rw [ey, ← e] at a1 a2
          refine q _ _ _ _ a1 a2 ((s1.trans s4).trans (same_new nl _)) (Dp_new nl (.cons hu4 (.cons (Dp_same s4 d2) .nil)))
        · rw [if_neg c2]
          refine ⟨_, rfl, rfl, _, rfl, iteT ?_⟩
          exact ⟨_, rfl, stop (Same.refl H) (none_so (.inr c2))⟩
theorem has_cut (D : DefAt K mg "cut" scut f fd) (b : Binds K fd pcut []) (G_rest : Has P w K mg base "rest" prest 1 spRest) (G_inner_of : Has P w K mg base "inner_of" pinner_of 1 (spInner K)) (G_replaced : Has P w K mg base "replaced" preplaced 2 (spReplaced K)) :
    ∀ n, Has P w K mg base "cut" pcut (n + 2) (spCutN K n)
  | 0 => D.has b (ok_cut0.mono (Nat.zero_le _))
  | n + 1 => D.has b (ok_cut1 D.1 (has_cut D b G_rest G_inner_of G_replaced n) G_rest G_inner_of G_replaced)
theorem ok_joined0 {CN : Addr} : FnOk P w K mg base (L2.CX P w) 0 f fd pjoined (spJoinedN K CN 0) := by
  have no : ∀ vs H Q E, ¬ spJoinedN K CN 0 vs H Q E := fun vs H Q E h => by
    obtain ⟨v, w', o1, o2, _, _, _, h5, _⟩ := h
    omega
  exact ⟨fun vs H Q E h => absurd h (no vs H Q E), fun A outer s H args us vs Q E _ _ _ _ h => absurd h (no vs H Q E)⟩
theorem ok_joined1 {n : Nat} {CN CT : Addr} (F : Fun K "joined" "joined" sjoined f fd) (TTaken : ErrTxt K mg "Taken" CN CT) (G_joined : HasX P w K mg base "joined" pjoined (n + 1) (spJoinedN K CN n)) (G_common : Has P w K mg base "common" pcommon 1 spCommon)
    (G_branches_behind : Has P w K mg base "branches_behind" pbranches_behind 1 (spBehind K)) (G_placed : Has P w K mg base "placed" pplaced 1 (spPlaced K)) (G_inner_of : Has P w K mg base "inner_of" pinner_of 1 (spInner K)) :
    FnOk P w K mg base (L2.CX P w) (n + 2) f fd pjoined (spJoinedN K CN (n + 1)) := by
  refine F.okX cjoined (fun vs H Q E h => ?_) (fun cdv A outer s H vs Q E hr h => ?_)
  · obtain ⟨v, w', o1, o2, rfl, _⟩ := h
    rfl
  obtain ⟨v, w', o1, o2, rfl, ⟨h1, j1⟩, ⟨h2, j2⟩, hd, qe, qn⟩ := h
  refine ⟨_, (pss_cons (ps_if (pt_cmpR op_isN (pv 0) pe_non (nomark _)) (pss_one (ps_ret (pv 1))) pss_nil)
    (pss_cons (ps_if (pt_cmpR op_isN (pv 1) pe_non (nomark _)) (pss_one (ps_ret (pv 0))) pss_nil)
    (C8.pss_cut (ps_if (PW.pt (pw_and (pt_cmpR op_eq (pe_ix (r := rIxT K) ix_tup (pv 0) pe_int (fun _ _ => rfl)) pe_str (nomark _)) (pw_and1 (pt_cmpR (op_eqD hr.units) (pe_slice sl_tup (pv 0) po_none (po_some pe_int)) (pe_slice sl_tup (pv 1) po_none (po_some pe_int)) (nomark _))))) (pss_one (ps_raise rfl (takes_of rfl rfl rfl rfl) (SkE.pmk_own1 PySem.F.excBase_ValueError TTaken.xN TTaken.gN TTaken.kN (raises_own TTaken.bN TTaken.tN) (by rfl) pe_str))) pss_nil)
    (pss_cons (ps_set (i := 2) cjoined.nd rfl (Or.inl rfl) (pe_has G_common hr (by omega) (pa_cons (pe_ix (r := rIxT K) ix_tup (pv 0) pe_int (fun _ _ => rfl)) (pa_cons (pe_ix (r := rIxT K) ix_tup (pv 1) pe_int (fun _ _ => rfl)) pa_nil))))
    (pss_cons (ps_set (i := 3) cjoined.nd rfl (Or.inl rfl) (pe_has G_branches_behind hr (by omega) (pa_cons (pv 0) (pa_cons (pv 2) pa_nil))))
    (pss_cons (ps_for (passes_of rfl) rfl (pi_tup (pe_has G_branches_behind hr (by omega) (pa_cons (pv 1) (pa_cons (pv 2) pa_nil)))) (pg_tup (by rfl) (pgs_cons (pg_name (i := 4) cjoined.nd rfl (Or.inl rfl)) (pgs_cons (pg_name (i := 5) cjoined.nd rfl (Or.inl rfl)) pgs_nil))) (pss_one (ps_set (i := 3) cjoined.nd rfl (Or.inl rfl) (pe_has G_placed hr (by omega) (pa_cons (pv 3) (pa_cons (pe_tup (pa_cons (pv 4) (pa_cons (pe_hasX (E := E) G_joined hr (by omega) (passes_call (takes_of rfl rfl rfl rfl) fun _ _ _ _ h => h) (pa_cons (pe_has G_inner_of hr (by omega) (pa_cons (pv 3) (pa_cons (pv 4) pa_nil))) (pa_cons (pv 5) pa_nil))) pa_nil))) pa_nil))))))
    (pss_one (ps_ret (pe_tup (pa_cons pe_str (pa_cons (pv 2) (pa_cons (pv 3) pa_nil)))))))))))), ?_⟩
  cases o1 with
  | none =>
    cases Dp_non h1
    exact ⟨_, rfl, rfl, _, rfl, iteT ⟨_, rfl, qn (fun ⟨x, m, k, e, _⟩ => by simp [rO] at e) o2 w' H (fun t e => (j2 t e).wf) (fun r => by simp [rO]) (Same.refl H) h2⟩⟩
  | some t =>
  cases o2 with
  | none =>
    cases Dp_non h2
    obtain ⟨p1, k1, z1, rfl, hs1, hk1, hc1⟩ := Dp_kind h1
    exact ⟨_, rfl, rfl, _, rfl, iteF ⟨_, rfl, rfl, _, rfl, iteT ⟨_, rfl, qn (fun ⟨x, m, k, _, e⟩ => by simp [rO] at e) (some t) (.ref p1) H (fun t e => (j1 t e).wf) (fun r => by simp [rO]) (Same.refl H) h1⟩⟩⟩
  | some u =>
  have t1 := j1 t rfl
  have u1 := j2 u rfl
  have tl := t1.fits.text
  have ul := u1.fits.text
  have ta := t1.asc.text t1.wf
  have ua := u1.asc.text u1.wf
  obtain ⟨p1, k1, z1, rfl, hs1, hk1, hc1⟩ := Dp_kind h1
  obtain ⟨p2, k2, z2, rfl, hs2, hk2, hc2⟩ := Dp_kind h2
  refine ⟨_, rfl, rfl, _, rfl, iteF ⟨_, rfl, rfl, _, rfl, iteF ?_⟩⟩
  refine ⟨fun σ' H' => σ' = [some (.ref p1), some (.ref p2), none, none, none, none] ∧ Same H H' ∧ ¬ ((∃ n, t = .leaf t.text n) ∧ (∃ n, u = .leaf u.text n) ∧ t.text = u.text), ?_, ?_⟩
  · refine ⟨_, rfl, p1, _, _, _, rfl, rfl, hs1, (rfl : atI [V.str k1, V.str (st t.text), z1] 0 = some (V.str k1)), rfl, _, rfl, ?_⟩
    rcases hc1 with ⟨rfl, n1, e1, rfl⟩ | ⟨rfl, bs, e1, hz1⟩
    · rw [decide_eq_true (rfl : V.str (Str.ofString "leaf") = V.str (Str.ofString "leaf"))]
      refine iteT ?_
      refine ⟨_, rfl, 2, rfl, p1, _, rfl, hs1, (fun e => absurd e.2 (by show HT.sIx 3 3 (some 2) ≠ 3; decide +kernel)), fun pa na => ?_⟩
      have sa := same_new na (.tup (cutV [V.str (Str.ofString "leaf"), V.str (st t.text), V.int n1] none (some 2)))
      have ha : Dp K (upd H pa (.tup (cutV [V.str (Str.ofString "leaf"), V.str (st t.text), V.int n1] none (some 2)))) (.ref pa) (headD (Str.ofString "leaf") t.text) := Dp_new na (show DpAll K H [V.str (Str.ofString "leaf"), V.str (st t.text)] _ from .cons (.str _) (.cons (.str _) .nil))
      generalize hHa : upd H pa (.tup (cutV [V.str (Str.ofString "leaf"), V.str (st t.text), V.int n1] none (some 2))) = Ha at sa ha
      refine ⟨_, rfl, 2, rfl, p2, _, rfl, sameT sa hs2, (fun e => absurd e.2 (by show HT.sIx 3 3 (some 2) ≠ 3; decide +kernel)), fun pb nb => ?_⟩
      have sb := same_new nb (.tup (cutV [V.str k2, V.str (st u.text), z2] none (some 2)))
      have hb : Dp K (upd Ha pb (.tup (cutV [V.str k2, V.str (st u.text), z2] none (some 2)))) (.ref pb) (headD k2 u.text) := Dp_new nb (show DpAll K Ha [V.str k2, V.str (st u.text)] _ from .cons (.str _) (.cons (.str _) .nil))
      have hab := Dp_same sb ha
      have sab := sa.trans sb
      generalize hHb : upd Ha pb (.tup (cutV [V.str k2, V.str (st u.text), z2] none (some 2))) = Hb at sb hb hab sab
      refine ⟨headD (Str.ofString "leaf") t.text, headD k2 u.text, hab, hb, head_shaped hk1 ta, head_shaped hk2 ua, _, rfl, ?_⟩
      rw [head_eqv]
      by_cases c : Str.ofString "leaf" = k2 ∧ t.text = u.text
      · rw [decide_eq_true c.1, decide_eq_true c.2]
        refine iteT ?_
        refine qe ?_ Hb sab
        rcases hc2 with ⟨_, n2, e2, _⟩ | ⟨e, _⟩
        · refine ⟨t.text, n1, n2, ?_, ?_⟩
          · show _ ∈ t.rws; rw [e1]; simp [Tr.rws, Tr.text]
          · show _ ∈ u.rws; rw [e2, ← c.2]; simp [Tr.rws]
        · exact absurd (c.1.trans e) (by decide +kernel)
      · have cf : (decide (Str.ofString "leaf" = k2) && decide (t.text = u.text)) = false := by
          rw [Bool.and_eq_false_iff]
          by_cases c1 : Str.ofString "leaf" = k2
          · exact .inr (decide_eq_false fun c2 => c ⟨c1, c2⟩)
          · exact .inl (decide_eq_false c1)
        rw [cf]
        refine iteF ⟨rfl, sab, fun ⟨_, ⟨n2, e2⟩, e3⟩ => c ⟨?_, e3⟩⟩
        rcases hc2 with ⟨e, _⟩ | ⟨_, cs, e, _⟩
        · exact e.symm
        · rw [e] at e2; cases e2
    · rw [decide_eq_false (show ¬ V.str (Str.ofString "fork") = V.str (Str.ofString "leaf") from fun e => absurd (V.str.inj e) (by decide +kernel))]
      refine iteF ⟨rfl, Same.refl H, fun ⟨⟨n2, e2⟩, _⟩ => ?_⟩
      rw [e1] at e2; cases e2
  rintro σ' H2 ⟨rfl, s2, ne⟩
  have l1 := lcp_le1 t.text u.text
  have l2 := lcp_le2 t.text u.text
  have cl : (t.text.take (lcp t.text u.text)).length = lcp t.text u.text := by rw [List.length_take]; omega
  have hs12 := sameT s2 hs1
  have hs22 := sameT s2 hs2
  refine ⟨_, rfl, p1, _, _, _, rfl, rfl, hs12, (rfl : atI [V.str k1, V.str (st t.text), z1] 1 = some (V.str (st t.text))), _, rfl, p2, _, _, _, rfl, rfl, hs22, (rfl : atI [V.str k2, V.str (st u.text), z2] 1 = some (V.str (st u.text))), t.text, u.text, rfl, by omega, by omega, fun H3 s3 => ?_⟩
  have s03 := s2.trans s3
  refine ⟨_, rfl, _, rfl, .ref p1, t, t.text.take (lcp t.text u.text), rfl, Dp_same s03 h1, tl, by omega, fun bv H4 s4 hb4 => ?_⟩
  have s04 := s03.trans s4
  refine ⟨_, rfl, _, rfl, .ref p2, u, t.text.take (lcp t.text u.text), rfl, Dp_same s04 h2, ul, by omega, fun cv H5 s5 hc5 => ?_⟩
  have s05 := s04.trans s5
  have hb5 := Dp_same s5 hb4
  obtain ⟨a, xs, rfl, ha, hda⟩ := Dp_tup hc5
  rw [toDs_br] at hda
  have hxl : xs.length = (behB u (t.text.take (lcp t.text u.text))).length := by rw [DpAll_len hda, List.length_map]
  have wb := (beh_wf t1.wf l1).1
  have wc : WfB (behB u (t.text.take (lcp t.text u.text))) := by rw [lcp_take]; exact (beh_wf u1.wf l2).1
  have bl := t1.beh_len l1
  have cl2 : (behB u (t.text.take (lcp t.text u.text))).length ≤ 1000 := by rw [lcp_take]; exact u1.beh_len l2
  have shr : ∀ {s : List Nat} {v : Tr}, (s, v) ∈ behB u (t.text.take (lcp t.text u.text)) → Share (rO (innr (behB t (t.text.take (lcp t.text u.text))) s)) v.rws → Share (rO (some t)) (rO (some u)) := fun {s v} hm sh => by
    refine share_up t1.wf u1.wf (s := s) ?_
    rw [mem_innr (wfB_iff.mp wc).2 hm]; exact sh
  have dep := fun {c : List Nat × Tr} (hc : c ∈ behB u (t.text.take (lcp t.text u.text))) => beh_deep t1 u1 ne hc
  have jt1 : ∀ {s : List Nat} {v : Tr}, innr (behB t (t.text.take (lcp t.text u.text))) s = some v → JT v := fun hi => (t1.beh l1 (innr_mem hi)).1
  have jt2 : ∀ {c : List Nat × Tr}, c ∈ behB u (t.text.take (lcp t.text u.text)) → JT c.2 := fun hc => by
    rw [lcp_take] at hc; exact (u1.beh l2 hc).1
  have fin := fun {ds : List (List Nat × Tr)} {k : Nat} (hk : (behB u (t.text.take (lcp t.text u.text))).length ≤ k) (j : Jn (behB t (t.text.take (lcp t.text u.text))) (behB u (t.text.take (lcp t.text u.text))) k ds) => jn_all t1.wf u1.wf ne hk j
  generalize hB : behB t (t.text.take (lcp t.text u.text)) = B at *
  generalize hC : behB u (t.text.take (lcp t.text u.text)) = C at *
  generalize hP : t.text.take (lcp t.text u.text) = pp at *
  have hd' : t.deep + u.deep < n + 1 := hd
  refine ⟨a, rfl, ⟨_, ha⟩, for_tup (xs := xs) (fun i σ H' => ∃ (y4 y5 : Option V) (bv' : V) (ds : List (List Nat × Tr)), σ = [some (.ref p1), some (.ref p2), some (.str (st pp)), some bv', y4, y5] ∧ Same H5 H' ∧ Jn B C i ds ∧ ds.length ≤ 1000 + i ∧ Dp K H' bv' (.tuple (toDs ds)))
    ⟨none, none, bv, B, rfl, Same.refl _, jn0 wb, bl, hb5⟩ (fun i σ H' hi h1 => ?_) (fun i x σ H' hx h1 => ?_) (fun σ H' h1 => ?_)⟩
  · obtain ⟨_, _, _, _, _, s', _⟩ := h1
    exact sameT s' ha
  · obtain ⟨y4, y5, bv', ds, rfl, s', jn, dl, hbv⟩ := h1
    obtain ⟨c, hc, hxc⟩ := DpAll_map hda hx
    have hcm : c ∈ C := List.mem_of_getElem? hc
    have hlt := (List.getElem?_eq_some_iff.mp hc).1
    obtain ⟨r, w1, w2, rfl, hr1, g1, g2⟩ := Dp_two (Dp_same s' hxc)
    cases Dp_str g1
    refine ⟨r, _, rfl, hr1, rfl, _, _, rfl, _, _, rfl, rfl, ?_⟩
    have eo := jn.old c.1 (jn_ahead wc hc)
    refine ⟨_, rfl, _, rfl, _, rfl, _, rfl, bv', ds, c.1, rfl, hbv, fun iv hiv => ?_⟩
    rw [eo] at hiv
    refine ⟨_, rfl, iv, w2, innr B c.1, some c.2, rfl, ⟨hiv, fun v e => jt1 e⟩, ⟨g2, fun v e => by cases e; exact jt2 hcm⟩, ?_, fun sh H6 s6 => ?_, fun ns o uu H6 wf hm s6 huu => ?_⟩
    · have := dep hcm
      show dpt (innr B c.1) + c.2.deep < n
      omega
    · exact qe (shr hcm sh) H6 ((s05.trans s').trans s6)
    · obtain ⟨row, hrow⟩ := rws_ne c.2 (jt2 hcm).wf
      have : row ∈ rO o := (hm row).mpr (.inr hrow)
      cases o with
      | none => simp [rO] at this
      | some ou =>
        refine ⟨(by show 2 ≤ sizeLine; decide), fun m nm => ?_⟩
        have sm := same_new nm (.tup [.str (st c.1), uu])
        refine ⟨bv', .ref m, ds, (c.1, ou), rfl, Dp_same (s6.trans sm) hbv, Dp_new nm (.cons (.str _) (.cons huu .nil)), by omega, fun bv2 H7 s7 hb2 => ?_⟩
        have pl := placed_len ds (c.1, ou)
        exact ⟨_, _, bv2, placed ds (c.1, ou), rfl, (s'.trans (s6.trans sm)).trans s7, jn_succ jn wb wc hc ns (wf ou rfl) hm, by omega, hb2⟩
  · obtain ⟨y4, y5, bv', ds, rfl, s', jn, dl, hbv⟩ := h1
    obtain ⟨a1, a2, a3⟩ := fin (k := xs.length) (by omega) jn
    refine ⟨_, rfl, _, rfl, (by show 3 ≤ sizeLine; decide), fun m nm => ?_⟩
    refine qn a3 (some (.fork pp ds)) _ _ (fun t' e => by cases e; exact a1) a2 ((s05.trans s').trans (same_new nm _)) ?_
    exact Dp_new nm (.cons (.str _) (.cons (.str _) (.cons hbv .nil)))
theorem has_joined {CN CT : Addr} (D : DefAt K mg "joined" sjoined f fd) (b : Binds K fd pjoined []) (TTaken : ErrTxt K mg "Taken" CN CT) (G_common : Has P w K mg base "common" pcommon 1 spCommon)
    (G_branches_behind : Has P w K mg base "branches_behind" pbranches_behind 1 (spBehind K)) (G_placed : Has P w K mg base "placed" pplaced 1 (spPlaced K)) (G_inner_of : Has P w K mg base "inner_of" pinner_of 1 (spInner K)) :
    ∀ n, HasX P w K mg base "joined" pjoined (n + 1) (spJoinedN K CN n)
  | 0 => D.hasX b (ok_joined0.mono (Nat.zero_le _))
  | n + 1 => D.hasX b (ok_joined1 D.1 TTaken (has_joined D b TTaken G_common G_branches_behind G_placed G_inner_of n) G_common G_branches_behind G_placed G_inner_of)
theorem ok_Pparted {CT CNotThere : Addr} (F : Fun K "_parted" "_parted" sPparted f fd) (TNotThere : ErrTxt K mg "NotThere" CNotThere CT)
    (G_cut : Has P w K mg base "cut" pcut 52 (spCut K)) :
    FnOk P w K mg base (L2.CX P w) 53 f fd pPparted (spParted K CNotThere) := by
  refine F.okX cPparted (fun vs H Q E h => ?_) (fun cdv A outer s H vs Q E hr h => ?_)
  · obtain ⟨v, o, b, R, rfl, _⟩ := h
    rfl
  obtain ⟨v, o, b, R, rfl, hv, tr, hf, hd, hb, ht, qe, qn⟩ := h
  refine ⟨_, (pss_cons (ps_asg (pe_has G_cut hr (by omega) (pa_cons (pv 0) (pa_cons (pv 1) pa_nil))) (pg_tup (by rfl) (pgs_cons (pg_name (i := 2) cPparted.nd rfl (Or.inl rfl)) (pgs_cons (pg_name (i := 3) cPparted.nd rfl (Or.inl rfl)) pgs_nil))))
    (pss_cons (ps_if (pt_cmpR op_isN (pv 3) pe_non (nomark _)) (pss_one (ps_raise rfl (takes_of rfl rfl rfl rfl) (SkE.pmk_own1 PySem.F.excBase_ValueError TNotThere.xN TNotThere.gN TNotThere.kN (raises_own TNotThere.bN TNotThere.tN) (by rfl) (pe_joined (.cons pe_str (.cons (pe_fmtR (pv 1)) .nil)))))) pss_nil)
    (pss_one (ps_ret (pe_tup (pa_cons (pv 2) (pa_cons (pv 3) pa_nil))))))), ?_⟩
  refine ⟨_, rfl, _, rfl, v, o, b, R, rfl, hv, tr, hf, hd, by omega, fun u o1 o2 H1 t1 t2 s1 hu => ?_⟩
  obtain ⟨p, l1, l2, rfl, hp, d1, d2⟩ := Dp_two hu
  refine ⟨p, _, rfl, hp, rfl, _, _, rfl, _, _, rfl, rfl, ?_⟩
  have rs := repr_small (l := b) (by omega) ht
  cases o2 with
  | none =>
    cases Dp_non d2
    refine ⟨_, rfl, rfl, _, rfl, iteT ?_⟩
    refine ⟨_, rfl, by decide +kernel, _, rfl, .inl ⟨_, rfl, smallZ rs, _, rfl, ?_, qe ((treed_nil t2).mp rfl) _ s1⟩⟩
    have h0 : (Str.empty ++ Str.ofString "no name begins with ").length ≤ 100 := by decide +kernel
    rw [str_app_len]
    exact Nat.le_trans (Nat.add_le_add h0 rs) (by decide)
  | some u2 =>
    have nn : decide (l2 = V.non) = false := decide_eq_false fun e => by
      rw [e] at d2
      have d2 : Dp K H1 .non u2.toD := d2
      cases u2 <;> · simp only [Tr.toD] at d2; obtain ⟨_, _, e, _⟩ := Dp_tup d2; cases e
    refine ⟨_, rfl, rfl, _, rfl, ?_⟩
    rw [nn]
    refine iteF ?_
    refine ⟨_, rfl, _, rfl, (by show 2 ≤ sizeLine; decide), fun m nm => qn (fun e => ?_) _ o1 (some u2) _ t1 t2 (s1.trans (same_new nm _)) (Dp_new nm (.cons d1 (.cons d2 .nil)))⟩
    have := (treed_nil t2).mpr e
    cases this
theorem ok_moved {CT CNotThere CTaken : Addr} (F : Fun K "moved" "moved" smoved f fd) (TNotThere : ErrTxt K mg "NotThere" CNotThere CT) (TTaken : ErrTxt K mg "Taken" CTaken CT)
    (G_Pparted : HasX P w K mg base "_parted" pPparted 53 (spParted K CNotThere))
    (G_joined : HasX P w K mg base "joined" pjoined 100 (spJoined K CTaken))
    (G_ahead : Has P w K mg base "ahead" pahead 1 (spAhead K)) :
    FnOk P w K mg base (L2.CX P w) 102 f fd pmoved (spMoved K CNotThere CTaken stayR) := by
  refine F.okX cmoved (fun vs H Q E h => ?_) (fun cdv A outer s H vs Q E hr h => ?_)
  · obtain ⟨v, o, R, b, c, rfl, _⟩ := h
    rfl
  obtain ⟨v, o, R, b, c, rfl, hv, tr, g, hb, hc, tb, tc, q1, q2, q3⟩ := h
  refine ⟨_, (pss_cons (ps_asg (pe_hasX (E := E) G_Pparted hr (by omega) (passes_call (takes_of rfl rfl rfl rfl) fun _ _ _ _ h => h) (pa_cons (pv 0) (pa_cons (pv 1) pa_nil))) (pg_tup (by rfl) (pgs_cons (pg_name (i := 3) cmoved.nd rfl (Or.inl rfl)) (pgs_cons (pg_name (i := 4) cmoved.nd rfl (Or.inl rfl)) pgs_nil))))
    (pss_one (ps_ret (pe_hasX (E := E) G_joined hr (by omega) (passes_call (takes_of rfl rfl rfl rfl) fun _ _ _ _ h => h) (pa_cons (pv 3) (pa_cons (pe_has G_ahead hr (by omega) (pa_cons (pv 4) (pa_cons (pv 2) pa_nil))) pa_nil)))))), ?_⟩
  obtain ⟨ff, fd50⟩ := good_fits tr g
  refine ⟨_, rfl, _, rfl, v, o, b, R, rfl, hv, tr, ff, fd50, by omega, fun x hx => tab_ok x (tb x hx), fun e => q1 (fresh_nil.mpr e), fun ne u o1 o2 H1 t1 t2 s1 hu => ?_⟩
  have ne' : freshR b c R ≠ [] := fun e => ne (fresh_nil.mp e)
  obtain ⟨p, l1, l2, rfl, hp, d1, d2⟩ := Dp_two hu
  refine ⟨p, _, rfl, hp, rfl, _, _, rfl, _, _, rfl, rfl, ?_⟩
  have f2 := (good_fits t2 (gone_good g)).1
  refine ⟨_, rfl, _, rfl, _, rfl, l2, o2, c, rfl, d2, by omega, fun t e => (f2 t e).text, fun v3 H2 s2 h3 => ?_⟩
  exact ⟨l1, v3, o1, o2.map (Tr.ahd c), stayR b R, freshR b c R, rfl, good_inJ (Dp_same s2 d1) t1 (stay_good g), fresh_inJ h3 t2 g hc tc, fun sh H' s' => q2 ne' sh H' ((s1.trans s2).trans s'), fun ns o4 T u4 H' bo t4 s' hu4 => q3 ne' ns o4 T u4 H' bo t4 ((s1.trans s2).trans s') hu4⟩
theorem ok_copied {CT CNotThere CTaken : Addr} (F : Fun K "copied" "copied" scopied f fd) (TNotThere : ErrTxt K mg "NotThere" CNotThere CT) (TTaken : ErrTxt K mg "Taken" CTaken CT)
    (G_Pparted : HasX P w K mg base "_parted" pPparted 53 (spParted K CNotThere))
    (G_joined : HasX P w K mg base "joined" pjoined 100 (spJoined K CTaken))
    (G_ahead : Has P w K mg base "ahead" pahead 1 (spAhead K)) :
    FnOk P w K mg base (L2.CX P w) 102 f fd pcopied (spMoved K CNotThere CTaken (fun _ R => R)) := by
  refine F.okX ccopied (fun vs H Q E h => ?_) (fun cdv A outer s H vs Q E hr h => ?_)
  · obtain ⟨v, o, R, b, c, rfl, _⟩ := h
    rfl
  obtain ⟨v, o, R, b, c, rfl, hv, tr, g, hb, hc, tb, tc, q1, q2, q3⟩ := h
  refine ⟨_, (pss_cons (ps_asg (pe_hasX (E := E) G_Pparted hr (by omega) (passes_call (takes_of rfl rfl rfl rfl) fun _ _ _ _ h => h) (pa_cons (pv 0) (pa_cons (pv 1) pa_nil))) (pg_tup (by rfl) (pgs_cons (pg_name (i := 3) ccopied.nd rfl (Or.inl rfl)) (pgs_cons (pg_name (i := 4) ccopied.nd rfl (Or.inl rfl)) pgs_nil))))
    (pss_one (ps_ret (pe_hasX (E := E) G_joined hr (by omega) (passes_call (takes_of rfl rfl rfl rfl) fun _ _ _ _ h => h) (pa_cons (pv 0) (pa_cons (pe_has G_ahead hr (by omega) (pa_cons (pv 4) (pa_cons (pv 2) pa_nil))) pa_nil)))))), ?_⟩
  obtain ⟨ff, fd50⟩ := good_fits tr g
  refine ⟨_, rfl, _, rfl, v, o, b, R, rfl, hv, tr, ff, fd50, by omega, fun x hx => tab_ok x (tb x hx), fun e => q1 (fresh_nil.mpr e), fun ne u o1 o2 H1 t1 t2 s1 hu => ?_⟩
  have ne' : freshR b c R ≠ [] := fun e => ne (fresh_nil.mp e)
  obtain ⟨p, l1, l2, rfl, hp, d1, d2⟩ := Dp_two hu
  refine ⟨p, _, rfl, hp, rfl, _, _, rfl, _, _, rfl, rfl, ?_⟩
  have f2 := (good_fits t2 (gone_good g)).1
  refine ⟨_, rfl, _, rfl, _, rfl, l2, o2, c, rfl, d2, by omega, fun t e => (f2 t e).text, fun v3 H2 s2 h3 => ?_⟩
  exact ⟨v, v3, o, o2.map (Tr.ahd c), R, freshR b c R, rfl, good_inJ (Dp_same (s1.trans s2) hv) tr g, fresh_inJ h3 t2 g hc tc, fun sh H' s' => q2 ne' sh H' ((s1.trans s2).trans s'), fun ns o4 T u4 H' bo t4 s' hu4 => q3 ne' ns o4 T u4 H' bo t4 ((s1.trans s2).trans s') hu4⟩
theorem ok_found0 : FnOk P w K mg base CX0 0 f fd pfound (spFound K 0) := by
  have no : ∀ vs H Q E, ¬ spFound K 0 vs H Q E := fun vs H Q E h => by
    obtain ⟨v, o, x, _, _, _, h5, _⟩ := h
    omega
  exact ⟨fun vs H Q E h => absurd h (no vs H Q E), fun A outer s H args us vs Q E _ _ _ _ h => absurd h (no vs H Q E)⟩
theorem ok_found1 {n : Nat} (F : Fun K "found" "found" sfound f fd) (G_found : Has P w K mg base "found" pfound (n + 1) (spFound K n)) (G_rest : Has P w K mg base "rest" prest 1 spRest) (G_inner_of : Has P w K mg base "inner_of" pinner_of 1 (spInner K)) :
    FnOk P w K mg base CX0 (n + 2) f fd pfound (spFound K (n + 1)) := by
  refine F.ok cfound (fun vs H Q E h => ?_) (fun cdv A outer s H vs Q E hr h => ?_)
  · obtain ⟨v, o, x, rfl, _⟩ := h
    rfl
  obtain ⟨v, o, x, rfl, hv, hf, hd, hx, q⟩ := h
  refine ⟨_, (pss_cons (ps_if (pt_cmpR op_isN (pv 0) pe_non (nomark _)) (pss_one (ps_ret pe_non)) pss_nil)
    (pss_cons (ps_asg (pv 0) (pg_tup (by rfl) (pgs_cons (pg_name (i := 2) cfound.nd rfl (Or.inl rfl)) (pgs_cons (pg_name (i := 3) cfound.nd rfl (Or.inl rfl)) (pgs_cons (pg_name (i := 4) cfound.nd rfl (Or.inl rfl)) pgs_nil)))))
    (pss_cons (ps_set (i := 5) cfound.nd rfl (Or.inl rfl) (pe_has G_rest hr (by omega) (pa_cons (pv 1) (pa_cons (pv 3) pa_nil))))
    (pss_cons (ps_if (pt_cmpR op_isN (pv 5) pe_non (nomark _)) (pss_one (ps_ret pe_non)) pss_nil)
    (pss_cons (ps_if (pt_cmpR op_eq (pv 2) pe_str (nomark _)) (pss_one (ps_ret (pe_has G_found hr (by omega) (pa_cons (pe_has G_inner_of hr (by omega) (pa_cons (pv 4) (pa_cons (pe_slice sl_str (pv 5) po_none (po_some pe_int)) pa_nil))) (pa_cons (pe_slice sl_str (pv 5) (po_some pe_int) po_none) pa_nil))))) pss_nil)
    (pss_cons (ps_if (pt_cmpR op_eq (pv 5) pe_str (nomark _)) (pss_one (ps_ret (pv 4))) pss_nil)
    (pss_one (ps_ret pe_non)))))))), ?_⟩
  cases o with
  | none =>
    cases Dp_non hv
    exact ⟨_, rfl, rfl, _, rfl, iteT q⟩
  | some t =>
    have ft := hf t rfl
    have tl := ft.text
    obtain ⟨p, k, z, rfl, hs, hc⟩ := Dp_tree hv
    refine ⟨_, rfl, rfl, _, rfl, iteF ?_⟩
    refine ⟨_, rfl, p, _, rfl, hs, rfl, _, _, rfl, _, _, rfl, _, _, rfl, rfl, ?_⟩
    refine ⟨_, rfl, _, rfl, x, t.text, rfl, hx, by omega, ?_⟩
    by_cases hp : t.text <+: x
    · rw [if_pos hp]
      obtain ⟨y, ey⟩ := hp
      have ed : x.drop t.text.length = y := by rw [← ey, List.drop_left]
      have yl : y.length ≤ 1000 := by rw [← ed, List.length_drop]; omega
      rw [ed]
      refine ⟨_, rfl, rfl, _, rfl, iteF ?_⟩
      rcases hc with ⟨m, e, rfl, rfl⟩ | ⟨bs, e, rfl, hz⟩
      · refine ⟨_, rfl, rfl, _, rfl, iteF ?_⟩
        refine ⟨_, rfl, rfl, _, rfl, ?_⟩
        have ef : fndO (some t) x = if x = t.text then some m else none := by rw [e]; show fnd _ x = _; unfold fnd; rw [← e]
        rw [ef] at q
        have ex : (V.str (st y) = V.str (Str.ofString "")) ↔ x = t.text := by
          rw [show V.str (Str.ofString "") = V.str (st []) from rfl, st_iff]
          constructor
          · intro z; rw [← ey, z, List.append_nil]
          · intro z; rw [← ey] at z; exact List.append_right_eq_self.mp z
        by_cases c : x = t.text
        · rw [if_pos c] at q
          rw [decide_eq_true (ex.mpr c)]
          exact iteT ⟨_, rfl, q⟩
        · rw [if_neg c] at q
          rw [decide_eq_false (fun z => c (ex.mp z))]
          exact iteF q
      · refine ⟨_, rfl, rfl, _, rfl, iteT ?_⟩
        have zy : (st y).length ≤ sizeLine := by rw [st_len]; exact smallZ (by omega)
        have fb : Fits (.fork t.text bs) := by rw [← e]; exact ft
        refine ⟨_, rfl, _, rfl, 1, rfl, _, rfl, zy, ?_⟩
        rw [show cutS (st y) none (some 1) = _ from cut_to _ 1]
        refine ⟨z, bs, y.take 1, rfl, hz, fun u hu => ?_⟩
        refine ⟨_, rfl, 1, rfl, _, rfl, zy, ?_⟩
        rw [show cutS (st y) (some 1) none = _ from cut_from _ 1]
        have ef : fndO (some t) x = fndO (innr bs (y.take 1)) (y.drop 1) := by
          rw [e]
          show fnd _ x = _
          unfold fnd
          rw [if_pos ⟨y, ey⟩, ed, fndIn_eq]
          rfl
        rw [ef] at q
        refine ⟨u, innr bs (y.take 1), y.drop 1, rfl, hu, fun u' hu' => (fb.sub (innr_mem hu')).1, ?_, by rw [List.length_drop]; omega, q⟩
        have hdt : t.deep < n + 1 := hd
        rw [e] at hdt
        cases hi : innr bs (y.take 1) with
        | none =>
          have : 1 ≤ (Tr.fork t.text bs).deep := Tr.deep_pos _
          have : 0 < deeps bs := by
            have h2 := fb.1.1
            match bs, h2 with
            | (s, u) :: r, _ => have := u.deep_pos; have : u.deep ≤ deeps ((s, u) :: r) := Nat.le_max_left _ _; omega
          simp only [Tr.deep] at hdt
          show 0 < n
          omega
        | some u' =>
          have := (fb.sub (innr_mem hi)).2.1
          show u'.deep < n
          simp only at this
          omega
    · rw [if_neg hp]
      refine ⟨_, rfl, rfl, _, rfl, iteT ?_⟩
      have ef : fndO (some t) x = none := by
        show fnd t x = none
        cases t with
        | leaf t m => unfold fnd; rw [if_neg (fun z => hp (by rw [z]; exact List.prefix_refl _))]
        | fork t bs =>
          have hp' : ¬ t <+: x := hp
          unfold fnd; rw [if_neg hp']
      rw [ef] at q
      exact q
theorem has_found (D : DefAt K mg "found" sfound f fd) (b : Binds K fd pfound []) (G_rest : Has P w K mg base "rest" prest 1 spRest) (G_inner_of : Has P w K mg base "inner_of" pinner_of 1 (spInner K)) : ∀ n, Has P w K mg base "found" pfound (n + 1) (spFound K n)
  | 0 => D.has b (ok_found0.mono (Nat.zero_le _))
  | n + 1 => D.has b (ok_found1 D.1 (has_found D b G_rest G_inner_of n) G_rest G_inner_of)
theorem ok_put0 : FnOk P w K mg base CX0 0 f fd pput (spPutN K 0) := by
  have no : ∀ vs H Q E, ¬ spPutN K 0 vs H Q E := fun vs H Q E h => by
    obtain ⟨v, o, x, k, _, _, _, _, h5, _⟩ := h
    omega
  exact ⟨fun vs H Q E h => absurd h (no vs H Q E), fun A outer s H args us vs Q E _ _ _ _ h => absurd h (no vs H Q E)⟩
theorem ok_put1 {n : Nat} (F : Fun K "put" "put" sput f fd) (G_put : Has P w K mg base "put" pput (n + 1) (spPutN K n)) (G_common : Has P w K mg base "common" pcommon 1 spCommon) (G_inner_of : Has P w K mg base "inner_of" pinner_of 1 (spInner K))
    (G_placed : Has P w K mg base "placed" pplaced 1 (spPlaced K)) (G_branches_behind : Has P w K mg base "branches_behind" pbranches_behind 1 (spBehind K)) (m_len : mg "len" = none) :
    FnOk P w K mg base CX0 (n + 2) f fd pput (spPutN K (n + 1)) := by
  refine F.ok cput (fun vs H Q E h => ?_) (fun cdv A outer s H vs Q E hr h => ?_)
  · obtain ⟨v, o, x, k, rfl, _⟩ := h
    rfl
  obtain ⟨v, o, x, k, rfl, hv, hf, ha, hd, hx, hxa, q⟩ := h
  refine ⟨_, (pss_cons (ps_if (PW.pt (pw_or (pt_cmpR op_isN (pv 0) pe_non (nomark _)) (pw_or1 (pt_cmpR (op_eqD hr.units) (pe_slice sl_tup (pv 0) po_none (po_some pe_int)) (pe_tup (pa_cons pe_str (pa_cons (pv 1) pa_nil))) (nomark _))))) (pss_one (ps_ret (pe_tup (pa_cons pe_str (pa_cons (pv 1) (pa_cons (pv 2) pa_nil)))))) pss_nil)
    (pss_cons (ps_set (i := 3) cput.nd rfl (Or.inl rfl) (pe_has G_common hr (by omega) (pa_cons (pe_ix (r := rIxT K) ix_tup (pv 0) pe_int (fun _ _ => rfl)) (pa_cons (pv 1) pa_nil))))
    (pss_cons (ps_set (i := 4) cput.nd rfl (Or.inl rfl) (pe_has G_branches_behind hr (by omega) (pa_cons (pv 0) (pa_cons (pv 3) pa_nil))))
    (pss_cons (ps_set (i := 5) cput.nd rfl (Or.inl rfl) (pe_slice sl_str (pv 1) (po_some (pe_callB call_len_str (by rfl) m_len (by decide +kernel) (pa_cons (pv 3) pa_nil))) po_none))
    (pss_cons (ps_set (i := 6) cput.nd rfl (Or.inl rfl) (pe_slice sl_str (pv 5) po_none (po_some pe_int)))
    (pss_cons (ps_set (i := 7) cput.nd rfl (Or.inl rfl) (pe_has G_put hr (by omega) (pa_cons (pe_has G_inner_of hr (by omega) (pa_cons (pv 4) (pa_cons (pv 6) pa_nil))) (pa_cons (pe_slice sl_str (pv 5) (po_some pe_int) po_none) (pa_cons (pv 2) pa_nil)))))
    (pss_one (ps_ret (pe_tup (pa_cons pe_str (pa_cons (pv 3) (pa_cons (pe_has G_placed hr (by omega) (pa_cons (pv 4) (pa_cons (pe_tup (pa_cons (pv 6) (pa_cons (pv 7) pa_nil))) pa_nil))) pa_nil)))))))))))), ?_⟩
  cases o with
  | none =>
    cases Dp_non hv
    exact ⟨_, rfl, rfl, _, rfl, iteT ⟨_, rfl, _, rfl, (by show 3 ≤ sizeLine; decide), fun l nl => q _ _ (same_new nl _) (Dp_new nl (.cons (.str _) (.cons (.str _) (.cons (.int _) .nil))))⟩⟩
  | some t =>
    have ft := hf t rfl
    have ta := (ha t rfl).text ft.1
    have tl := ft.text
    obtain ⟨p, kd, z, rfl, hs, hc⟩ := Dp_tree hv
    have hk : ∃ s : Str, kd = .str s ∧ PyData.strOk s = true ∧ ((s = Str.ofString "leaf" ∧ ∃ m, t = .leaf t.text m) ∨ (s = Str.ofString "fork" ∧ ∀ m, t ≠ .leaf x m)) := by
      rcases hc with ⟨m, e, rfl, _⟩ | ⟨bs, e, rfl, _⟩
      · exact ⟨_, rfl, by decide +kernel, .inl ⟨rfl, m, e⟩⟩
      · exact ⟨_, rfl, by decide +kernel, .inr ⟨rfl, fun m e2 => by rw [e] at e2; cases e2⟩⟩
    obtain ⟨s0, rfl, hs0, hk⟩ := hk
    refine ⟨_, rfl, rfl, _, rfl, iteF ?_⟩
    refine ⟨_, rfl, 2, rfl, p, _, rfl, hs, (fun e => absurd e.2 (by show HT.sIx 3 3 (some 2) ≠ 3; decide +kernel)), fun p2 n2 => ?_⟩
    have s2 := same_new n2 (.tup (cutV [V.str s0, V.str (st t.text), z] none (some 2)))
    have h2 : Dp K (upd H p2 (.tup (cutV [V.str s0, V.str (st t.text), z] none (some 2)))) (.ref p2) (headD s0 t.text) := Dp_new n2 (show DpAll K H [V.str s0, V.str (st t.text)] _ from .cons (.str _) (.cons (.str _) .nil))
    generalize hH2 : upd H p2 (.tup (cutV [V.str s0, V.str (st t.text), z] none (some 2))) = H2 at s2 h2
    refine ⟨_, rfl, (by show 2 ≤ sizeLine; decide), fun p3 n3 => ?_⟩
    have s3 := same_new n3 (.tup [.str (Str.ofString "leaf"), .str (st x)])
    have h3 : Dp K (upd H2 p3 (.tup [.str (Str.ofString "leaf"), .str (st x)])) (.ref p3) (headD (Str.ofString "leaf") x) := Dp_new n3 (.cons (.str _) (.cons (.str _) .nil))
    have h23 := Dp_same s3 h2
    have s03 := s2.trans s3
    generalize hH3 : upd H2 p3 (.tup [.str (Str.ofString "leaf"), .str (st x)]) = H3 at s3 h3 h23 s03
    refine ⟨headD s0 t.text, headD (Str.ofString "leaf") x, h23, h3, head_shaped hs0 ta, head_shaped (by decide +kernel) hxa, _, rfl, ?_⟩
    rw [head_eqv]
    by_cases c : s0 = Str.ofString "leaf" ∧ t.text = x
    · rw [decide_eq_true c.1, decide_eq_true c.2]
      refine iteT ⟨_, rfl, _, rfl, (by show 3 ≤ sizeLine; decide), fun l nl => q _ _ (s03.trans (same_new nl _)) ?_⟩
      have e : ∃ m, t = .leaf x m := by
        rcases hk with ⟨_, m, e⟩ | ⟨e, _⟩
        · exact ⟨m, by rw [c.2] at e; exact e⟩
        · exact absurd (c.1.symm.trans e) (by decide +kernel)
      obtain ⟨m, e⟩ := e
      have eo : pttO (some t) x k = .leaf x k := by
        rw [e]; show ptt _ x k = _; unfold ptt; rw [if_pos rfl]
      rw [eo]
      exact Dp_new nl (.cons (.str _) (.cons (.str _) (.cons (.int _) .nil)))
    · have cf : (decide (s0 = Str.ofString "leaf") && decide (t.text = x)) = false := by
        rw [Bool.and_eq_false_iff]
        by_cases c1 : s0 = Str.ofString "leaf"
        · exact .inr (decide_eq_false fun c2 => c ⟨c1, c2⟩)
        · exact .inl (decide_eq_false c1)
      rw [cf]
      refine iteF ?_
      have nl' : ∀ m, t ≠ .leaf x m := by
        rcases hk with ⟨e1, m, e2⟩ | ⟨_, e⟩
        · intro m' e3
          exact c ⟨e1, by rw [e3]; rfl⟩
        · exact e
      obtain ⟨eo, hin⟩ := ptt_beh t x k nl'
      have cl : (t.text.take (lcp t.text x)).length = lcp t.text x := by
        rw [List.length_take]; have := lcp_le1 t.text x; omega
      have hs3 := sameT s03 hs
      have l1 := lcp_le1 t.text x
      have hv3 := Dp_same s03 hv
      refine ⟨_, rfl, p, _, _, _, rfl, rfl, hs3, (rfl : atI [V.str s0, V.str (st t.text), z] 1 = some (V.str (st t.text))), _, rfl, t.text, x, rfl, by omega, hx, fun H4 s4 => ?_⟩
      refine ⟨_, rfl, _, rfl, .ref p, t, t.text.take (lcp t.text x), rfl, Dp_same s4 hv3, tl, by omega, fun bv H5 s5 hb => ?_⟩
      have zx : (st x).length ≤ sizeLine := by rw [st_len]; exact smallZ (by omega)
      have zs : (st (t.text.take (lcp t.text x))).length ≤ sizeLine := by rw [st_len]; exact smallZ (by omega)
      refine ⟨_, rfl, _, rfl, _, rfl, zs, _, rfl, _, rfl, zx, ?_⟩
      rw [st_len, cl, cut_from]
      generalize hy : x.drop (lcp t.text x) = y at eo hin
      have yl : y.length ≤ 1000 := by rw [← hy, List.length_drop]; omega
      have ya : ∀ c ∈ y, c < 127 := fun c hc => hxa c (List.mem_of_mem_drop (by rw [hy]; exact hc))
      have zy : (st y).length ≤ sizeLine := by rw [st_len]; exact smallZ (by omega)
      refine ⟨_, rfl, 1, rfl, _, rfl, zy, ?_⟩
      rw [show cutS (st y) none (some 1) = _ from cut_to _ 1]
      refine ⟨_, rfl, _, rfl, bv, _, y.take 1, rfl, hb, fun u hu => ?_⟩
      refine ⟨_, rfl, 1, rfl, _, rfl, zy, ?_⟩
      rw [show cutS (st y) (some 1) none = _ from cut_from _ 1]
      have hdt : t.deep < n + 1 := hd
      have fin : FitsO (innr (behB t (t.text.take (lcp t.text x))) (y.take 1)) ∧ AscO (innr (behB t (t.text.take (lcp t.text x))) (y.take 1)) ∧ dpt (innr (behB t (t.text.take (lcp t.text x))) (y.take 1)) < n := by
        cases hi : innr (behB t (t.text.take (lcp t.text x))) (y.take 1) with
        | none =>
          refine ⟨fun u e => (by cases e), fun u e => (by cases e), ?_⟩
          show 0 < n
          cases ht : t with
          | leaf t' m =>
            -- a leaf of another text: one more call is there
            have : 1 ≤ t.deep := t.deep_pos
            omega
          | fork t' bs => have : 1 ≤ t.deep := t.deep_pos; omega
        | some u' =>
          obtain ⟨bs, e, s', hm⟩ := hin u' hi
          have fb : Fits (.fork t.text bs) := by rw [← e]; exact ft
          have ab : Asc (.fork t.text bs) := by rw [← e]; exact ha t rfl
          obtain ⟨g1, g2, _⟩ := fb.sub hm
          rw [e] at hdt
          refine ⟨fun u2 e2 => by cases e2; exact g1, fun u2 e2 => by cases e2; exact ab.sub hm, ?_⟩
          show u'.deep < n
          have g2 : u'.deep < (Tr.fork t.text bs).deep := g2
          omega
      obtain ⟨f1, f2, f3⟩ := fin
      refine ⟨_, rfl, u, _, y.drop 1, k, rfl, hu, f1, f2, f3, by rw [List.length_drop]; omega, fun c hc => ya c (List.mem_of_mem_drop hc), fun u3 H6 s6 hu3 => ?_⟩
      refine ⟨_, rfl, _, rfl, _, rfl, _, rfl, (by show 2 ≤ sizeLine; decide), fun r nr => ?_⟩
      have sr := same_new nr (.tup [.str (st (y.take 1)), u3])
      have bl : (behB t (t.text.take (lcp t.text x))).length ≤ 5000 := by
        by_cases hb1 : (∃ m, t = .leaf t.text m) ∨ t.text ≠ t.text.take (lcp t.text x)
        · rw [beh_one hb1]; show 1 ≤ 5000; omega
        · obtain ⟨n1, n2⟩ := not_or.mp hb1
          have et : t.text = t.text.take (lcp t.text x) := Decidable.byContradiction fun z => n2 z
          rw [← et]
          cases ht : t with
          | leaf t' m => exact absurd ⟨m, by rw [ht]; rfl⟩ n1
          | fork t' bs =>
            show (behB (.fork t' bs) t').length ≤ 5000
            rw [beh_all]
            have fb : Fits (.fork t' bs) := by rw [← ht]; exact ft
            exact fb.len
      refine ⟨bv, .ref r, _, (y.take 1, pttO (innr (behB t (t.text.take (lcp t.text x))) (y.take 1)) (y.drop 1) k), rfl, Dp_same (s6.trans sr) hb, Dp_new nr (.cons (.str _) (.cons hu3 .nil)), bl, fun u4 H7 s7 hu4 => ⟨(by show 3 ≤ sizeLine; decide), fun m nm => ?_⟩⟩
      refine q _ _ ((((s03.trans s4).trans s5).trans ((s6.trans sr).trans s7)).trans (same_new nm _)) ?_
      rw [show pttO (some t) x k = ptt t x k from rfl, eo]
      exact Dp_new nm (.cons (.str _) (.cons (.str _) (.cons hu4 .nil)))
theorem has_put (D : DefAt K mg "put" sput f fd) (b : Binds K fd pput []) (G_common : Has P w K mg base "common" pcommon 1 spCommon) (G_inner_of : Has P w K mg base "inner_of" pinner_of 1 (spInner K))
    (G_placed : Has P w K mg base "placed" pplaced 1 (spPlaced K)) (G_branches_behind : Has P w K mg base "branches_behind" pbranches_behind 1 (spBehind K)) (m_len : mg "len" = none) : ∀ n, Has P w K mg base "put" pput (n + 1) (spPutN K n)
  | 0 => D.has b (ok_put0.mono (Nat.zero_le _))
  | n + 1 => D.has b (ok_put1 D.1 (has_put D b G_common G_inner_of G_placed G_branches_behind m_len n) G_common G_inner_of G_placed G_branches_behind m_len)
theorem ok_Pless0 : FnOk P w K mg base CX0 0 f fd pPless (spLess K 0) := by
  have no : ∀ vs H Q E, ¬ spLess K 0 vs H Q E := fun vs H Q E h => by
    obtain ⟨v, t, x, k, _, _, _, h5, _⟩ := h
    omega
  exact ⟨fun vs H Q E h => absurd h (no vs H Q E), fun A outer s H args us vs Q E _ _ _ _ h => absurd h (no vs H Q E)⟩
theorem ok_Pless1 {n : Nat} (F : Fun K "_less" "_less" sPless f fd) (G_Pless : Has P w K mg base "_less" pPless (n + 2) (spLess K n)) (G_inner_of : Has P w K mg base "inner_of" pinner_of 1 (spInner K))
    (G_replaced : Has P w K mg base "replaced" preplaced 2 (spReplaced K)) (m_len : mg "len" = none) :
    FnOk P w K mg base CX0 (n + 3) f fd pPless (spLess K (n + 1)) := by
  refine F.ok cPless (fun vs H Q E h => ?_) (fun cdv A outer s H vs Q E hr h => ?_)
  · obtain ⟨v, t, x, k, rfl, _⟩ := h
    rfl
  obtain ⟨v, t, x, k, rfl, hv, ft, hd, hx, q⟩ := h
  have xl := ft.2.1 _ _ hx
  have tl := ft.text
  have zx : (st x).length ≤ sizeLine := by rw [st_len]; exact smallZ (by omega)
  refine ⟨_, (pss_cons (ps_asg (pv 0) (pg_tup (by rfl) (pgs_cons (pg_name (i := 2) cPless.nd rfl (Or.inl rfl)) (pgs_cons (pg_name (i := 3) cPless.nd rfl (Or.inl rfl)) (pgs_cons (pg_name (i := 4) cPless.nd rfl (Or.inl rfl)) pgs_nil)))))
    (pss_cons (ps_if (pt_cmpR op_eq (pv 2) pe_str (nomark _)) (pss_one (ps_ret pe_non)) pss_nil)
    (pss_cons (ps_set (i := 5) cPless.nd rfl (Or.inl rfl) (pe_slice sl_str (pv 1) (po_some (pe_callB call_len_str (by rfl) m_len (by decide +kernel) (pa_cons (pv 3) pa_nil))) po_none))
    (pss_cons (ps_set (i := 6) cPless.nd rfl (Or.inl rfl) (pe_slice sl_str (pv 5) po_none (po_some pe_int)))
    (pss_one (ps_ret (pe_has G_replaced hr (by omega) (pa_cons (pv 0) (pa_cons (pv 6) (pa_cons (pe_has G_Pless hr (by omega) (pa_cons (pe_has G_inner_of hr (by omega) (pa_cons (pv 4) (pa_cons (pv 6) pa_nil))) (pa_cons (pe_slice sl_str (pv 5) (po_some pe_int) po_none) pa_nil))) pa_nil)))))))))), ?_⟩
  obtain ⟨p, kd, z, rfl, hs, hc⟩ := Dp_tree hv
  have zt : (st t.text).length ≤ sizeLine := by rw [st_len]; exact smallZ (by omega)
  refine ⟨_, rfl, p, _, rfl, hs, rfl, _, _, rfl, _, _, rfl, _, _, rfl, rfl, ?_⟩
  rcases hc with ⟨m, e, rfl, rfl⟩ | ⟨bs, e, rfl, hz⟩
  · refine ⟨_, rfl, rfl, _, rfl, iteT (q .non H (Same.refl H) ?_)⟩
    have e2 : wot t x = none := by rw [e]; simp [wot]
    rw [e2]; exact .non
  · refine ⟨_, rfl, rfl, _, rfl, iteF ?_⟩
    have fb : Fits (.fork t.text bs) := by rw [← e]; exact ft
    have w := wfB_iff.mp fb.1.2
    have hx' : (x, k) ∈ (Tr.fork t.text bs).rws := by rw [← e]; exact hx
    obtain ⟨y, ey, hy⟩ := mem_fork.mp hx'
    have ed : x.drop t.text.length = y := by rw [ey, List.drop_left]
    have yl : y.length ≤ 1000 := by rw [← ed, List.length_drop]; omega
    have zy : (st y).length ≤ sizeLine := by rw [st_len]; exact smallZ (by omega)
    obtain ⟨b, hb, v', ev, hv'⟩ := mem_rwss.mp hy
    obtain ⟨g1, g2⟩ := sign_of (w.1 b hb) hv'
    rw [← ev] at g1 g2
    have hi : innr bs (y.take 1) = some b.2 := by rw [← g1]; exact mem_innr w.2 hb
    refine ⟨_, rfl, _, rfl, _, rfl, zt, _, rfl, _, rfl, zx, ?_⟩
    rw [st_len, cut_from, ed]
    refine ⟨_, rfl, 1, rfl, _, rfl, zy, ?_⟩
    rw [show cutS (st y) none (some 1) = _ from cut_to _ 1]
    have hw : wot t x = repl t.text bs (y.take 1) (wot b.2 (y.drop 1)) := by
      conv => lhs; rw [e]
      rw [wot_repl, ed, hi]; rfl
    rw [hw] at q
    refine ⟨_, rfl, _, rfl, _, rfl, _, rfl, z, bs, y.take 1, rfl, hz, fun u hu => ?_⟩
    refine ⟨_, rfl, 1, rfl, _, rfl, zy, ?_⟩
    rw [show cutS (st y) (some 1) none = _ from cut_from _ 1]
    rw [hi] at hu
    obtain ⟨fs, ds, ls⟩ := fb.sub hb
    have hdt : t.deep < n + 1 := hd
    rw [e] at hdt
    refine ⟨u, b.2, y.drop 1, k, rfl, hu, fs, by omega, by rw [← g2]; exact hv', fun r H1 s1 hr1 => ?_⟩
    have hv1 := Dp_same s1 hv
    rw [e] at hv1
    refine ⟨.ref p, r, t.text, bs, y.take 1, wot b.2 (y.drop 1), rfl, hv1, hr1, fb.len, tl, by rw [List.length_take]; omega, fun c hc => ?_, fun _ => filt_ne w.2 fb.1.1, fun u4 H4 s4 hu4 => q _ _ (s1.trans s4) hu4⟩
    have := fb.sub hc
    exact ⟨this.2.2, this.1.text⟩
theorem has_Pless (D : DefAt K mg "_less" sPless f fd) (b : Binds K fd pPless []) (G_inner_of : Has P w K mg base "inner_of" pinner_of 1 (spInner K)) (G_replaced : Has P w K mg base "replaced" preplaced 2 (spReplaced K)) (m_len : mg "len" = none) :
    ∀ n, Has P w K mg base "_less" pPless (n + 2) (spLess K n)
  | 0 => D.has b (ok_Pless0.mono (Nat.zero_le _))
  | n + 1 => D.has b (ok_Pless1 D.1 (has_Pless D b G_inner_of G_replaced m_len n) G_inner_of G_replaced m_len)
theorem ok_without {CN CT : Addr} (F : Fun K "without" "without" swithout f fd) (T : ErrTxt K mg "NotThere" CN CT) (G_found : Has P w K mg base "found" pfound 51 (spFound K 50)) (G_Pless : Has P w K mg base "_less" pPless 52 (spLess K 50)) :
    FnOk P w K mg base (L2.CX P w) 53 f fd pwithout (spWithout K CN 50) := by
  refine F.okX cwithout (fun vs H Q E h => ?_) (fun cdv A outer s H vs Q E hr h => ?_)
  · obtain ⟨v, o, x, rfl, _⟩ := h
    rfl
  obtain ⟨v, o, x, rfl, hv, hf, hd, hx, ht, qn, qs⟩ := h
  refine ⟨_, pss_cons (ps_if (pt_cmpR op_isN (pe_has G_found hr (by omega) (pa_cons (pv 0) (pa_cons (pv 1) pa_nil))) pe_non (nomark _))
      (pss_one (ps_raise rfl (takes_of rfl rfl rfl rfl) (SkE.pmk_own1 PySem.F.excBase_ValueError T.xN T.gN T.kN (raises_own T.bN T.tN) (by rfl) (pe_joined (.cons pe_str (.cons (pe_fmtR (pv 1)) (.cons pe_str .nil))))))) pss_nil)
    (pss_one (ps_ret (pe_has G_Pless hr (by omega) (pa_cons (pv 0) (pa_cons (pv 1) pa_nil))))), ?_⟩
  refine ⟨_, rfl, _, rfl, v, o, x, rfl, hv, hf, hd, by omega, rfl, _, rfl, ?_⟩
  have rs := repr_small (l := x) (by omega) ht
  cases e : fndO o x with
  | none =>
    refine iteT ?_
    have z : ∀ (a b : Str), a.length ≤ 100 → b.length ≤ 100000 → (a ++ b).length ≤ 100100 := fun a b h1 h2 => by
      have : (a ++ b).length = a.length + b.length := by
        show (a.cps ++ b.cps).size = _
        rw [Array.size_append]; rfl
      omega
    have len : ∀ a b : Str, (a ++ b).length = a.length + b.length := fun a b => by
      show (a.cps ++ b.cps).size = _
      rw [Array.size_append]; rfl
    refine ⟨_, rfl, by decide +kernel, _, rfl, .inl ⟨_, rfl, smallZ rs, _, rfl, ?_, _, rfl, ?_, qn e⟩⟩
    · have h0 : (Str.empty ++ Str.ofString "the name ").length ≤ 100 := by decide +kernel
      rw [len]
      exact Nat.le_trans (Nat.add_le_add h0 rs) (by decide)
    · have h0 : (Str.empty ++ Str.ofString "the name ").length ≤ 100 := by decide +kernel
      have h1 : (Str.ofString " is not kept").length ≤ 100 := by decide +kernel
      rw [len, len]
      exact Nat.le_trans (Nat.add_le_add (Nat.add_le_add h0 rs) h1) (by decide)
  | some k =>
    refine iteF ?_
    cases o with
    | none => cases e
    | some t =>
      have hf' := hf t rfl
      have hm := (fnd_iff t hf'.1 x k).mp e
      exact ⟨_, rfl, _, rfl, v, t, x, k, rfl, hv, hf', hd, hm, qs k e⟩
theorem ok_Pbelow (F : Fun K "_below" "_below" sPbelow f fd)
    (G_cut : Has P w K mg base "cut" pcut 52 (spCut K)) :
    FnOk P w K mg base CX0 53 f fd pPbelow (spBelow K) := by
  refine F.ok cPbelow (fun vs H Q E h => ?_) (fun cdv A outer s H vs Q E hr h => ?_)
  · obtain ⟨v, o, b, R, rfl, _⟩ := h
    rfl
  obtain ⟨v, o, b, R, rfl, hv, tr, hf, hd, hb, q⟩ := h
  refine ⟨_, (pss_cons (ps_asg (pe_has G_cut hr (by omega) (pa_cons (pv 0) (pa_cons (pv 1) pa_nil))) (pg_tup (by rfl) (pgs_cons (pg_name (i := 2) cPbelow.nd rfl (Or.inl rfl)) (pgs_cons (pg_name (i := 3) cPbelow.nd rfl (Or.inl rfl)) pgs_nil))))
    (pss_one (ps_ret (pv 3)))), ?_⟩
  refine ⟨_, rfl, _, rfl, v, o, b, R, rfl, hv, tr, hf, hd, hb, fun u o1 o2 H1 t1 t2 s1 hu => ?_⟩
  obtain ⟨p, l1, l2, rfl, hp, d1, d2⟩ := Dp_two hu
  exact ⟨p, _, rfl, hp, rfl, _, _, rfl, _, _, rfl, rfl, _, rfl, q _ _ _ t2 s1 d2⟩
theorem ok_under (F : Fun K "under" "under" sunder f fd)
    (G_names : Has P w K mg base "names" pnames 51 (spNames K 50))
    (G_Pbelow : Has P w K mg base "_below" pPbelow 53 (spBelow K)) :
    FnOk P w K mg base CX0 90 f fd punder (spUnder K) := by
  refine F.ok cunder (fun vs H Q E h => ?_) (fun cdv A outer s H vs Q E hr h => ?_)
  · obtain ⟨v, o, R, b, rfl, _⟩ := h
    rfl
  obtain ⟨v, o, R, b, rfl, ⟨hv, tr, g⟩, hb, q⟩ := h
  refine ⟨_, (pss_one (ps_ret (pe_lc (own := [("behind", 2), ("number", 3)]) (g := (gTup K 2 (gCons (gName 2) (gCons (gName 3) gNil)))) (by rfl) cunder.nd (pi_list (pe_has G_names hr (by omega) (pa_cons (pe_has G_Pbelow hr (by omega) (pa_cons (pv 0) (pa_cons (pv 1) pa_nil))) pa_nil))) (blkOk_by (own := [("behind", 2), ("number", 3)]) (N := ["tree", "beginning", "behind", "number"]) (sc := defScope sunder) (by decide +kernel)) (fun _ _ _ _ _ => pg_tup rfl (pgs_cons (pg_name (i := 2) cunder.nd rfl (Or.inl rfl)) (pgs_cons (pg_name (i := 3) cunder.nd rfl (Or.inl rfl)) pgs_nil))) (fun _ _ _ _ _ => pts_nil) (fun _ _ _ _ _ => (pe_tup (pa_cons (pe_op op_add_str (pv 1) (pv 2)) (pa_cons (pv 3) pa_nil))))))), ?_⟩
  obtain ⟨ff, fd50⟩ := good_fits tr g
  have g2 := gone_good (b := b) g
  have gl := g2.2.1
  refine ⟨_, rfl, _, rfl, v, o, b, R, rfl, hv, tr, ff, fd50, by omega, fun u o2 H1 t2 s1 hu => ?_⟩
  obtain ⟨f2, fd2⟩ := good_fits t2 g2
  refine ⟨u, o2, rfl, hu, f2, fd2, fun L acc H2 nL s2 eL dL => ?_⟩
  rw [rows_rO, (treed_rO t2).1] at dL
  have al : acc.length = (goneR b R).length := by rw [DpAll_len dL, List.length_map]
  refine ⟨L, rfl, ⟨_, SqL.of eL⟩, fun D nD => lc_list (K := K) (xs := acc) (LcP K H2 D (fm (goneR b R) (fun _ => true) (fun r => rowD (pre b r)))) (lcp0 nD rfl) (fun _ _ _ h => h.1.seq (SqL.of eL)) (fun j y H3 hy h3 => ?_) (fun H3 h3 => ?_)⟩
  · obtain ⟨r, hr, hxr⟩ := DpAll_map dL hy
    have hrm := List.mem_of_getElem? hr
    have hrl := (g2.2.2 r hrm).1
    obtain ⟨t, z1, z2, rfl, ht1, ht2, ht3⟩ := Dp_two (Dp_same h3.1 hxr)
    cases Dp_str ht2
    refine ⟨t, _, rfl, ht1, rfl, _, _, rfl, _, _, rfl, rfl, rfl, yes_if ?_⟩
    refine ⟨_, rfl, _, rfl, _, _, rfl, rfl, ?_, ?_⟩
    · rw [st_len, st_len]; exact smallZ (by omega)
    rw [st_add]
    refine ⟨_, rfl, (by show 2 ≤ sizeLine; decide), fun c nc => ?_⟩
    exact lcp_add h3 nD (same_new nc _) (Dp_new nc (.cons (.str _) (.cons ht3 .nil))) (fm_yes hr rfl) (fm_nolist fun _ => rfl) rfl (Nat.le_trans fm_len (by omega))
  rw [al] at h3
  obtain ⟨s3, acc3, e3, d3⟩ := h3
  rw [fm_all] at d3
  refine q D acc3 H3 (s1.free (s2.free nD)) ((s1.trans s2).trans s3) e3 ?_
  rw [below_gone, List.map_map]
  rw [List.filter_eq_self.mpr fun _ _ => rfl] at d3
  exact d3
theorem ok_many (F : Fun K "many" "many" smany f fd)
    (G_names : Has P w K mg base "names" pnames 51 (spNames K 50))
    (G_Pbelow : Has P w K mg base "_below" pPbelow 53 (spBelow K)) (m_len : mg "len" = none) :
    FnOk P w K mg base CX0 90 f fd pmany (spMany K) := by
  refine F.ok cmany (fun vs H Q E h => ?_) (fun cdv A outer s H vs Q E hr h => ?_)
  · obtain ⟨v, o, R, b, rfl, _⟩ := h
    rfl
  obtain ⟨v, o, R, b, rfl, ⟨hv, tr, g⟩, hb, q⟩ := h
  refine ⟨_, (pss_one (ps_ret (pe_callB call_len_seq (by rfl) m_len (by decide +kernel) (pa_cons (pe_has G_names hr (by omega) (pa_cons (pe_has G_Pbelow hr (by omega) (pa_cons (pv 0) (pa_cons (pv 1) pa_nil))) pa_nil)) pa_nil)))), ?_⟩
  obtain ⟨ff, fd50⟩ := good_fits tr g
  have g2 := gone_good (b := b) g
  refine ⟨_, rfl, _, rfl, v, o, b, R, rfl, hv, tr, ff, fd50, by omega, fun u o2 H1 t2 s1 hu => ?_⟩
  obtain ⟨f2, fd2⟩ := good_fits t2 g2
  refine ⟨u, o2, rfl, hu, f2, fd2, fun L acc H2 nL s2 eL dL => ?_⟩
  rw [rows_rO, (treed_rO t2).1] at dL
  refine ⟨L, acc, rfl, .inl (SqL.of eL), ?_⟩
  have al : acc.length = (below b R).length := by rw [DpAll_len dL, List.length_map, below_gone, List.length_map]
  rw [al]
  exact q _ (s1.trans s2)
theorem ok_T_init {C f1 : Addr} (F : Fun K "__init__" "Trail.__init__" sT_init f fd) (TTr : TrTxt K mg C f1) : FnOk P w K mg base CX0 1 f fd pT_init (spInit K C) := by
  refine F.ok cT_init (fun vs H Q E h => ?_) (fun cdv A outer s H vs Q E hr h => ?_)
  · obtain ⟨x, dx, rfl, _⟩ := h
    rfl
  obtain ⟨x, dx, rfl, hx, q⟩ := h
  refine ⟨_, pss_cons (ps_fld (pv 0) pe_non rfl) (pss_one (ps_fld (pv 0) (pe_lst pa_nil) rfl)), ?_⟩
  refine ⟨_, rfl, x, C, dx, [], rfl, hx, TTr.cl, TTr.nN, (by show 0 < 1000; decide), ?_⟩
  refine ⟨Nat.zero_le _, fun l hl => ?_⟩
  have nxl : x ≠ l := fun e => by rw [e, upd_same] at hl; cases hl
  have hl0 : H l = none := by rw [upd_ne nxl.symm] at hl; exact hl
  refine ⟨_, rfl, x, C, dx, _, rfl, Eq.trans (upd_ne nxl) upd_same, TTr.cl, TTr.nE, (by show 1 < 1000; decide), ?_⟩
  refine q l _ hl0 (fun b u nb e => ?_) ⟨.non, [], ?_, ?_, .non, .nil⟩
  · have nbl : b ≠ l := ne_of_none e hl0
    rw [upd_ne nb, upd_ne nbl, upd_ne nb]; exact e
  · rw [upd_same, tf_init]
  · rw [upd_ne nxl.symm, upd_same]
theorem ok_Prefuse_no_names {CT CNoName : Addr} (F : Fun K "_refuse_no_names" "_refuse_no_names" sPrefuse_no_names f fd) (TNoName : ErrTxt K mg "NoName" CNoName CT)
    (G_is_name : Has P w K mg base "is_name" pis_name 2 (spIsName K)) :
    FnOk P w K mg base (L2.CX P w) 5 f fd pPrefuse_no_names (spRefuse K CNoName) := by
  refine F.okX cPrefuse_no_names (fun vs H Q E h => ?_) (fun cdv A outer s H vs Q E hr h => ?_)
  · obtain ⟨l, ws, rfl, _⟩ := h
    rfl
  obtain ⟨l, ws, rfl, hl, hall, qe, qn⟩ := h
  refine ⟨_, (pss_one (ps_for (passes_of rfl) rfl (pi_list (pv 0)) (pg_name (i := 1) cPrefuse_no_names.nd rfl (Or.inl rfl)) (pss_one (ps_if (pt_not (pt_val (pe_has G_is_name hr (by omega) (pa_cons (pv 1) pa_nil)))) (pss_one (ps_raise rfl (takes_of rfl rfl rfl rfl) (SkE.pmk_own1 PySem.F.excBase_ValueError TNoName.xN TNoName.gN TNoName.kN (raises_own TNoName.bN TNoName.tN) (by rfl) pe_str))) pss_nil)))), ?_⟩
  refine ⟨_, rfl, l, rfl, ⟨_, SqL.of hl⟩, for_list (xs := ws) (fun i σ H' => Same H H' ∧ (∃ y1, σ = [some (.ref l), y1]) ∧ ∀ j z, j < i → ws[j]? = some z → ∃ b, Thg K H z (some b)) ⟨Same.refl _, ⟨none, rfl⟩, fun j z hj => absurd hj (Nat.not_lt_zero _)⟩ (fun i σ H' hi h1 => SqL.of (h1.1 _ _ hl)) (fun i y σ H' hy h1 => ?_) (fun σ H' h1 => ?_)⟩
  · obtain ⟨s1, ⟨y1, rfl⟩, ih⟩ := h1
    have hm := List.mem_of_getElem? hy
    obtain ⟨b, hb⟩ := hall y hm
    cases b with
    | some b =>
      obtain ⟨rfl, nb⟩ := hb
      have bl := (nm_iff.mp nb).1
      refine ⟨_, rfl, _, rfl, .inl ⟨b, rfl, by omega, fun H2 s2 => ⟨_, rfl, ?_⟩⟩⟩
      rw [nb]
      refine iteF ⟨s1.trans s2, ⟨_, rfl⟩, fun j z hj hz => ?_⟩
      by_cases e : j = i
      · subst e
        rw [hy] at hz; cases hz
        exact ⟨b, rfl, nb⟩
      · exact ih j z (by omega) hz
    | none =>
      have out : ∀ H2, Same H' H2 → E (.ref CNoName) none H2 := fun H2 s2 => qe ⟨y, hm, hb⟩ H2 (s1.trans s2)
      rcases hb with ⟨x, rfl, xl, nb⟩ | ⟨T, ty, hT⟩
      · refine ⟨_, rfl, _, rfl, .inl ⟨x, rfl, xl, fun H2 s2 => ⟨_, rfl, ?_⟩⟩⟩
        rw [nb]
        exact iteT (out _ s2)
      · exact ⟨_, rfl, _, rfl, .inr ⟨T, ty _ s1, hT, ⟨_, rfl, iteT (out _ (Same.refl _))⟩⟩⟩
  · obtain ⟨s1, ⟨y1, rfl⟩, ih⟩ := h1
    refine qn (fun z hz => ?_) _ s1
    obtain ⟨j, hj⟩ := List.mem_iff_getElem?.mp hz
    exact ih j z (List.getElem?_eq_some_iff.mp hj).1 hj
theorem ok_T_told {C f1 CNoName CT : Addr} (F : Fun K "told" "Trail.told" sT_told f fd) (TTr : TrTxt K mg C f1) (TNoName : ErrTxt K mg "NoName" CNoName CT) (G_Prefuse_no_names : HasX P w K mg base "_refuse_no_names" pPrefuse_no_names 5 (spRefuse K CNoName)) (G_under : Has P w K mg base "under" punder 90 (spUnder K)) :
    FnOk P w K mg base (L2.CX P w) 95 f fd pT_told (spTold K C CNoName) := by
  refine F.okX cT_told (fun vs H Q E h => ?_) (fun cdv A outer s H vs Q E hr h => ?_)
  · obtain ⟨x, dx, l, o, ps, R, w', t, rfl, _⟩ := h
    rfl
  obtain ⟨x, dx, l, o, ps, R, w', t, rfl, tr, ht, g, th, qe, qn⟩ := h
  refine ⟨_, (pss_cons (ps_expr (pe_hasX (E := E) G_Prefuse_no_names hr (by omega) (passes_call (takes_of rfl rfl rfl rfl) fun _ _ _ _ h => h) (pa_cons (pe_lst (pa_cons (pv 1) pa_nil)) pa_nil)))
    (pss_one (ps_ret (pe_has G_under hr (by omega) (pa_cons (pe_fld (pv 0) rfl) (pa_cons (pv 1) pa_nil)))))), ?_⟩
  refine ⟨_, rfl, (by show 1 ≤ sizeLine; decide), fun m nm => ?_⟩
  have sm := same_new nm (.lst [w'])
  have upm : upd H m (.lst [w']) m = some (.lst [w']) := upd_same
  refine ⟨m, [w'], rfl, upm, fun z hz => ⟨t, by rw [List.mem_singleton.mp hz]; exact th.same sm⟩, fun ⟨z, hz, hn⟩ => ?_, fun all H1 s1 => ?_⟩
  · rw [List.mem_singleton.mp hz] at hn
    cases t with
    | none => exact fun H1 s1 => qe rfl H1 (sm.trans s1)
    | some b =>
      exfalso
      obtain ⟨e, nb⟩ := th
      rcases hn with ⟨y, e2, _, nb2⟩ | ⟨T, ty, hT⟩
      · rw [e] at e2
        have := st_inj (V.str.inj e2)
        rw [← this, nb] at nb2; cases nb2
      · rw [e] at ty
        have := ty _ (Same.refl _)
        have e3 := tyx_str this
        rw [e3] at hT
        exact absurd hT (by decide +kernel)
  · obtain ⟨b, hb⟩ := all w' (List.mem_singleton.mpr rfl)
    obtain ⟨rfl, nb⟩ := hb
    have et : t = some b := by
      cases t with
      | some b' =>
        obtain ⟨e, _⟩ := th
        rw [st_inj (V.str.inj e)]
      | none =>
        exfalso
        rcases th with ⟨y, e2, _, nb2⟩ | ⟨T, ty, hT⟩
        · have := st_inj (V.str.inj e2)
          rw [← this, nb] at nb2; cases nb2
        · have e3 := tyx_str (ty _ (Same.refl _))
          rw [e3] at hT
          exact absurd hT (by decide +kernel)
    have bl := (nm_iff.mp nb).1
    have s01 := sm.trans s1
    obtain ⟨v, acc, h1, h2, h3, h4⟩ := tr.same s01
    refine ⟨_, rfl, x, C, dx, _, _, rfl, h1, TTr.cl, TTr.nN, tf_now _ _, _, rfl, v, o, R, b, rfl, ⟨h3, ht, g⟩, by omega, ?_⟩
    intro L acc' H2 nL s2 eL dL
    exact qn b et L acc' H2 (s01.free nL) (s01.trans s2) eL dL
theorem ok_T_do {C f1 : Addr} (F : Fun K "_do" "Trail._do" sT_do f fd) (TTr : TrTxt K mg C f1) : FnOk P w K mg base (L2.CX P w) 1 f fd pT_do (spDo K C) := by
  refine fn_wide (F.ok cT_do (fun vs H Q E h => ?_) (fun cdv A outer s H vs Q E hr h => ?_))
  · obtain ⟨x, dx, l, o, o', ps, u, rfl, _⟩ := h
    rfl
  obtain ⟨x, dx, l, o, o', ps, u, rfl, tr, pl, hu, q⟩ := h
  refine ⟨_, (pss_cons (ps_expr (pe_bm PySem.F.plainAttrs_list PySem.F.slot_list_append PySem.F.type_list_append mt_append (pe_fld (pv 0) rfl) (pa_cons (pe_fld (pv 0) rfl) pa_nil)))
    (pss_one (ps_fld (pv 0) (pv 1) rfl))), ?_⟩
  have nxl := tr.fr_ne
  obtain ⟨v, acc, h1, h2, h3, h4⟩ := id tr
  have al : acc.length = ps.length := by rw [DpAll_len h4, List.length_map]
  refine ⟨_, rfl, x, C, dx, _, _, rfl, h1, TTr.cl, TTr.nE, tf_earlier _ _, .inl ⟨rfl, _, SqL.of h2⟩, _, rfl, x, C, dx, _, _, rfl, h1, TTr.cl, TTr.nN, tf_now _ _, l, _, _, rfl, rfl, h2, small1000' (by omega), ?_⟩
  refine ⟨_, rfl, _, rfl, x, C, dx, _, rfl, (Eq.trans (upd_ne nxl) h1), TTr.cl, TTr.nN, (by show 2 < 1000; decide), ?_⟩
  rw [tf_put]
  have f : Fr x l H (upd (upd H l (.lst (acc ++ [v]))) x (.ins C dx (tf u l))) := fun b z nb nb2 e => by rw [upd_ne nb, upd_ne nb2]; exact e
  have kt := tr.kt f
  refine q _ f ⟨u, acc ++ [v], upd_same, by rw [upd_ne nxl.symm, upd_same], Dp_kt kt (oD_nolist _) hu, ?_⟩
  rw [List.map_append]
  exact DpAll_app (DpAll_kt kt (oDs_nolist _) h4) (.cons (Dp_kt kt (oD_nolist _) h3) .nil)
theorem ok_Pof_size {CT CTooMany : Addr} (F : Fun K "_of_size" "_of_size" sPof_size f fd) (TTooMany : ErrTxt K mg "TooMany" CTooMany CT) (G_names : Has P w K mg base "names" pnames 51 (spNames K 50)) (m_len : mg "len" = none) (gMOST_NAMES : ∃ t, mg "MOST_NAMES" = some (.int 100 t)) :
    FnOk P w K mg base (L2.CX P w) 60 f fd pPof_size (spOfSize K CTooMany) := by
  obtain ⟨tMN, gMN⟩ := gMOST_NAMES
  refine F.okX cPof_size (fun vs H Q E h => ?_) (fun cdv A outer s H vs Q E hr h => ?_)
  · obtain ⟨v, o, rfl, _⟩ := h
    rfl
  obtain ⟨v, o, rfl, hv, ff, fd50, qe, qn⟩ := h
  refine ⟨_, (pss_cons (ps_if (pt_cmpR op_gt (pe_callB call_len_seq (by rfl) m_len (by decide +kernel) (pa_cons (pe_has G_names hr (by omega) (pa_cons (pv 0) pa_nil)) pa_nil)) (pe_glob (v := .int 100) (by rfl) gMN ⟨_, rfl⟩) (nomark _)) (pss_one (ps_raise rfl (takes_of rfl rfl rfl rfl) (SkE.pmk_own1 PySem.F.excBase_ValueError TTooMany.xN TTooMany.gN TTooMany.kN (raises_own TTooMany.bN TTooMany.tN) (by rfl) pe_str))) pss_nil)
    (pss_one (ps_ret (pv 0)))), ?_⟩
  refine ⟨_, rfl, v, o, rfl, hv, ff, fd50, fun L acc H2 nL s2 eL dL => ?_⟩
  rw [rows_rO] at dL
  have al : acc.length = (rO o).length := by rw [DpAll_len dL, List.length_map]
  refine ⟨L, acc, rfl, .inl (SqL.of eL), _, _, rfl, rfl, _, rfl, ?_⟩
  rw [al]
  by_cases c : 100 < (rO o).length
  · rw [decide_eq_true (show (100 : Int) < (((rO o).length : Nat) : Int) by omega)]
    exact iteT (qe c _ s2)
  · rw [decide_eq_false (show ¬ (100 : Int) < (((rO o).length : Nat) : Int) by omega)]
    exact iteF ⟨_, rfl, qn (by omega) _ s2⟩
theorem ok_Prefuse_long_names {CT CTooLong : Addr} (F : Fun K "_refuse_long_names" "_refuse_long_names" sPrefuse_long_names f fd) (TTooLong : ErrTxt K mg "TooLong" CTooLong CT) (G_under : Has P w K mg base "under" punder 90 (spUnder K)) (m_len : mg "len" = none) (gMOST_SIGNS : ∃ t, mg "MOST_SIGNS" = some (.int 40 t)) :
    FnOk P w K mg base (L2.CX P w) 95 f fd pPrefuse_long_names (spLong K CTooLong) := by
  obtain ⟨tMS, gMS⟩ := gMOST_SIGNS
  refine F.okX cPrefuse_long_names (fun vs H Q E h => ?_) (fun cdv A outer s H vs Q E hr h => ?_)
  · obtain ⟨v, o, b, c, rfl, _⟩ := h
    rfl
  obtain ⟨v, o, b, c, rfl, hv, tr, g, hb, hc, qe, qn⟩ := h
  refine ⟨_, (pss_one (ps_for (passes_of rfl) rfl (pi_list (pe_has G_under hr (by omega) (pa_cons (pv 0) (pa_cons (pv 1) pa_nil)))) (pg_tup (by rfl) (pgs_cons (pg_name (i := 3) cPrefuse_long_names.nd rfl (Or.inl rfl)) (pgs_cons (pg_name (i := 4) cPrefuse_long_names.nd rfl (Or.inl rfl)) pgs_nil))) (pss_one (ps_if (pt_cmpR op_gt (pe_op op_sub (pe_op op_add (pe_callB call_len_str (by rfl) m_len (by decide +kernel) (pa_cons (pv 2) pa_nil)) (pe_callB call_len_str (by rfl) m_len (by decide +kernel) (pa_cons (pv 3) pa_nil))) (pe_callB call_len_str (by rfl) m_len (by decide +kernel) (pa_cons (pv 1) pa_nil))) (pe_glob (v := .int 40) (by rfl) gMS ⟨_, rfl⟩) (nomark _)) (pss_one (ps_raise rfl (takes_of rfl rfl rfl rfl) (SkE.pmk_own1 PySem.F.excBase_ValueError TTooLong.xN TTooLong.gN TTooLong.kN (raises_own TTooLong.bN TTooLong.tN) (by rfl) pe_str))) pss_nil)))), ?_⟩
  have zb : (st b).length ≤ sizeLine := by rw [st_len]; exact smallZ (by omega)
  have zc : (st c).length ≤ sizeLine := by rw [st_len]; exact smallZ (by omega)
  refine ⟨_, rfl, _, rfl, v, o, rO o, b, rfl, ⟨hv, tr, g⟩, by omega, fun L acc H2 nL s2 eL dL => ?_⟩
  have al : acc.length = (below b (rO o)).length := by rw [DpAll_len dL, List.length_map]
  have ef : ∀ r, r ∈ below b (rO o) → (c ++ r.1.drop b.length, r.2) ∈ freshR b c (rO o) ∧ b.length ≤ r.1.length := fun r hr => by
    refine ⟨by rw [fresh_eq]; exact List.mem_map.mpr ⟨r, hr, rfl⟩, ?_⟩
    exact (tk_iff.mp (List.mem_filter.mp hr).2).length_le
  refine ⟨L, rfl, ⟨_, SqL.of eL⟩, for_list (xs := acc) (fun i σ H' => H' = H2 ∧ ∃ y3 y4, σ = [some v, some (.str (st b)), some (.str (st c)), y3, y4] ∧ ∀ j r, j < i → (below b (rO o))[j]? = some r → (c ++ r.1.drop b.length).length ≤ 40) ⟨rfl, none, none, rfl, fun j r h => absurd h (Nat.not_lt_zero _)⟩ (fun i σ H' hi h1 => by rw [h1.1]; exact SqL.of eL) (fun i y σ H' hy h1 => ?_) (fun σ H' h1 => ?_)⟩
  · obtain ⟨rfl, y3, y4, rfl, ih⟩ := h1
    obtain ⟨r, hr, hxr⟩ := DpAll_map dL hy
    have hrm := List.mem_of_getElem? hr
    obtain ⟨e1, e2⟩ := ef r hrm
    have rl : r.1.length ≤ 40 := (g.2.2 r (List.mem_filter.mp hrm).1).1
    obtain ⟨t, z1, z2, rfl, ht1, ht2, ht3⟩ := Dp_two hxr
    cases Dp_str ht2
    have zr : (st r.1).length ≤ sizeLine := by rw [st_len]; exact smallZ (by omega)
    refine ⟨t, _, rfl, ht1, rfl, _, _, rfl, _, _, rfl, rfl, ?_⟩
    refine ⟨_, rfl, _, rfl, zc, _, rfl, _, rfl, zr, _, _, rfl, rfl, _, rfl, _, rfl, zb, _, _, rfl, rfl, _, _, rfl, rfl, _, rfl, ?_⟩
    rw [st_len, st_len, st_len]
    have en : (c ++ r.1.drop b.length).length = c.length + r.1.length - b.length := by rw [List.length_append, List.length_drop]; omega
    by_cases cc : 40 < (c ++ r.1.drop b.length).length
    · rw [decide_eq_true (show (40 : Int) < ((c.length : Nat) : Int) + ((r.1.length : Nat) : Int) - ((b.length : Nat) : Int) by omega)]
      exact iteT (qe ⟨_, e1, cc⟩ _ s2)
    · rw [decide_eq_false (show ¬ (40 : Int) < ((c.length : Nat) : Int) + ((r.1.length : Nat) : Int) - ((b.length : Nat) : Int) by omega)]
      refine iteF ⟨rfl, _, _, rfl, fun j r' hj hr' => ?_⟩
      by_cases ej : j = i
      · subst ej
        rw [hr] at hr'; cases hr'
        omega
      · exact ih j r' (by omega) hr'
  · obtain ⟨rfl, y3, y4, rfl, ih⟩ := h1
    refine qn (fun r hr => ?_) _ s2
    rw [fresh_eq] at hr
    obtain ⟨r0, h0, rfl⟩ := List.mem_map.mp hr
    obtain ⟨j, hj⟩ := List.mem_iff_getElem?.mp h0
    exact ih j r0 (by rw [al]; exact (List.getElem?_eq_some_iff.mp hj).1) hj
theorem ok_T_keep {C f1 CNoName CTooMany CT fT_do : Addr} {fdT_do : FuncData} (F : Fun K "keep" "Trail.keep" sT_keep f fd) (TTr : TrTxt K mg C f1) (TNoName : ErrTxt K mg "NoName" CNoName CT) (G_T_do : FnOk P w K mg base (L2.CX P w) 1 fT_do fdT_do pT_do (spDo K C)) (b_T_do : Binds K fdT_do pT_do []) (M_T_do : Meth K C "_do" fT_do)
    (G_Prefuse_no_names : HasX P w K mg base "_refuse_no_names" pPrefuse_no_names 5 (spRefuse K CNoName)) (G_found : Has P w K mg base "found" pfound 51 (spFound K 50)) (G_put : Has P w K mg base "put" pput 51 (spPutN K 50)) (G_Pof_size : HasX P w K mg base "_of_size" pPof_size 60 (spOfSize K CTooMany)) :
    FnOk P w K mg base (L2.CX P w) 100 f fd pT_keep (spKeep K C CNoName CTooMany) := by
  refine F.okX cT_keep (fun vs H Q E h => ?_) (fun cdv A outer s H vs Q E hr h => ?_)
  · obtain ⟨x, dx, l, o, ps, w', n, t, rfl, _⟩ := h
    rfl
  obtain ⟨x, dx, l, o, ps, w', n, t, rfl, tr, gt, pl, hn, th, qe, qn⟩ := h
  refine ⟨_, (pss_cons (ps_expr (pe_hasX (E := E) G_Prefuse_no_names hr (by omega) (passes_call (takes_of rfl rfl rfl rfl) fun _ _ _ _ h => h) (pa_cons (pe_lst (pa_cons (pv 1) pa_nil)) pa_nil)))
    (pss_cons (ps_set (i := 3) cT_keep.nd rfl (Or.inl rfl) (pe_has G_found hr (by omega) (pa_cons (pe_fld (pv 0) rfl) (pa_cons (pv 1) pa_nil))))
    (pss_cons (ps_expr (pe_meth (E := E) (pv 0) TTr.cl M_T_do G_T_do (hr.mono (by omega)) b_T_do .nil (passes_call (takes_of rfl rfl rfl rfl) fun _ _ _ _ h => h) (pa_cons (pe_hasX (E := E) G_Pof_size hr (by omega) (passes_call (takes_of rfl rfl rfl rfl) fun _ _ _ _ h => h) (pa_cons (pe_has G_put hr (by omega) (pa_cons (pe_fld (pv 0) rfl) (pa_cons (pv 1) (pa_cons (pv 2) pa_nil)))) pa_nil)) pa_nil)))
    (pss_one (ps_ret (pv 3)))))), ?_⟩
  refine ⟨_, rfl, (by show 1 ≤ sizeLine; decide), fun m nm => ?_⟩
  have sm := same_new nm (.lst [w'])
  refine ⟨m, [w'], rfl, upd_same, r1_all th sm, r1_no th sm qe, fun all H1 s1i => ?_⟩
  obtain ⟨b, eb⟩ := r1_yes th sm all
  have s1 := sm.trans s1i
  obtain ⟨qm, qk⟩ := qn b eb
  subst eb
  obtain ⟨rfl, nb⟩ := th
  obtain ⟨bl, bt⟩ := nm_iff.mp nb
  obtain ⟨ff, fd50⟩ := good_fits gt.tr gt.2.1
  have up := (treed_rO gt.tr).2.1
  obtain ⟨v, acc, h1, h2, h3, h4⟩ := tr.same s1
  refine ⟨_, rfl, x, C, dx, _, _, rfl, h1, TTr.cl, TTr.nN, tf_now _ _, _, rfl, v, o, b, rfl, h3, ff, fd50, by omega, ?_⟩
  refine ⟨_, rfl, x, dx, _, rfl, h1, rfl, _, rfl, x, C, dx, _, _, rfl, h1, TTr.cl, TTr.nN, tf_now _ _, _, rfl, _, rfl, v, o, b, n, rfl, h3, ff, treed_asc gt.tr fun r hr c hc => tab_ok c ((gt.2.1.2.2 r hr).2.1 c hc), fd50, by omega, fun c hc => tab_ok c (bt c hc), fun u H2 s2 hu => ?_⟩
  have hS := fun S (hS : putR (rO o) b n S) => pttO_ok gt.tr hS
  have pS : putR (rO o) b n (rO (some (pttO o b n))) := by
    -- the rows with the name's row in its place
    have e := putS_ok (n := n) (x := b) up
    have t2 := pttO_ok gt.tr e
    rw [(treed_rO t2).1]; exact e
  have tp := pttO_ok gt.tr pS
  have ln := put_len up pS
  have gd := put_good gt.2.1.2.2 nb hn pS
  have gS : Good (rO (some (pttO o b n))) := ⟨pS.1, by have := gt.2.2; omega, gd⟩
  obtain ⟨ff2, fd2⟩ := good_fits tp gS
  have s02 := s1.trans s2
  refine ⟨u, some (pttO o b n), rfl, hu, ff2, fd2, fun big H3 s3 => qm _ pS big H3 (s02.trans s3), fun small H3 s3 => ?_⟩
  have tr3 := tr.same (s02.trans s3)
  refine ⟨x, dx, l, o, some (pttO o b n), ps, u, rfl, tr3, pl, Dp_same s3 hu, fun H4 f4 tr4 => ?_⟩
  obtain ⟨gt', _⟩ := gt_of tp gS small
  exact ⟨_, rfl, qk _ H4 gt' pS ((Fr.of (s02.trans s3)).trans f4) tr4⟩
theorem ok_T_drop {C f1 CNoName CNotThere CT fT_do : Addr} {fdT_do : FuncData} (F : Fun K "drop" "Trail.drop" sT_drop f fd) (TTr : TrTxt K mg C f1) (TNoName : ErrTxt K mg "NoName" CNoName CT) (G_T_do : FnOk P w K mg base (L2.CX P w) 1 fT_do fdT_do pT_do (spDo K C)) (b_T_do : Binds K fdT_do pT_do []) (M_T_do : Meth K C "_do" fT_do)
    (G_Prefuse_no_names : HasX P w K mg base "_refuse_no_names" pPrefuse_no_names 5 (spRefuse K CNoName)) (G_found : Has P w K mg base "found" pfound 51 (spFound K 50)) (G_without : HasX P w K mg base "without" pwithout 53 (spWithout K CNotThere 50)) :
    FnOk P w K mg base (L2.CX P w) 100 f fd pT_drop (spDrop K C CNoName CNotThere) := by
  refine F.okX cT_drop (fun vs H Q E h => ?_) (fun cdv A outer s H vs Q E hr h => ?_)
  · obtain ⟨x, dx, l, o, ps, w', t, rfl, _⟩ := h
    rfl
  obtain ⟨x, dx, l, o, ps, w', t, rfl, tr, gt, pl, th, qe, qn⟩ := h
  refine ⟨_, (pss_cons (ps_expr (pe_hasX (E := E) G_Prefuse_no_names hr (by omega) (passes_call (takes_of rfl rfl rfl rfl) fun _ _ _ _ h => h) (pa_cons (pe_lst (pa_cons (pv 1) pa_nil)) pa_nil)))
    (pss_cons (ps_set (i := 2) cT_drop.nd rfl (Or.inl rfl) (pe_has G_found hr (by omega) (pa_cons (pe_fld (pv 0) rfl) (pa_cons (pv 1) pa_nil))))
    (pss_cons (ps_expr (pe_meth (E := E) (pv 0) TTr.cl M_T_do G_T_do (hr.mono (by omega)) b_T_do .nil (passes_call (takes_of rfl rfl rfl rfl) fun _ _ _ _ h => h) (pa_cons (pe_hasX (E := E) G_without hr (by omega) (passes_call (takes_of rfl rfl rfl rfl) fun _ _ _ _ h => h) (pa_cons (pe_fld (pv 0) rfl) (pa_cons (pv 1) pa_nil))) pa_nil)))
    (pss_one (ps_ret (pv 2)))))), ?_⟩
  refine ⟨_, rfl, (by show 1 ≤ sizeLine; decide), fun m nm => ?_⟩
  have sm := same_new nm (.lst [w'])
  refine ⟨m, [w'], rfl, upd_same, r1_all th sm, r1_no th sm qe, fun all H1 s1i => ?_⟩
  obtain ⟨b, eb⟩ := r1_yes th sm all
  have s1 := sm.trans s1i
  obtain ⟨qm, qk⟩ := qn b eb
  subst eb
  obtain ⟨rfl, nb⟩ := th
  obtain ⟨bl, bt⟩ := nm_iff.mp nb
  obtain ⟨ff, fd50⟩ := good_fits gt.tr gt.2.1
  have up := (treed_rO gt.tr).2.1
  obtain ⟨v, acc, h1, h2, h3, h4⟩ := tr.same s1
  refine ⟨_, rfl, x, C, dx, _, _, rfl, h1, TTr.cl, TTr.nN, tf_now _ _, _, rfl, v, o, b, rfl, h3, ff, fd50, by omega, ?_⟩
  refine ⟨_, rfl, x, dx, _, rfl, h1, rfl, _, rfl, x, C, dx, _, _, rfl, h1, TTr.cl, TTr.nN, tf_now _ _, _, rfl, v, o, b, rfl, h3, ff, fd50, by omega, fun c hc => tab_ok c (bt c hc), fun e => qm e _ s1, fun k ek u H2 s2 hu => ?_⟩
  have s02 := s1.trans s2
  have tw := wotO_ok gt.tr up ek
  have gS : Good ((rO o).filter fun r => !decide (r.1 = b)) := ⟨up.filter _, Nat.le_trans (List.length_filter_le _ _) gt.2.1.2.1, fun r hr => gt.2.1.2.2 r (List.mem_filter.mp hr).1⟩
  obtain ⟨gt', er⟩ := gt_of tw gS (Nat.le_trans (List.length_filter_le _ _) gt.2.2)
  refine ⟨x, dx, l, o, wotO o b, ps, u, rfl, tr.same s02, pl, hu, fun H4 f4 tr4 => ⟨_, rfl, ?_⟩⟩
  have := qk k ek _ H4 gt' er ((Fr.of s02).trans f4) tr4
  rw [ek]; exact this
theorem ok_T_prune {C f1 CNoName CNotThere CT fT_do : Addr} {fdT_do : FuncData} (F : Fun K "prune" "Trail.prune" sT_prune f fd) (TTr : TrTxt K mg C f1) (TNoName : ErrTxt K mg "NoName" CNoName CT) (TNotThere : ErrTxt K mg "NotThere" CNotThere CT) (G_T_do : FnOk P w K mg base (L2.CX P w) 1 fT_do fdT_do pT_do (spDo K C)) (b_T_do : Binds K fdT_do pT_do []) (M_T_do : Meth K C "_do" fT_do)
    (G_Prefuse_no_names : HasX P w K mg base "_refuse_no_names" pPrefuse_no_names 5 (spRefuse K CNoName)) (G_cut : Has P w K mg base "cut" pcut 52 (spCut K)) (G_names : Has P w K mg base "names" pnames 51 (spNames K 50)) (m_len : mg "len" = none) :
    FnOk P w K mg base (L2.CX P w) 100 f fd pT_prune (spPrune K C CNoName CNotThere) := by
  refine F.okX cT_prune (fun vs H Q E h => ?_) (fun cdv A outer s H vs Q E hr h => ?_)
  · obtain ⟨x, dx, l, o, ps, w', t, rfl, _⟩ := h
    rfl
  obtain ⟨x, dx, l, o, ps, w', t, rfl, tr, gt, pl, th, qe, qn⟩ := h
  refine ⟨_, (pss_cons (ps_expr (pe_hasX (E := E) G_Prefuse_no_names hr (by omega) (passes_call (takes_of rfl rfl rfl rfl) fun _ _ _ _ h => h) (pa_cons (pe_lst (pa_cons (pv 1) pa_nil)) pa_nil)))
    (pss_cons (ps_asg (pe_has G_cut hr (by omega) (pa_cons (pe_fld (pv 0) rfl) (pa_cons (pv 1) pa_nil))) (pg_tup (by rfl) (pgs_cons (pg_name (i := 2) cT_prune.nd rfl (Or.inl rfl)) (pgs_cons (pg_name (i := 3) cT_prune.nd rfl (Or.inl rfl)) pgs_nil))))
    (pss_cons (ps_if (pt_cmpR op_isN (pv 3) pe_non (nomark _)) (pss_one (ps_raise rfl (takes_of rfl rfl rfl rfl) (SkE.pmk_own1 PySem.F.excBase_ValueError TNotThere.xN TNotThere.gN TNotThere.kN (raises_own TNotThere.bN TNotThere.tN) (by rfl) pe_str))) pss_nil)
    (pss_cons (ps_expr (pe_meth (E := E) (pv 0) TTr.cl M_T_do G_T_do (hr.mono (by omega)) b_T_do .nil (passes_call (takes_of rfl rfl rfl rfl) fun _ _ _ _ h => h) (pa_cons (pv 2) pa_nil)))
    (pss_one (ps_ret (pe_callB call_len_seq (by rfl) m_len (by decide +kernel) (pa_cons (pe_has G_names hr (by omega) (pa_cons (pv 3) pa_nil)) pa_nil)))))))), ?_⟩
  refine ⟨_, rfl, (by show 1 ≤ sizeLine; decide), fun m nm => ?_⟩
  have sm := same_new nm (.lst [w'])
  refine ⟨m, [w'], rfl, upd_same, r1_all th sm, r1_no th sm qe, fun all H1 s1i => ?_⟩
  obtain ⟨b, eb⟩ := r1_yes th sm all
  have s1 := sm.trans s1i
  obtain ⟨qm, qk⟩ := qn b eb
  subst eb
  obtain ⟨rfl, nb⟩ := th
  obtain ⟨bl, bt⟩ := nm_iff.mp nb
  obtain ⟨ff, fd50⟩ := good_fits gt.tr gt.2.1
  obtain ⟨v, acc, h1, h2, h3, h4⟩ := tr.same s1
  refine ⟨_, rfl, x, C, dx, _, _, rfl, h1, TTr.cl, TTr.nN, tf_now _ _, _, rfl, v, o, b, rO o, rfl, h3, gt.tr, ff, fd50, by omega, fun u o1 o2 H2 t1 t2 s2 hu => ?_⟩
  obtain ⟨p, l1, l2, rfl, hp, d1, d2⟩ := Dp_two hu
  refine ⟨p, _, rfl, hp, rfl, _, _, rfl, _, _, rfl, rfl, ?_⟩
  have s02 := s1.trans s2
  have g2 := gone_good (b := b) gt.2.1
  cases o2 with
  | none =>
    cases Dp_non d2
    exact ⟨_, rfl, rfl, _, rfl, iteT (qm ((treed_nil t2).mp rfl) _ s02)⟩
  | some t =>
    have nn : decide (l2 = V.non) = false := decide_eq_false fun e => by
      rw [e] at d2
      have d2 : Dp K H2 .non t.toD := d2
      cases t <;> · simp only [Tr.toD] at d2; obtain ⟨_, _, e, _⟩ := Dp_tup d2; cases e
    refine ⟨_, rfl, rfl, _, rfl, ?_⟩
    rw [nn]
    refine iteF ?_
    have ne : goneR b (rO o) ≠ [] := fun e => by
      have := (treed_nil t2).mpr e
      cases this
    have tr2 := tr.same s02
    obtain ⟨v2, acc2, k1, _⟩ := id tr2
    refine ⟨_, rfl, x, dx, _, rfl, k1, rfl, _, rfl, x, dx, l, o, o1, ps, l1, rfl, tr2, pl, d1, fun H4 f4 tr4 => ?_⟩
    obtain ⟨gt', er⟩ := gt_of t1 (stay_good gt.2.1) (Nat.le_trans (List.length_filter_le _ _) gt.2.2)
    have d24 := Dp_kt (tr2.kt f4) (oD_nolist (some t)) d2
    obtain ⟨f2, fd2⟩ := good_fits t2 g2
    refine ⟨_, rfl, l2, some t, rfl, d24, f2, fd2, fun L acc' H5 nL s5 eL dL => ?_⟩
    rw [rows_rO, (treed_rO t2).1] at dL
    have al : acc'.length = (goneR b (rO o)).length := by rw [DpAll_len dL, List.length_map]
    refine ⟨L, acc', rfl, .inl (SqL.of eL), ?_⟩
    rw [al]
    exact qk ne o1 H5 gt' er (((Fr.of s02).trans f4).trans (Fr.of s5)) (tr4.same s5)
theorem ok_T_move {C f1 CNoName CNotThere CTooLong CTaken CT fT_do : Addr} {fdT_do : FuncData} (F : Fun K "move" "Trail.move" sT_move f fd) (TTr : TrTxt K mg C f1) (TNoName : ErrTxt K mg "NoName" CNoName CT) (G_T_do : FnOk P w K mg base (L2.CX P w) 1 fT_do fdT_do pT_do (spDo K C)) (b_T_do : Binds K fdT_do pT_do []) (M_T_do : Meth K C "_do" fT_do)
    (G_Prefuse_no_names : HasX P w K mg base "_refuse_no_names" pPrefuse_no_names 5 (spRefuse K CNoName)) (G_Prefuse_long_names : HasX P w K mg base "_refuse_long_names" pPrefuse_long_names 95 (spLong K CTooLong)) (G_many : Has P w K mg base "many" pmany 90 (spMany K)) (G_moved : HasX P w K mg base "moved" pmoved 102 (spMoved K CNotThere CTaken stayR)) :
    FnOk P w K mg base (L2.CX P w) 120 f fd pT_move (spMove K C CNoName CNotThere CTooLong CTaken stayR none) := by
  refine F.okX cT_move (fun vs H Q E h => ?_) (fun cdv A outer s H vs Q E hr h => ?_)
  · obtain ⟨x, dx, l, o, ps, w', u', t, s', rfl, _⟩ := h
    rfl
  obtain ⟨x, dx, l, o, ps, w', u', t, s', rfl, tr, gt, pl, th, th2, qe, qn⟩ := h
  refine ⟨_, (pss_cons (ps_expr (pe_hasX (E := E) G_Prefuse_no_names hr (by omega) (passes_call (takes_of rfl rfl rfl rfl) fun _ _ _ _ h => h) (pa_cons (pe_lst (pa_cons (pv 1) (pa_cons (pv 2) pa_nil))) pa_nil)))
    (pss_cons (ps_expr (pe_hasX (E := E) G_Prefuse_long_names hr (by omega) (passes_call (takes_of rfl rfl rfl rfl) fun _ _ _ _ h => h) (pa_cons (pe_fld (pv 0) rfl) (pa_cons (pv 1) (pa_cons (pv 2) pa_nil)))))
    (pss_cons (ps_set (i := 3) cT_move.nd rfl (Or.inl rfl) (pe_has G_many hr (by omega) (pa_cons (pe_fld (pv 0) rfl) (pa_cons (pv 1) pa_nil))))
    (pss_cons (ps_expr (pe_meth (E := E) (pv 0) TTr.cl M_T_do G_T_do (hr.mono (by omega)) b_T_do .nil (passes_call (takes_of rfl rfl rfl rfl) fun _ _ _ _ h => h) (pa_cons (pe_hasX (E := E) G_moved hr (by omega) (passes_call (takes_of rfl rfl rfl rfl) fun _ _ _ _ h => h) (pa_cons (pe_fld (pv 0) rfl) (pa_cons (pv 1) (pa_cons (pv 2) pa_nil)))) pa_nil)))
    (pss_one (ps_ret (pv 3))))))), ?_⟩
  refine ⟨_, rfl, _, rfl, (by show 2 ≤ sizeLine; decide), fun m nm => ?_⟩
  have sm := same_new nm (.lst [w', u'])
  refine ⟨m, [w', u'], rfl, upd_same, r2_all th th2 sm, r2_no th th2 sm qe, fun all H1 s1i => ?_⟩
  obtain ⟨b, c, eb, ec⟩ := r2_yes th th2 sm all
  have s1 := sm.trans s1i
  obtain ⟨q1, q2, q3, _, q5⟩ := qn b c eb ec
  subst eb
  subst ec
  obtain ⟨rfl, nb⟩ := th
  obtain ⟨rfl, nc⟩ := th2
  obtain ⟨bl, bt⟩ := nm_iff.mp nb
  obtain ⟨cl, ct⟩ := nm_iff.mp nc
  obtain ⟨v, acc, h1, h2, h3, h4⟩ := tr.same s1
  refine ⟨_, rfl, x, C, dx, _, _, rfl, h1, TTr.cl, TTr.nN, tf_now _ _, _, rfl, _, rfl, v, o, b, c, rfl, h3, gt.tr, gt.2.1, bl, cl, fun lg H2 s2 => ?_, fun ok H2 s2 => ?_⟩
  · obtain ⟨r, hr', hl⟩ := lg
    exact q2 (fun e => by rw [fresh_nil.mpr e] at hr'; simp at hr') ⟨r, hr', hl⟩ H2 (s1.trans s2)
  have s02 := s1.trans s2
  obtain ⟨v2, acc2, k1, k2, k3, k4⟩ := tr.same s02
  refine ⟨_, rfl, x, C, dx, _, _, rfl, k1, TTr.cl, TTr.nN, tf_now _ _, _, rfl, v2, o, rO o, b, rfl, ⟨k3, gt.tr, gt.2.1⟩, by omega, fun H3 s3 => ?_⟩
  have s03 := s02.trans s3
  obtain ⟨v3, acc3, j1, j2, j3, j4⟩ := tr.same s03
  refine ⟨_, rfl, x, dx, _, rfl, j1, rfl, _, rfl, x, C, dx, _, _, rfl, j1, TTr.cl, TTr.nN, tf_now _ _, _, rfl, _, rfl, v3, o, rO o, b, c, rfl, j3, gt.tr, gt.2.1, bl, cl, bt, ct, fun e H4 s4 => q1 (fresh_nil.mp e) H4 (s03.trans s4), fun ne sh H4 s4 => q3 (fun e => ne (fresh_nil.mpr e)) ok sh H4 (s03.trans s4), fun ne ns o2 T u4 H4 bo tt s4 hu4 => ?_⟩
  have ne' : goneR b (rO o) ≠ [] := fun e => ne (fresh_nil.mpr e)
  have lT := both_len (stay_up gt.2.1.1) (up_map (gone_up gt.2.1.1)) ns bo
  rw [List.length_map] at lT
  have el : (freshR b c (rO o)).length = (goneR b (rO o)).length := by unfold freshR; exact List.length_map ..
  have lsum : (stayR b (rO o)).length + (freshR b c (rO o)).length ≤ 100 := by
    have e := stay_gone b (rO o)
    have := gt.2.2
    unfold freshR
    rw [List.length_map]; omega
  have gT : Good T := both_good (stay_good gt.2.1).2.2 (fresh_good gt.2.1 nc ok) bo (by omega)
  obtain ⟨gt', er⟩ := gt_of tt gT (by omega)
  have s04 := s03.trans s4
  refine ⟨x, dx, l, o, o2, ps, u4, rfl, tr.same s04, pl, hu4, fun H5 f5 tr5 => ⟨_, rfl, ?_⟩⟩
  have := q5 ne' ok ns lsum o2 H5 gt' (by rw [er]; exact bo) ((Fr.of s04).trans f5) tr5
  rw [show ((below b (rO o)).length : Nat) = (goneR b (rO o)).length by rw [below_gone, List.length_map]]
  exact this
theorem ok_T_graft {C f1 CNoName CNotThere CTooLong CTaken CTooMany CT fT_do : Addr} {fdT_do : FuncData} (F : Fun K "graft" "Trail.graft" sT_graft f fd) (TTr : TrTxt K mg C f1) (TNoName : ErrTxt K mg "NoName" CNoName CT) (G_T_do : FnOk P w K mg base (L2.CX P w) 1 fT_do fdT_do pT_do (spDo K C)) (b_T_do : Binds K fdT_do pT_do []) (M_T_do : Meth K C "_do" fT_do)
    (G_Prefuse_no_names : HasX P w K mg base "_refuse_no_names" pPrefuse_no_names 5 (spRefuse K CNoName)) (G_Prefuse_long_names : HasX P w K mg base "_refuse_long_names" pPrefuse_long_names 95 (spLong K CTooLong)) (G_many : Has P w K mg base "many" pmany 90 (spMany K)) (G_copied : HasX P w K mg base "copied" pcopied 102 (spMoved K CNotThere CTaken (fun _ R => R)))
    (G_Pof_size : HasX P w K mg base "_of_size" pPof_size 60 (spOfSize K CTooMany)) :
    FnOk P w K mg base (L2.CX P w) 120 f fd pT_graft (spMove K C CNoName CNotThere CTooLong CTaken (fun _ R => R) (some CTooMany)) := by
  refine F.okX cT_graft (fun vs H Q E h => ?_) (fun cdv A outer s H vs Q E hr h => ?_)
  · obtain ⟨x, dx, l, o, ps, w', u', t, s', rfl, _⟩ := h
    rfl
  obtain ⟨x, dx, l, o, ps, w', u', t, s', rfl, tr, gt, pl, th, th2, qe, qn⟩ := h
  refine ⟨_, (pss_cons (ps_expr (pe_hasX (E := E) G_Prefuse_no_names hr (by omega) (passes_call (takes_of rfl rfl rfl rfl) fun _ _ _ _ h => h) (pa_cons (pe_lst (pa_cons (pv 1) (pa_cons (pv 2) pa_nil))) pa_nil)))
    (pss_cons (ps_expr (pe_hasX (E := E) G_Prefuse_long_names hr (by omega) (passes_call (takes_of rfl rfl rfl rfl) fun _ _ _ _ h => h) (pa_cons (pe_fld (pv 0) rfl) (pa_cons (pv 1) (pa_cons (pv 2) pa_nil)))))
    (pss_cons (ps_set (i := 3) cT_graft.nd rfl (Or.inl rfl) (pe_has G_many hr (by omega) (pa_cons (pe_fld (pv 0) rfl) (pa_cons (pv 1) pa_nil))))
    (pss_cons (ps_expr (pe_meth (E := E) (pv 0) TTr.cl M_T_do G_T_do (hr.mono (by omega)) b_T_do .nil (passes_call (takes_of rfl rfl rfl rfl) fun _ _ _ _ h => h) (pa_cons (pe_hasX (E := E) G_Pof_size hr (by omega) (passes_call (takes_of rfl rfl rfl rfl) fun _ _ _ _ h => h) (pa_cons (pe_hasX (E := E) G_copied hr (by omega) (passes_call (takes_of rfl rfl rfl rfl) fun _ _ _ _ h => h) (pa_cons (pe_fld (pv 0) rfl) (pa_cons (pv 1) (pa_cons (pv 2) pa_nil)))) pa_nil)) pa_nil)))
    (pss_one (ps_ret (pv 3))))))), ?_⟩
  refine ⟨_, rfl, _, rfl, (by show 2 ≤ sizeLine; decide), fun m nm => ?_⟩
  have sm := same_new nm (.lst [w', u'])
  refine ⟨m, [w', u'], rfl, upd_same, r2_all th th2 sm, r2_no th th2 sm qe, fun all H1 s1i => ?_⟩
  obtain ⟨b, c, eb, ec⟩ := r2_yes th th2 sm all
  have s1 := sm.trans s1i
  obtain ⟨q1, q2, q3, q4, q5⟩ := qn b c eb ec
  subst eb
  subst ec
  obtain ⟨rfl, nb⟩ := th
  obtain ⟨rfl, nc⟩ := th2
  obtain ⟨bl, bt⟩ := nm_iff.mp nb
  obtain ⟨cl, ct⟩ := nm_iff.mp nc
  obtain ⟨v, acc, h1, h2, h3, h4⟩ := tr.same s1
  refine ⟨_, rfl, x, C, dx, _, _, rfl, h1, TTr.cl, TTr.nN, tf_now _ _, _, rfl, _, rfl, v, o, b, c, rfl, h3, gt.tr, gt.2.1, bl, cl, fun lg H2 s2 => ?_, fun ok H2 s2 => ?_⟩
  · obtain ⟨r, hr', hl⟩ := lg
    exact q2 (fun e => by rw [fresh_nil.mpr e] at hr'; simp at hr') ⟨r, hr', hl⟩ H2 (s1.trans s2)
  have s02 := s1.trans s2
  obtain ⟨v2, acc2, k1, k2, k3, k4⟩ := tr.same s02
  refine ⟨_, rfl, x, C, dx, _, _, rfl, k1, TTr.cl, TTr.nN, tf_now _ _, _, rfl, v2, o, rO o, b, rfl, ⟨k3, gt.tr, gt.2.1⟩, by omega, fun H3 s3 => ?_⟩
  have s03 := s02.trans s3
  obtain ⟨v3, acc3, j1, j2, j3, j4⟩ := tr.same s03
  refine ⟨_, rfl, x, dx, _, rfl, j1, rfl, _, rfl, x, C, dx, _, _, rfl, j1, TTr.cl, TTr.nN, tf_now _ _, _, rfl, _, rfl, v3, o, rO o, b, c, rfl, j3, gt.tr, gt.2.1, bl, cl, bt, ct, fun e H4 s4 => q1 (fresh_nil.mp e) H4 (s03.trans s4), fun ne sh H4 s4 => q3 (fun e => ne (fresh_nil.mpr e)) ok sh H4 (s03.trans s4), fun ne ns o2 T u4 H4 bo tt s4 hu4 => ?_⟩
  have ne' : goneR b (rO o) ≠ [] := fun e => ne (fresh_nil.mpr e)
  have lT := both_len gt.2.1.1 (up_map (gone_up gt.2.1.1)) ns bo
  have eT := (treed_rO tt).1
  have lf : (freshR b c (rO o)).length ≤ 100 := by
    unfold freshR goneR
    rw [List.length_map, List.length_map]
    exact Nat.le_trans (List.length_filter_le _ _) gt.2.2
  have lT' : T.length = (rO o).length + (freshR b c (rO o)).length := lT
  have g100 := gt.2.2
  have gall : ∀ r ∈ T, GoodR r := fun r hr => ((bo.2 r).mp hr).elim (gt.2.1.2.2 r) (fresh_good gt.2.1 nc ok r)
  obtain ⟨ff, fd50⟩ := gr_fits tt (N := 200) ⟨bo.1, by omega, gall⟩ (by decide)
  have s04 := s03.trans s4
  refine ⟨u4, o2, rfl, hu4, ff, fd50, fun big H5 s5 => q4 _ rfl ne' ok ns (by show 100 < (rO o).length + (freshR b c (rO o)).length; rw [eT] at big; omega) H5 (s04.trans s5), fun small H5 s5 => ?_⟩
  have lsum : (rO o).length + (freshR b c (rO o)).length ≤ 100 := by rw [eT] at small; omega
  have gT : Good T := ⟨bo.1, by omega, gall⟩
  obtain ⟨gt', er⟩ := gt_of tt gT (by omega)
  have s05 := s04.trans s5
  refine ⟨x, dx, l, o, o2, ps, u4, rfl, tr.same s05, pl, Dp_same s5 hu4, fun H6 f6 tr6 => ⟨_, rfl, ?_⟩⟩
  have := q5 ne' ok ns lsum o2 H6 gt' (by rw [er]; exact bo) ((Fr.of s05).trans f6) tr6
  rw [show ((below b (rO o)).length : Nat) = (goneR b (rO o)).length by rw [below_gone, List.length_map]]
  exact this
theorem ok_T_back {C f1 CNothingDone CT : Addr} (F : Fun K "back" "Trail.back" sT_back f fd) (TTr : TrTxt K mg C f1) (TNothingDone : ErrTxt K mg "NothingDone" CNothingDone CT) : FnOk P w K mg base (L2.CX P w) 5 f fd pT_back (spBack K C CNothingDone) := by
  refine F.okX cT_back (fun vs H Q E h => ?_) (fun cdv A outer s H vs Q E hr h => ?_)
  · obtain ⟨x, dx, l, o, ps, rfl, _⟩ := h
    rfl
  obtain ⟨x, dx, l, o, ps, rfl, tr, qe, qn⟩ := h
  refine ⟨_, (pss_cons (ps_if (pt_not (pt_truth (pe_fld (pv 0) rfl) (by intro _; rfl))) (pss_one (ps_raise rfl (takes_of rfl rfl rfl rfl) (SkE.pmk_own1 PySem.F.excBase_ValueError TNothingDone.xN TNothingDone.gN TNothingDone.kN (raises_own TNothingDone.bN TNothingDone.tN) (by rfl) pe_str))) pss_nil)
    (pss_one (ps_fld (pv 0) (pe_bm0 PySem.F.plainAttrs_list PySem.F.slot_list_pop PySem.F.type_list_pop mt_pop (pe_fld (pv 0) rfl)) rfl))), ?_⟩
  have nxl := tr.fr_ne
  obtain ⟨v, acc, h1, h2, h3, h4⟩ := id tr
  have al : acc.length = ps.length := by rw [DpAll_len h4, List.length_map]
  refine ⟨_, rfl, x, C, dx, _, _, rfl, h1, TTr.cl, TTr.nE, tf_earlier _ _, _, .inl ⟨acc, SqL.of h2, rfl⟩, ?_⟩
  rcases List.eq_nil_or_concat ps with rfl | ⟨qs, p, ec⟩
  · cases DpAll_nil h4
    exact iteT (qe rfl H (Same.refl H))
  · rw [List.concat_eq_append] at ec
    subst ec
    rw [List.map_append] at h4
    obtain ⟨a1, y, rfl, g1, g2⟩ := DpAll_split h4
    obtain ⟨z, zs, rfl, gz, gzs⟩ := DpAll_cons g2
    cases DpAll_nil gzs
    have ne : (!(a1 ++ [z]).isEmpty) = true := by cases a1 <;> rfl
    rw [ne]
    refine iteF ?_
    refine ⟨_, rfl, x, C, dx, _, _, rfl, h1, TTr.cl, TTr.nE, tf_earlier _ _, .inl ⟨rfl, _, SqL.of h2⟩, l, _, z, rfl, rfl, h2, by simp, ?_⟩
    refine ⟨_, rfl, x, C, dx, _, rfl, (Eq.trans (upd_ne nxl) h1), TTr.cl, TTr.nN, (by show 2 < 1000; decide), ?_⟩
    rw [tf_put, List.dropLast_concat]
    have f : Fr x l H (upd (upd H l (.lst a1)) x (.ins C dx (tf z l))) := fun b u nb nb2 e => by rw [upd_ne nb, upd_ne nb2]; exact e
    have kt := tr.kt f
    exact qn qs p rfl _ f ⟨z, a1, upd_same, by rw [upd_ne nxl.symm, upd_same], Dp_kt kt (oD_nolist _) gz, DpAll_kt kt (oDs_nolist _) g1⟩
theorem ok_T_tree {C f1 : Addr} (F : Fun K "tree" "Trail.tree" sT_tree f fd) (TTr : TrTxt K mg C f1) : FnOk P w K mg base (L2.CX P w) 1 f fd pT_tree (spTreeM K C) := by
  refine fn_wide (F.ok cT_tree (fun vs H Q E h => ?_) (fun cdv A outer s H vs Q E hr h => ?_))
  · obtain ⟨x, dx, l, o, ps, rfl, _⟩ := h
    rfl
  obtain ⟨x, dx, l, o, ps, rfl, tr, q⟩ := h
  refine ⟨_, (pss_one (ps_ret (pe_fld (pv 0) rfl))), ?_⟩
  obtain ⟨v, acc, h1, h2, h3, h4⟩ := id tr
  exact ⟨_, rfl, x, C, dx, _, _, rfl, h1, TTr.cl, TTr.nN, tf_now _ _, q v h3⟩
theorem ok_Ltext_by (F : Fun K "_law_text_by" "_law_text_by" sLtext_by f fd)
    (G_Lword_by : Has P w K mg base "_law_word_by" pLword_by 2 (spWord)) (m_int : mg "int" = none) (m_len : mg "len" = none) :
    FnOk P w K mg base CX0 3 f fd pLtext_by (spTextBy K) := by
  refine F.ok cLtext_by (fun vs H Q E h => ?_) (fun cdv A outer s H vs Q E hr h => ?_)
  · obtain ⟨c, v, R, rfl, _⟩ := h
    rfl
  obtain ⟨c, v, R, rfl, hv, hg, q⟩ := h
  refine ⟨_, (pss_cons (ps_if (pt_cmpR op_eq (pe_op op_mod (pv 0) pe_int) pe_int (nomark _)) (pss_one (ps_ret (pe_ix (r := rIxL K) ix_list (pe_lst (pa_cons pe_str (pa_cons pe_str (pa_cons (pe_has G_Lword_by hr (by omega) (pa_cons (pv 0) (pa_cons pe_int pa_nil))) (pa_cons pe_non (pa_cons pe_int pa_nil)))))) (pe_op op_mod (pe_op op_fdiv (pv 0) pe_int) pe_int) (fun _ _ => rfl)))) pss_nil)
    (pss_cons (ps_set (i := 2) cLtext_by.nd rfl (Or.inl rfl) (pe_op op_add (pe_op op_mod (pe_op op_fdiv (pv 0) pe_int) pe_int) (pe_op op_mul pe_int (pe_callTy call_int1 (by rfl) m_int (by decide +kernel) (pa_cons (pe_cmpR op_eq (pe_op op_mod (pe_op op_fdiv (pv 0) pe_int) pe_int) pe_int (nomark _)) pa_nil)))))
    (pss_cons (ps_set (i := 3) cLtext_by.nd rfl (Or.inl rfl) (pe_has G_Lword_by hr (by omega) (pa_cons (pe_op op_fdiv (pv 0) pe_int) (pa_cons (pv 2) pa_nil))))
    (pss_cons (ps_if (PW.pt (pw_or (pt_cmpR op_eq (pe_op op_mod (pv 0) pe_int) pe_int (nomark _)) (pw_or1 (pt_cmpR (op_eqD hr.units) (pv 1) (pe_lst pa_nil) (nomark _))))) (pss_one (ps_ret (pv 3))) pss_nil)
    (pss_cons (ps_set (i := 4) cLtext_by.nd rfl (Or.inl rfl) (pe_ix (r := rIxL K) ix_list (pv 1) (pe_op op_mod (pe_op op_fdiv (pv 0) pe_int) (pe_callB call_len_seq (by rfl) m_len (by decide +kernel) (pa_cons (pv 1) pa_nil))) (fun _ _ => rfl)))
    (pss_cons (ps_if (pt_cmpR op_eq (pe_op op_mod (pv 0) pe_int) pe_int (nomark _)) (pss_one (ps_ret (pv 4))) pss_nil)
    (pss_cons (ps_if (pt_cmpR op_eq (pe_op op_mod (pv 0) pe_int) pe_int (nomark _)) (pss_one (ps_ret (pe_slice sl_str (pe_op op_add_str (pv 4) (pv 3)) po_none (po_some pe_int)))) pss_nil)
    (pss_one (ps_ret (pe_slice sl_str (pv 4) po_none (po_some (pe_op op_mod (pe_op op_mod (pe_op op_mul (pv 0) pe_int) pe_int) (pe_op op_add (pe_callB call_len_str (by rfl) m_len (by decide +kernel) (pa_cons (pv 4) pa_nil)) pe_int))))))))))))), ?_⟩
  have e0 : ∀ {A B : Prop} {b : Bool}, (b = true → A) → (b = false → B) → if b = true then A else B := fun {A B b} h1 h2 => by cases b with | true => exact iteT (h1 rfl) | false => exact iteF (h2 rfl)
  have qw : ∀ {x : List Nat} {H' : Hp}, x.length ≤ 41 → (∀ c ∈ x, c ∈ signTab) → Same H H' → Q (.str (st x)) H' := fun hx hs s => q _ _ s (.inl ⟨_, rfl, hx, .inl hs⟩)
  refine ⟨_, rfl, _, _, rfl, rfl, (by show (0 : Int) < 23; decide), rfl, _, rfl, e0 (fun _ => ?_) (fun _ => ?_)⟩
  · -- no names, mostly
    refine ⟨_, rfl, _, _, rfl, by decide, by decide, fun H1 s1 => ⟨(by show 5 ≤ sizeLine; decide), fun l nl => ?_⟩⟩
    have wl : (word c 41).length = 41 := word_len _ _
    have wt : ∀ x ∈ word c 41, x ∈ signTab := word_tab _ _
    generalize word c 41 = w at wl wt
    have sl := same_new nl (.lst [.str (Str.ofString "a\n"), .str (Str.ofString "\tb"), .str (st w), .non, .int 7])
    have s2 := s1.trans sl
    refine ⟨_, rfl, _, _, rfl, rfl, ⟨by decide, by decide⟩, _, _, rfl, rfl, (by show (0 : Int) < 5; decide), ?_⟩
    have b0 : 0 ≤ c / 23 % 5 := by omega
    have b1 : c / 23 % 5 < 5 := by omega
    have ej : c / 23 % 5 = (((c / 23 % 5).toNat : Nat) : Int) := (Int.toNat_of_nonneg b0).symm
    have hj : (c / 23 % 5).toNat < 5 := by omega
    refine ⟨l, _, _, _, rfl, rfl, SqL.of upd_same, (by show atI _ (c / 23 % 5) = _; rw [ej]; exact atI_nat (List.getElem?_eq_getElem (by exact hj))), ?_⟩
    generalize (c / 23 % 5).toNat = j at hj
    match j, hj with
    | 0, _ => exact q _ _ s2 (.inl ⟨[97, 10], rfl, by simp, .inr (.inl rfl)⟩)
    | 1, _ => exact q _ _ s2 (.inl ⟨[9, 98], rfl, by simp, .inr (.inr rfl)⟩)
    | 2, _ => exact qw (x := w) (by omega) wt s2
    | 3, _ => exact q _ _ s2 (.inr (.inl rfl))
    | 4, _ => exact q _ _ s2 (.inr (.inr rfl))
  have b7 : 0 ≤ c / 4 % 7 ∧ c / 4 % 7 < 7 := by omega
  refine ⟨_, rfl, _, _, rfl, rfl, ⟨by decide, by decide⟩, _, _, rfl, rfl, (by show (0 : Int) < 7; decide), _, rfl, _, _, rfl, rfl, ⟨by decide, by decide⟩, _, _, rfl, rfl, (by show (0 : Int) < 9; decide), rfl, .inr ⟨_, rfl, ?_⟩⟩
  generalize decide ((fun i j => V.int (i % j)) (c / 28) 9 = V.int 8) = b
  obtain ⟨k, ek, hk⟩ : ∃ k : Int, (if b = true then 1 else 0) = k ∧ (k = 0 ∨ k = 1) := ⟨_, rfl, by cases b <;> simp⟩
  rw [ek]
  clear ek
  refine ⟨_, _, rfl, rfl, .inl ⟨by decide, by rcases hk with rfl | rfl <;> decide⟩, _, _, rfl, rfl, ?_⟩
  generalize hz : c / 4 % 7 + 34 * k = z
  have bz : 0 ≤ z ∧ z ≤ 40 := by omega
  refine ⟨_, rfl, _, _, rfl, rfl, ⟨by decide, by decide⟩, _, rfl, _, _, rfl, by omega, by omega, fun H1 s1 => ?_⟩
  obtain ⟨w, hw⟩ : ∃ w, w = word (c / 28) (c / 4 % 7 + 34 * k) := ⟨_, rfl⟩
  have wl : w.length ≤ 40 := by rw [hw, word_len]; omega
  have wt : ∀ x ∈ w, x ∈ signTab := by rw [hw]; exact word_tab _ _
  rw [show word ((fun (i j : Int) => i / j) c 28) (c / 4 % 7 + 34 * k) = w from hw.symm]
  have hv1 := Dp_same s1 hv
  -- the word alone
  refine ⟨_, rfl, _, _, rfl, rfl, (by show (0 : Int) < 4; decide), rfl, _, rfl, e0 (fun _ => ?_) (fun _ => ?_)⟩
  · exact iteT ⟨_, rfl, qw (x := w) (by omega) wt s1⟩
  refine ⟨_, rfl, (by show 0 ≤ sizeLine; decide), fun l nl => ?_⟩
  have sl := same_new nl (.lst [])
  have s2 := s1.trans sl
  refine ⟨.list (R.map textD), .list [], Dp_same sl hv1, .lst (SqL.of upd_same) .nil, texts_shaped fun x hx => (nm_iff.mp (hg x hx)).2, rfl, _, rfl, ?_⟩
  cases hR : R with
  | nil => exact iteT ⟨_, rfl, qw (x := w) (by omega) wt s2⟩
  | cons r0 R' =>
    refine iteF ?_
    obtain ⟨a, xs, rfl, ha, hd⟩ := Dp_lst (Dp_same sl hv1)
    rw [hR] at hd
    have hx5 : xs.length = (r0 :: R').length := by rw [DpAll_len hd, List.length_map]
    have pos : (0 : Int) < ((xs.length : Nat) : Int) := by rw [hx5]; simp
    have b0 : 0 ≤ c / 28 % ((xs.length : Nat) : Int) := Int.emod_nonneg _ (by omega)
    have b1 : c / 28 % ((xs.length : Nat) : Int) < ((xs.length : Nat) : Int) := Int.emod_lt_of_pos _ pos
    have ej : c / 28 % ((xs.length : Nat) : Int) = (((c / 28 % ((xs.length : Nat) : Int)).toNat : Nat) : Int) := (Int.toNat_of_nonneg b0).symm
    have hj : (c / 28 % ((xs.length : Nat) : Int)).toNat < xs.length := by omega
    generalize hjj : (c / 28 % ((xs.length : Nat) : Int)).toNat = j at ej hj
    have hvj := List.getElem?_eq_getElem hj
    obtain ⟨r, hr1, hr2⟩ := DpAll_map hd hvj
    have hrR : r ∈ R := by rw [hR]; exact List.mem_of_getElem? hr1
    obtain ⟨u, eu⟩ : ∃ u, u = xs[j] := ⟨_, rfl⟩
    rw [← eu] at hvj hr2
    cases Dp_str hr2
    obtain ⟨ga, gt⟩ := nm_iff.mp (hg r hrR)
    refine ⟨_, rfl, _, rfl, _, _, rfl, rfl, ⟨by decide, by decide⟩, _, rfl, a, xs, rfl, .inl ha, _, _, rfl, rfl, pos, a, xs, _, _, rfl, rfl, ha, (by show atI xs (c / 28 % ((xs.length : Nat) : Int)) = _; rw [ej]; exact atI_nat hvj), ?_⟩
    have zr : (st r).length ≤ sizeLine := by rw [st_len]; exact smallZ (by omega)
    refine ⟨_, rfl, _, _, rfl, rfl, (by show (0 : Int) < 4; decide), rfl, _, rfl, e0 (fun _ => ?_) (fun _ => ?_)⟩
    · exact ⟨_, rfl, qw (x := r) (by omega) gt s2⟩
    refine ⟨_, rfl, _, _, rfl, rfl, (by show (0 : Int) < 4; decide), rfl, _, rfl, e0 (fun _ => ?_) (fun _ => ?_)⟩
    · refine ⟨_, rfl, _, rfl, _, _, rfl, rfl, ?_, 40, rfl, _, rfl, ?_, ?_⟩
      · rw [st_len, st_len]; exact smallZ (by omega)
      · rw [st_add, st_len, List.length_append]; exact smallZ (by omega)
      rw [st_add, show cutS (st (r ++ w)) none (some 40) = _ from cut_to _ 40]
      exact qw (by rw [List.length_take]; omega) (fun x hx => (List.mem_append.mp (List.mem_of_mem_take hx)).elim (gt x) (wt x)) s2
    · refine ⟨_, rfl, _, rfl, _, _, rfl, rfl, .inr ⟨by decide, by decide⟩, _, _, rfl, rfl, (by show (0 : Int) < 2147483647; decide), _, rfl, _, rfl, zr, _, _, rfl, rfl, _, _, rfl, rfl, ?_, _, rfl, _, rfl, zr, ?_⟩
      · show (0 : Int) < ((st r).length : Int) + 1
        omega
      have hp : 0 ≤ c * 48271 % 2147483647 % (((st r).length : Int) + 1) := Int.emod_nonneg _ (by omega)
      rw [show c * 48271 % 2147483647 % (((st r).length : Int) + 1) = (((c * 48271 % 2147483647 % (((st r).length : Int) + 1)).toNat : Nat) : Int) from (Int.toNat_of_nonneg hp).symm, cut_to]
      exact qw (by rw [List.length_take]; omega) (fun x hx => gt x (List.mem_of_mem_take hx)) s2
theorem ok_Lother_by (F : Fun K "_law_other_by" "_law_other_by" sLother_by f fd)
    (G_Ltext_by : Has P w K mg base "_law_text_by" pLtext_by 3 (spTextBy K)) :
    FnOk P w K mg base CX0 4 f fd pLother_by (spTextBy K) := by
  refine F.ok cLother_by (fun vs H Q E h => ?_) (fun cdv A outer s H vs Q E hr h => ?_)
  · obtain ⟨c, v, R, rfl, _⟩ := h
    rfl
  obtain ⟨c, v, R, rfl, hv, hg, q⟩ := h
  refine ⟨_, (pss_cons (ps_if (pt_cmpR op_eq (pe_op op_mod (pe_op op_fdiv (pv 0) pe_int) pe_int) pe_int (nomark _)) (pss_one (ps_ret (pe_has G_Ltext_by hr (by omega) (pa_cons (pe_op op_fdiv (pv 0) pe_int) (pa_cons (pv 1) pa_nil))))) pss_nil)
    (pss_one (ps_ret (pe_has G_Ltext_by hr (by omega) (pa_cons (pe_op op_mod (pe_op op_mul (pv 0) pe_int) pe_int) (pa_cons (pv 1) pa_nil)))))), ?_⟩
  have e0 : ∀ {A B : Prop} {b : Bool}, (b = true → A) → (b = false → B) → if b = true then A else B := fun {A B b} h1 h2 => by cases b with | true => exact iteT (h1 rfl) | false => exact iteF (h2 rfl)
  refine ⟨_, rfl, _, _, rfl, rfl, ⟨by decide, by decide⟩, _, _, rfl, rfl, (by show (0 : Int) < 9; decide), rfl, _, rfl, e0 (fun _ => ?_) (fun _ => ?_)⟩
  · exact ⟨_, rfl, _, _, rfl, rfl, ⟨by decide, by decide⟩, _, rfl, _, v, R, rfl, hv, hg, q⟩
  · exact ⟨_, rfl, _, _, rfl, rfl, .inr ⟨by decide, by decide⟩, _, _, rfl, rfl, (by show (0 : Int) < 2147483629; decide), _, rfl, _, v, R, rfl, hv, hg, q⟩
theorem ok_Ldeed {CTrail fT_init fT_keep fT_drop fT_prune fT_move fT_graft fT_back fT_told CNoName CNotThere CTaken CTooLong CTooMany CNothingDone CT : Addr} {fdT_keep fdT_drop fdT_prune fdT_move fdT_graft fdT_back fdT_told : FuncData} (F : Fun K "_law_deed" "_law_deed" sLdeed f fd) (TNoName : ErrTxt K mg "NoName" CNoName CT)
    (eNoName : PySem.W.exmOne K (.ref CNoName) (.ref CT) = some true) (eNotThere : PySem.W.exmOne K (.ref CNotThere) (.ref CT) = some true) (eTaken : PySem.W.exmOne K (.ref CTaken) (.ref CT) = some true) (eTooLong : PySem.W.exmOne K (.ref CTooLong) (.ref CT) = some true) (eTooMany : PySem.W.exmOne K (.ref CTooMany) (.ref CT) = some true) (eNothingDone : PySem.W.exmOne K (.ref CNothingDone) (.ref CT) = some true)
    (TTr : TrTxt K mg CTrail fT_init) (G_T_keep : FnOk P w K mg base (L2.CX P w) 100 fT_keep fdT_keep pT_keep (spKeep K CTrail CNoName CTooMany)) (b_T_keep : Binds K fdT_keep pT_keep []) (M_T_keep : Meth K CTrail "keep" fT_keep)
    (G_T_drop : FnOk P w K mg base (L2.CX P w) 100 fT_drop fdT_drop pT_drop (spDrop K CTrail CNoName CNotThere)) (b_T_drop : Binds K fdT_drop pT_drop []) (M_T_drop : Meth K CTrail "drop" fT_drop)
    (G_T_prune : FnOk P w K mg base (L2.CX P w) 100 fT_prune fdT_prune pT_prune (spPrune K CTrail CNoName CNotThere)) (b_T_prune : Binds K fdT_prune pT_prune []) (M_T_prune : Meth K CTrail "prune" fT_prune)
    (G_T_move : FnOk P w K mg base (L2.CX P w) 120 fT_move fdT_move pT_move (spMove K CTrail CNoName CNotThere CTooLong CTaken stayR none)) (b_T_move : Binds K fdT_move pT_move []) (M_T_move : Meth K CTrail "move" fT_move)
    (G_T_graft : FnOk P w K mg base (L2.CX P w) 120 fT_graft fdT_graft pT_graft (spMove K CTrail CNoName CNotThere CTooLong CTaken (fun _ R => R) (some CTooMany))) (b_T_graft : Binds K fdT_graft pT_graft []) (M_T_graft : Meth K CTrail "graft" fT_graft)
    (G_T_back : FnOk P w K mg base (L2.CX P w) 5 fT_back fdT_back pT_back (spBack K CTrail CNothingDone)) (b_T_back : Binds K fdT_back pT_back []) (M_T_back : Meth K CTrail "back" fT_back)
    (G_T_told : FnOk P w K mg base (L2.CX P w) 95 fT_told fdT_told pT_told (spTold K CTrail CNoName)) (b_T_told : Binds K fdT_told pT_told []) (M_T_told : Meth K CTrail "told" fT_told)
    (G_Ltext_by : Has P w K mg base "_law_text_by" pLtext_by 3 (spTextBy K)) (G_Lother_by : Has P w K mg base "_law_other_by" pLother_by 4 (spTextBy K)) (G_Lnumber_by : Has P w K mg base "_law_number_by" pLnumber_by 1 spNum) : FnOk P w K mg base CX0 125 f fd pLdeed (spDeed K CTrail) := by
  refine F.ok cLdeed (fun vs H Q E h => ?_) (fun cdv A outer s H vs Q E hr h => ?_)
  · obtain ⟨x, dx, l, o, ps, c, rfl, _⟩ := h
    rfl
  obtain ⟨x, dx, l, o, ps, c, rfl, tr, gt, pl, qf, qt, q9⟩ := h
  refine ⟨_, pss_cons (ps_set (i := 2) cLdeed.nd rfl (Or.inl rfl) (pe_ix (r := rIxL K) ix_list (pe_lst (pa_cons pe_int (pa_cons pe_int (pa_cons pe_int (pa_cons pe_int (pa_cons pe_int (pa_cons pe_int (pa_cons pe_int (pa_cons pe_int (pa_cons pe_int (pa_cons pe_int pa_nil))))))))))) (pe_op op_mod (pv 1) pe_int) (fun _ _ => rfl)))
    (pss_cons (ps_setLc (i := 4) (own := [("_law_pair", 3)]) (g := gName 3) (by rfl) cLdeed.nd rfl rfl (sw_true rfl rfl rfl (by decide +kernel)) (pi_list (pe_meth (E := E0) (pv 0) TTr.cl M_T_told G_T_told (hr.mono (by omega)) b_T_told .nil passL (pa_cons pe_str pa_nil))) (blkOk_by (own := [("_law_pair", 3)]) (N := ["_law_trail", "_law_cell", "_law_way", "_law_pair", "_law_held", "_law_one", "_law_other", "_law_number"]) (sc := defScope sLdeed) (by decide +kernel)) (fun _ _ _ _ _ => pg_name (i := 3) cLdeed.nd rfl (Or.inl rfl)) (fun _ _ _ _ _ => pts_nil) (fun _ _ _ _ _ => (pe_ix (r := rIxT K) ix_tup (pv 3) pe_int (fun _ _ => rfl))))
    (pss_cons (ps_set (i := 5) cLdeed.nd rfl (Or.inl rfl) (pe_has G_Ltext_by hr (by omega) (pa_cons (pe_op op_fdiv (pv 1) pe_int) (pa_cons (pv 4) pa_nil))))
    (pss_cons (ps_set (i := 6) cLdeed.nd rfl (Or.inl rfl) (pe_has G_Lother_by hr (by omega) (pa_cons (pv 1) (pa_cons (pv 4) pa_nil))))
    (pss_cons (ps_set (i := 7) cLdeed.nd rfl (Or.inl rfl) (pe_has G_Lnumber_by hr (by omega) (pa_cons (pe_op op_fdiv (pv 1) pe_int) pa_nil)))
    (C8.pss_cut (ps_for PassesOwn.never rfl (pi_list (pe_meth (E := E0) (pv 0) TTr.cl M_T_told G_T_told (hr.mono (by omega)) b_T_told .nil passL (pa_cons pe_str pa_nil))) (pg_name (i := 3) cLdeed.nd rfl (Or.inl rfl)) (pss_one (ps_if (PW.pt (pw_and (pt_cmpR op_eq (pe_ix (r := rIxT K) ix_tup (pv 3) pe_int (fun _ _ => rfl)) (pv 5) (nomark _)) (pw_and1 (pt_cmpR op_eq (pe_op op_mod (pe_op op_fdiv (pv 1) pe_int) pe_int) pe_int (nomark _))))) (pss_one (ps_set (i := 7) cLdeed.nd rfl (Or.inl rfl) (pe_ix (r := rIxT K) ix_tup (pv 3) pe_int (fun _ _ => rfl)))) pss_nil)))
    (pss_cons (ps_try_only (c := .ref CT) (ts := fun a cls d => tRet (tC (.bl false))) (Wout := fun _ _ _ _ => False) rfl rfl ⟨rfl, by decide, .inl TNoName.gT⟩ takes0
        (fun W pn xe tk _ => pss_cons (ps_if (pt_cmpR op_eq (pv 2) pe_int (nomark _)) (pss_one (ps_expr (pe_methE (E := WE W) (pv 0) TTr.cl M_T_keep G_T_keep (hr.mono (by omega)) b_T_keep (fun σ => passAt tk σ) (pa_cons (pv 5) (pa_cons (pv 7) pa_nil))))) pss_nil)
          (pss_cons (ps_if (pt_cmpR op_eq (pv 2) pe_int (nomark _)) (pss_one (ps_expr (pe_methE (E := WE W) (pv 0) TTr.cl M_T_drop G_T_drop (hr.mono (by omega)) b_T_drop (fun σ => passAt tk σ) (pa_cons (pv 5) pa_nil)))) pss_nil)
          (pss_cons (ps_if (pt_cmpR op_eq (pv 2) pe_int (nomark _)) (pss_one (ps_expr (pe_methE (E := WE W) (pv 0) TTr.cl M_T_prune G_T_prune (hr.mono (by omega)) b_T_prune (fun σ => passAt tk σ) (pa_cons (pv 5) pa_nil)))) pss_nil)
          (pss_cons (ps_if (pt_cmpR op_eq (pv 2) pe_int (nomark _)) (pss_one (ps_expr (pe_methE (E := WE W) (pv 0) TTr.cl M_T_move G_T_move (hr.mono (by omega)) b_T_move (fun σ => passAt tk σ) (pa_cons (pv 5) (pa_cons (pv 6) pa_nil))))) pss_nil)
          (pss_cons (ps_if (pt_cmpR op_eq (pv 2) pe_int (nomark _)) (pss_one (ps_expr (pe_methE (E := WE W) (pv 0) TTr.cl M_T_graft G_T_graft (hr.mono (by omega)) b_T_graft (fun σ => passAt tk σ) (pa_cons (pv 5) (pa_cons (pv 6) pa_nil))))) pss_nil)
          (pss_one (ps_if (pt_cmpR op_eq (pv 2) pe_int (nomark _)) (pss_one (ps_expr (pe_methE0 (E := WE W) (pv 0) TTr.cl M_T_back G_T_back (hr.mono (by omega)) b_T_back (fun σ => passAt tk σ)))) pss_nil)))))))
        (fun a oe cls d pn hz hfl => pss_one (ps_ret pe_bl)))
    (pss_one (ps_ret pe_bl)))))))), ?_⟩
  -- the way
  refine ⟨(by show 10 ≤ sizeLine; decide), fun m nm => ?_⟩
  have sm := same_new nm (.lst [V.int 0, .int 0, .int 0, .int 1, .int 2, .int 3, .int 3, .int 4, .int 4, .int 5])
  obtain ⟨y, hy, hy9, hat⟩ : ∃ y : Int, (0 ≤ y ∧ y ≤ 5) ∧ (y = 5 ↔ c % 10 = 9) ∧ atI [V.int 0, .int 0, .int 0, .int 1, .int 2, .int 3, .int 3, .int 4, .int 4, .int 5] (c % 10) = some (.int y) := by
    have e : c % 10 = 0 ∨ c % 10 = 1 ∨ c % 10 = 2 ∨ c % 10 = 3 ∨ c % 10 = 4 ∨ c % 10 = 5 ∨ c % 10 = 6 ∨ c % 10 = 7 ∨ c % 10 = 8 ∨ c % 10 = 9 := by omega
    rcases e with e | e | e | e | e | e | e | e | e | e <;> (rw [e]; refine ⟨_, ?_, ?_, rfl⟩ <;> decide)
  refine ⟨_, rfl, _, _, rfl, rfl, (by show (0 : Int) < 10; decide), m, _, _, _, rfl, rfl, SqL.of upd_same, hat, ?_⟩
  have tr1 := tr.same sm
  obtain ⟨v1, acc1, h1, _⟩ := id tr1
  -- the names
  refine ⟨_, rfl, x, dx, _, rfl, h1, rfl, x, dx, l, o, ps, rO o, _, some [], rfl, tr1, gt.tr, gt.2.1, thg_nil, (fun e => by cases e), fun b eb L acc H2 nL s2 eL dL => ?_⟩
  cases eb
  rw [below_nil] at dL
  have g := gt.2.1
  have al : acc.length = (rO o).length := by rw [DpAll_len dL, List.length_map]
  have rl := g.2.1
  refine ⟨L, rfl, ⟨_, SqL.of eL⟩, fun D nD => lc_list (K := K) (xs := acc) (LcP K H2 D (fm (rO o) (fun _ => true) (fun r => textD r.1))) (lcp0 nD rfl) (fun _ _ _ h => h.1.seq (SqL.of eL)) (fun j y' H3 hy' h3 => ?_) (fun H3 h3 => ?_)⟩
  · obtain ⟨r, hr, hxr⟩ := DpAll_map dL hy'
    obtain ⟨t, z1, z2, rfl, ht1, ht2, ht3⟩ := Dp_two (Dp_same h3.1 hxr)
    cases Dp_str ht2
    refine ⟨rfl, yes_if ⟨_, rfl, t, _, _, _, rfl, rfl, ht1, (rfl : atI [V.str (st r.1), z2] 0 = some (V.str (st r.1))), ?_⟩⟩
    exact lcp_add h3 nD (Same.refl _) (.str _) (fm_yes hr rfl) (fm_nolist fun _ => rfl) rfl (Nat.le_trans fm_len (by omega))
  rw [al] at h3
  obtain ⟨s3, accD, eD, dD⟩ := h3
  rw [fm_all, List.filter_eq_self.mpr fun _ _ => rfl] at dD
  have s13 := (sm.trans s2).trans s3
  rw [show ((rO o).map fun r => textD r.1) = ((rO o).map (·.1)).map textD from by rw [List.map_map]; rfl] at dD
  have hD : Dp K H3 (.ref D) (.list (((rO o).map (·.1)).map textD)) := .lst (SqL.of eD) dD
  have nmx : ∀ x ∈ (rO o).map (·.1), isNm x = true := fun x hx => by
    obtain ⟨r, hr, rfl⟩ := List.mem_map.mp hx
    exact nm_iff.mpr ⟨(g.2.2 r hr).1, (g.2.2 r hr).2.1⟩
  -- the texts, the number
  refine ⟨_, rfl, _, _, rfl, rfl, ⟨by decide, by decide⟩, _, rfl, _, _, _, rfl, hD, nmx, fun wv H4 s4 tx => ?_⟩
  have sc := tx.scal
  obtain ⟨t, th⟩ := tx.thg (K := K) (H := H4)
  refine ⟨_, rfl, _, rfl, _, _, _, rfl, Dp_same s4 hD, nmx, fun wu H5 s5 tx2 => ?_⟩
  obtain ⟨t2, th2⟩ := tx2.thg (K := K) (H := H5)
  refine ⟨_, rfl, _, _, rfl, rfl, ⟨by decide, by decide⟩, _, rfl, fun H6 s6 => ?_⟩
  have s16 := ((s13.trans s4).trans s5).trans s6
  have th6 := th.same (s5.trans s6)
  have th26 := th2.same s6
  have tr6 := tr.same s16
  have nb := numOf_lt (c / 30)
  refine ⟨fun σ' H' => ∃ (n : Int) (y3 : Option V), n.natAbs < 10 ^ 60 ∧ σ' = [some (.ref x), some (.int c), some (.int y), y3, some (.ref D), some wv, some wu, some (.int n)] ∧ Same H6 H', ?_, ?_⟩
  · obtain ⟨v6, acc6, h6, _⟩ := id tr6
    refine ⟨_, rfl, x, dx, _, rfl, h6, rfl, x, dx, l, o, ps, rO o, _, some [], rfl, tr6, gt.tr, gt.2.1, thg_nil, (fun e => by cases e), fun b eb L2 acc2 H7 nL7 s7 eL7 dL7 => ?_⟩
    cases eb
    rw [below_nil] at dL7
    refine ⟨L2, rfl, ⟨_, SqL.of eL7⟩, for_list (xs := acc2) (fun i σ H' => H' = H7 ∧ ∃ (n : Int) (y3 : Option V), n.natAbs < 10 ^ 60 ∧ σ = [some (.ref x), some (.int c), some (.int y), y3, some (.ref D), some wv, some wu, some (.int n)]) ⟨rfl, _, none, nb, rfl⟩ (fun i σ H' hi h1 => by rw [h1.1]; exact SqL.of eL7) (fun i z σ H' hz h1 => ?_) (fun σ H' h1 => ?_)⟩
    · obtain ⟨rfl, n, y3, hn, rfl⟩ := h1
      obtain ⟨r, hr, hxr⟩ := DpAll_map dL7 hz
      obtain ⟨tt, z1, z2, rfl, ht1, ht2, ht3⟩ := Dp_two hxr
      cases Dp_str ht2
      cases Dp_int ht3
      refine ⟨_, rfl, tt, _, _, _, rfl, rfl, ht1, (rfl : atI [V.str (st r.1), V.int r.2] 0 = some (V.str (st r.1))), _, rfl, sc _, _, rfl, ?_⟩
      have e0 : ∀ {A B : Prop} {b : Bool}, (b = true → A) → (b = false → B) → if b = true then A else B := fun {A B b} h1 h2 => by cases b with | true => exact iteT (h1 rfl) | false => exact iteF (h2 rfl)
      refine e0 (fun _ => ⟨_, rfl, _, _, rfl, rfl, ⟨by decide, by decide⟩, _, _, rfl, rfl, (by show (0 : Int) < 2; decide), rfl, _, rfl, e0 (fun _ => ?_) (fun _ => ?_)⟩) (fun _ => iteF ⟨rfl, n, _, hn, rfl⟩)
      · exact ⟨_, rfl, tt, _, _, _, rfl, rfl, ht1, (rfl : atI [V.str (st r.1), V.int r.2] 1 = some (V.int r.2)), rfl, r.2, _, (g.2.2 r (List.mem_of_getElem? hr)).2.2, rfl⟩
      · exact ⟨rfl, n, _, hn, rfl⟩
    · obtain ⟨rfl, n, y3, hn, rfl⟩ := h1
      exact ⟨n, y3, hn, rfl, s7⟩
  rintro σ' H7 ⟨n, y3, hn, rfl, s7⟩
  have s17 := s16.trans s7
  have tr7 := tr6.same s7
  have th7 := th6.same s7
  have th27 := th26.same s7
  obtain ⟨v7, acc7, h7, _⟩ := id tr7
  have qt9 : y ≠ 5 → ∀ (o' : Option Tr) (H' : Hp), GT o' → Fr x l H H' → TrAt K CTrail H' x dx l o' (ps ++ [o]) → Q (.bl true) H' := fun ne => qt fun e => ne (hy9.mpr e)
  rcases (show y = 0 ∨ y = 1 ∨ y = 2 ∨ y = 3 ∨ y = 4 ∨ y = 5 by omega) with rfl | rfl | rfl | rfl | rfl | rfl
  · exact ⟨_, rfl, rfl, _, rfl, ify rfl ⟨_, rfl, x, dx, _, rfl, h7, rfl, _, rfl, _, rfl, x, dx, l, o, ps, wv, n, t, rfl, tr7, gt, pl, hn, th7, (fun e H8 s8 => ⟨true, eNoName, fun _ a0 na => qf _ (s17.trans s8), fun z => Bool.noConfusion z⟩), fun b eb => ⟨fun S hS big H8 s8 => ⟨true, eTooMany, fun _ a0 na => qf _ (s17.trans s8), fun z => Bool.noConfusion z⟩, fun o' H8 gt' _ f8 tr8 => ⟨_, rfl, rfl, _, rfl, ifn (by simp) ⟨_, rfl, rfl, _, rfl, ifn (by simp) ⟨_, rfl, rfl, _, rfl, ifn (by simp) ⟨_, rfl, rfl, _, rfl, ifn (by simp) ⟨_, rfl, rfl, _, rfl, ifn (by simp) (qt9 (by decide) o' H8 gt' ((Fr.of s17).trans f8) tr8)⟩⟩⟩⟩⟩⟩⟩⟩
  · exact ⟨_, rfl, rfl, _, rfl, ifn (by simp) ⟨_, rfl, rfl, _, rfl, ify rfl ⟨_, rfl, x, dx, _, rfl, h7, rfl, _, rfl, x, dx, l, o, ps, wv, t, rfl, tr7, gt, pl, th7, (fun e H8 s8 => ⟨true, eNoName, fun _ a0 na => qf _ (s17.trans s8), fun z => Bool.noConfusion z⟩), fun b eb => ⟨fun e H8 s8 => ⟨true, eNotThere, fun _ a0 na => qf _ (s17.trans s8), fun z => Bool.noConfusion z⟩, fun k ek o' H8 gt' _ f8 tr8 => ⟨_, rfl, rfl, _, rfl, ifn (by simp) ⟨_, rfl, rfl, _, rfl, ifn (by simp) ⟨_, rfl, rfl, _, rfl, ifn (by simp) ⟨_, rfl, rfl, _, rfl, ifn (by simp) (qt9 (by decide) o' H8 gt' ((Fr.of s17).trans f8) tr8)⟩⟩⟩⟩⟩⟩⟩⟩
  · exact ⟨_, rfl, rfl, _, rfl, ifn (by simp) ⟨_, rfl, rfl, _, rfl, ifn (by simp) ⟨_, rfl, rfl, _, rfl, ify rfl ⟨_, rfl, x, dx, _, rfl, h7, rfl, _, rfl, x, dx, l, o, ps, wv, t, rfl, tr7, gt, pl, th7, (fun e H8 s8 => ⟨true, eNoName, fun _ a0 na => qf _ (s17.trans s8), fun z => Bool.noConfusion z⟩), fun b eb => ⟨fun e H8 s8 => ⟨true, eNotThere, fun _ a0 na => qf _ (s17.trans s8), fun z => Bool.noConfusion z⟩, fun ne o' H8 gt' _ f8 tr8 => ⟨_, rfl, rfl, _, rfl, ifn (by simp) ⟨_, rfl, rfl, _, rfl, ifn (by simp) ⟨_, rfl, rfl, _, rfl, ifn (by simp) (qt9 (by decide) o' H8 gt' ((Fr.of s17).trans f8) tr8)⟩⟩⟩⟩⟩⟩⟩⟩
  · exact ⟨_, rfl, rfl, _, rfl, ifn (by simp) ⟨_, rfl, rfl, _, rfl, ifn (by simp) ⟨_, rfl, rfl, _, rfl, ifn (by simp) ⟨_, rfl, rfl, _, rfl, ify rfl ⟨_, rfl, x, dx, _, rfl, h7, rfl, _, rfl, _, rfl, x, dx, l, o, ps, wv, wu, t, t2, rfl, tr7, gt, pl, th7, th27, (fun e H8 s8 => ⟨true, eNoName, fun _ a0 na => qf _ (s17.trans s8), fun z => Bool.noConfusion z⟩), fun b c' eb ec => ⟨fun e H8 s8 => ⟨true, eNotThere, fun _ a0 na => qf _ (s17.trans s8), fun z => Bool.noConfusion z⟩, fun ne lg H8 s8 => ⟨true, eTooLong, fun _ a0 na => qf _ (s17.trans s8), fun z => Bool.noConfusion z⟩, fun ne sh tk H8 s8 => ⟨true, eTaken, fun _ a0 na => qf _ (s17.trans s8), fun z => Bool.noConfusion z⟩, fun CM eCM ne lg ns big H8 s8 => (by cases eCM), fun ne lg ns ln o' H8 gt' _ f8 tr8 => ⟨_, rfl, rfl, _, rfl, ifn (by simp) ⟨_, rfl, rfl, _, rfl, ifn (by simp) (qt9 (by decide) o' H8 gt' ((Fr.of s17).trans f8) tr8)⟩⟩⟩⟩⟩⟩⟩⟩
  · exact ⟨_, rfl, rfl, _, rfl, ifn (by simp) ⟨_, rfl, rfl, _, rfl, ifn (by simp) ⟨_, rfl, rfl, _, rfl, ifn (by simp) ⟨_, rfl, rfl, _, rfl, ifn (by simp) ⟨_, rfl, rfl, _, rfl, ify rfl ⟨_, rfl, x, dx, _, rfl, h7, rfl, _, rfl, _, rfl, x, dx, l, o, ps, wv, wu, t, t2, rfl, tr7, gt, pl, th7, th27, (fun e H8 s8 => ⟨true, eNoName, fun _ a0 na => qf _ (s17.trans s8), fun z => Bool.noConfusion z⟩), fun b c' eb ec => ⟨fun e H8 s8 => ⟨true, eNotThere, fun _ a0 na => qf _ (s17.trans s8), fun z => Bool.noConfusion z⟩, fun ne lg H8 s8 => ⟨true, eTooLong, fun _ a0 na => qf _ (s17.trans s8), fun z => Bool.noConfusion z⟩, fun ne sh tk H8 s8 => ⟨true, eTaken, fun _ a0 na => qf _ (s17.trans s8), fun z => Bool.noConfusion z⟩, fun CM eCM ne lg ns big H8 s8 => (by cases eCM; exact ⟨true, eTooMany, fun _ a0 na => qf _ (s17.trans s8), fun z => Bool.noConfusion z⟩), fun ne lg ns ln o' H8 gt' _ f8 tr8 => ⟨_, rfl, rfl, _, rfl, ifn (by simp) (qt9 (by decide) o' H8 gt' ((Fr.of s17).trans f8) tr8)⟩⟩⟩⟩⟩⟩⟩⟩
  · exact ⟨_, rfl, rfl, _, rfl, ifn (by simp) ⟨_, rfl, rfl, _, rfl, ifn (by simp) ⟨_, rfl, rfl, _, rfl, ifn (by simp) ⟨_, rfl, rfl, _, rfl, ifn (by simp) ⟨_, rfl, rfl, _, rfl, ifn (by simp) ⟨_, rfl, rfl, _, rfl, ify rfl ⟨_, rfl, x, dx, _, rfl, h7, rfl, x, dx, l, o, ps, rfl, tr7, (fun e H8 s8 => ⟨true, eNothingDone, fun _ a0 na => qf _ (s17.trans s8), fun z => Bool.noConfusion z⟩), fun qs p e H8 f8 tr8 => q9 (hy9.mp rfl) qs p e H8 ((Fr.of s17).trans f8) tr8⟩⟩⟩⟩⟩⟩⟩
theorem ok_Lstart_by (F : Fun K "_law_start_by" "_law_start_by" sLstart_by f fd)
    (G_Ltext_by : Has P w K mg base "_law_text_by" pLtext_by 3 (spTextBy K)) (m_isinstance : mg "isinstance" = none) (m_str : mg "str" = none) (m_len : mg "len" = none) :
    FnOk P w K mg base CX0 5 f fd pLstart_by (spStartBy K) := by
  refine F.ok cLstart_by (fun vs H Q E h => ?_) (fun cdv A outer s H vs Q E hr h => ?_)
  · obtain ⟨c, v, R, rfl, _⟩ := h
    rfl
  obtain ⟨c, v, R, rfl, hv, hg, q⟩ := h
  refine ⟨_, (pss_cons (ps_set (i := 2) cLstart_by.nd rfl (Or.inl rfl) (pe_has G_Ltext_by hr (by omega) (pa_cons (pv 0) (pa_cons (pv 1) pa_nil))))
    (pss_cons (ps_if (PW.pt (pw_or (pt_not (pt_val (pe_callB call_isi (by rfl) m_isinstance (by decide +kernel) (pa_cons (pv 2) (pa_cons (pe_bltn rfl m_str (by decide +kernel) (v := .ty "str") rfl) pa_nil))))) (pw_or (pt_cmpR op_gt (pe_callB call_len_str (by rfl) m_len (by decide +kernel) (pa_cons (pv 2) pa_nil)) pe_int (nomark _)) (pw_or (pt_cmpR op_in_sign pe_str (pv 2) (by rfl)) (pw_or1 (pt_cmpR op_in_sign pe_str (pv 2) (by rfl))))))) (pss_one (ps_ret pe_str)) pss_nil)
    (pss_one (ps_ret (pv 2))))), ?_⟩
  refine ⟨_, rfl, _, rfl, c, v, R, rfl, hv, hg, fun w' H1 s1 tx => ?_⟩
  have q0 : Q (.str (Str.ofString "")) H1 := q [] H1 s1 (by decide +kernel)
  rcases tx with ⟨x, rfl, hx, hc⟩ | rfl | rfl
  · have hd : Dp K H1 (.str (st x)) (.str (st x)) := .str _
    have e0 : ∀ {A B : Prop} {b : Bool}, (b = true → A) → (b = false → B) → if b = true then A else B := fun {A B b} h1 h2 => by cases b with | true => exact iteT (h1 rfl) | false => exact iteF (h2 rfl)
    refine ⟨_, rfl, _, _, _, _, true, rfl, .ty _, tyx_of hd, kit_ty (by simp only [tyN]; decide +kernel), ⟨true, rfl, iteF ?_⟩⟩
    refine ⟨_, rfl, _, rfl, (by rw [st_len]; exact smallZ (by omega)), _, _, rfl, rfl, _, rfl, e0 (fun _ => iteT q0) (fun z => ?_)⟩
    have z' : ¬ (((st x).length : Nat) : Int) > 40 := of_decide_eq_false z
    rw [st_len] at z'
    refine ⟨_, rfl, 10, st x, rfl, rfl, _, rfl, e0 (fun _ => iteT q0) (fun z1 => ?_)⟩
    refine ⟨_, rfl, 9, st x, rfl, rfl, _, rfl, e0 (fun _ => q0) (fun z2 => ?_)⟩
    refine ⟨_, rfl, q x H1 s1 (nm_iff.mpr ⟨by omega, ?_⟩)⟩
    rcases hc with hc | rfl | rfl
    · exact hc
    · exact absurd (by simp) (of_decide_eq_false z1)
    · exact absurd (by simp) (of_decide_eq_false z2)
  · have hd : Dp K H1 .non .none := .non
    exact ⟨_, rfl, _, _, _, _, false, rfl, .ty _, tyx_of hd, kit_ty (by simp only [tyN]; decide +kernel), ⟨false, rfl, iteT q0⟩⟩
  · have hd : Dp K H1 (.int 7) (.int 7) := .int _
    exact ⟨_, rfl, _, _, _, _, false, rfl, .ty _, tyx_of hd, kit_ty (by simp only [tyN]; decide +kernel), ⟨false, rfl, iteT q0⟩⟩
theorem ok_Lis_end (F : Fun K "_law_is_end" "_law_is_end" sLis_end f fd) :
    FnOk P w K mg base CX0 1 f fd pLis_end (spIsEnd K) := by
  refine F.ok cLis_end (fun vs H Q E h => ?_) (fun cdv A outer s H vs Q E hr h => ?_)
  · obtain ⟨v, b, rfl, _⟩ := h
    rfl
  obtain ⟨v, b, rfl, hv, hb, q⟩ := h
  refine ⟨_, (pss_one (ps_ret (pe_or (pe_cmpR op_ne (pe_ix (r := rIxT K) ix_tup (pv 0) pe_int (fun _ _ => rfl)) pe_str (nomark _)) (pe_one (pe_cmpR (op_eqD hr.units) (pe_slice sl_tup (pe_ix (r := rIxT K) ix_tup (pv 0) pe_int (fun _ _ => rfl)) po_none (po_some pe_int)) (pe_tup (pa_cons pe_str (pa_cons pe_str pa_nil))) (nomark _)))))), ?_⟩
  have e0 : ∀ {A B : Prop} {b : Bool}, (b = true → A) → (b = false → B) → if b = true then A else B := fun {A B b} h1 h2 => by cases b with | true => exact iteT (h1 rfl) | false => exact iteF (h2 rfl)
  obtain ⟨p, z1, z2, rfl, hp, h1, h2⟩ := Dp_two hv
  cases Dp_str h1
  refine ⟨_, rfl, p, _, _, _, rfl, rfl, hp, (rfl : atI [V.str (st b.1), z2] 0 = some (V.str (st b.1))), rfl, ?_⟩
  by_cases e : b.1 = []
  · obtain ⟨n, en⟩ := hb e
    rw [en] at h2
    obtain ⟨t, kd, z, rfl, ht, hc⟩ := Dp_tree h2
    rcases hc with ⟨m, _, rfl, rfl⟩ | ⟨bs, e2, _⟩
    · rw [e]
      refine ⟨_, rfl, iteF ?_⟩
      refine ⟨_, rfl, p, _, _, _, rfl, rfl, hp, (rfl : atI [V.str (st b.1), V.ref t] 1 = some (V.ref t)), 2, rfl, t, _, rfl, ht, (by show ¬ (HT.sIx 3 0 none = 0 ∧ HT.sIx 3 3 (some 2) = 3); decide), fun c nc => ⟨(by show 2 ≤ sizeLine; decide), fun d nd => ?_⟩⟩
      have sc := same_new nc (.tup (cutV [V.str (Str.ofString "leaf"), V.str (st (Tr.leaf [] n).text), V.int m] none (some 2)))
      have hc : Dp K (upd H c (.tup (cutV [V.str (Str.ofString "leaf"), V.str (st (Tr.leaf [] n).text), V.int m] none (some 2)))) (.ref c) (headD (Str.ofString "leaf") []) := Dp_new nc (show DpAll K H [V.str (Str.ofString "leaf"), V.str (st [])] _ from .cons (.str _) (.cons (.str _) .nil))
      generalize upd H c (.tup (cutV [V.str (Str.ofString "leaf"), V.str (st (Tr.leaf [] n).text), V.int m] none (some 2))) = H1 at sc hc nd
      have sd := same_new nd (.tup [.str (Str.ofString "leaf"), .str (Str.ofString "")])
      have hd' : Dp K (upd H1 d (.tup [.str (Str.ofString "leaf"), .str (Str.ofString "")])) (.ref d) (headD (Str.ofString "leaf") []) := Dp_new nd (.cons (.str _) (.cons (.str _) .nil))
      refine ⟨_, _, Dp_same sd hc, hd', head_shaped (by decide +kernel) (fun c hc => by cases hc), head_shaped (by decide +kernel) (fun c hc => by cases hc), ?_⟩
      have ev : PyData.eqv (headD (Str.ofString "leaf") []) (headD (Str.ofString "leaf") []) = true := by decide +kernel
      rw [ev]
      exact q _ (sc.trans sd)
    · cases e2
  · have ne : (!decide (V.str (st b.1) = V.str (st []))) = true := by
      rw [Bool.not_eq_true', decide_eq_false_iff_not]
      exact fun z => e (st_iff.mp z)
    refine ⟨_, rfl, ?_⟩
    rw [show (!decide (V.str (st b.1) = V.str (Str.ofString ""))) = true from ne]
    exact iteT (q H (Same.refl H))
theorem ok_Lwalk0 : FnOk P w K mg base CX0 0 f fd pLwalk (spWalk K 0) := by
  have no : ∀ vs H Q E, ¬ spWalk K 0 vs H Q E := fun vs H Q E h => by
    obtain ⟨v, t, s, _, _, _, h5, _⟩ := h
    omega
  exact ⟨fun vs H Q E h => absurd h (no vs H Q E), fun A outer s H args us vs Q E _ _ _ _ h => absurd h (no vs H Q E)⟩
theorem ok_Lwalk1 {n : Nat} (F : Fun K "_law_walk" "_law_walk" sLwalk f fd) (G_Lwalk : Has P w K mg base "_law_walk" pLwalk (n + 2) (spWalk K n)) (G_Lwhole : Has P w K mg base "_law_whole" pLwhole 1 (spWhole K)) (G_Lis_end : Has P w K mg base "_law_is_end" pLis_end 1 (spIsEnd K))
    (m_isinstance : mg "isinstance" = none) (m_str : mg "str" = none) (m_int : mg "int" = none) (m_tuple : mg "tuple" = none) (m_len : mg "len" = none) :
    FnOk P w K mg base CX0 (n + 3) f fd pLwalk (spWalk K (n + 1)) := by
  refine F.ok cLwalk (fun vs H Q E h => ?_) (fun cdv A outer s H vs Q E hr h => ?_)
  · obtain ⟨v, t, s, rfl, _⟩ := h
    rfl
  obtain ⟨v, t, s0, rfl, hv, ft, hd, hl, q⟩ := h
  refine ⟨_, (pss_cons (ps_if (PW.pt (pw_or (pt_not (pt_val (pe_callB call_isi (by rfl) m_isinstance (by decide +kernel) (pa_cons (pv 0) (pa_cons (pe_bltn rfl m_tuple (by decide +kernel) (v := .ty "tuple") rfl) pa_nil))))) (pw_or (pt_cmpR op_ne (pe_callB call_len_seq (by rfl) m_len (by decide +kernel) (pa_cons (pv 0) pa_nil)) pe_int (nomark _)) (pw_or1 (pt_not (pt_val (pe_callB call_isi (by rfl) m_isinstance (by decide +kernel) (pa_cons (pe_ix (r := rIxT K) ix_tup (pv 0) pe_int (fun _ _ => rfl)) (pa_cons (pe_bltn rfl m_str (by decide +kernel) (v := .ty "str") rfl) pa_nil))))))))) (pss_one (ps_ret pe_non)) pss_nil)
    (pss_cons (ps_if (pt_cmpR op_eq (pe_ix (r := rIxT K) ix_tup (pv 0) pe_int (fun _ _ => rfl)) pe_str (nomark _)) (pss_cons (ps_if (pt_not (pt_val (pe_has G_Lwhole hr (by omega) (pa_cons (pe_ix (r := rIxT K) ix_tup (pv 0) pe_int (fun _ _ => rfl)) pa_nil)))) (pss_one (ps_ret pe_non)) pss_nil)
    (pss_one (ps_ret (pe_tup (pa_cons (pe_lst (pa_cons (pe_tup (pa_cons (pe_op op_add_str (pv 1) (pe_ix (r := rIxT K) ix_tup (pv 0) pe_int (fun _ _ => rfl))) (pa_cons (pe_ix (r := rIxT K) ix_tup (pv 0) pe_int (fun _ _ => rfl)) pa_nil))) pa_nil)) (pa_cons (pe_lst (pa_cons (pe_tup (pa_cons (pe_op op_add_str (pv 1) (pe_ix (r := rIxT K) ix_tup (pv 0) pe_int (fun _ _ => rfl))) (pa_cons pe_int pa_nil))) pa_nil)) pa_nil)))))) pss_nil)
    (pss_cons (ps_if (PW.pt (pw_or (pt_cmpR op_ne (pe_ix (r := rIxT K) ix_tup (pv 0) pe_int (fun _ _ => rfl)) pe_str (nomark _)) (pw_or (pt_not (pt_val (pe_callB call_isi (by rfl) m_isinstance (by decide +kernel) (pa_cons (pe_ix (r := rIxT K) ix_tup (pv 0) pe_int (fun _ _ => rfl)) (pa_cons (pe_bltn rfl m_tuple (by decide +kernel) (v := .ty "tuple") rfl) pa_nil))))) (pw_or1 (pt_cmpR op_lt (pe_callB call_len_seq (by rfl) m_len (by decide +kernel) (pa_cons (pe_ix (r := rIxT K) ix_tup (pv 0) pe_int (fun _ _ => rfl)) pa_nil)) pe_int (nomark _)))))) (pss_one (ps_ret pe_non)) pss_nil)
    (pss_cons (ps_set (i := 2) cLwalk.nd rfl (Or.inl rfl) (pe_lst pa_nil))
    (pss_cons (ps_set (i := 3) cLwalk.nd rfl (Or.inl rfl) (pe_lst (pa_cons (pe_tup (pa_cons (pe_op op_add_str (pv 1) (pe_ix (r := rIxT K) ix_tup (pv 0) pe_int (fun _ _ => rfl))) (pa_cons (pe_callB call_len_seq (by rfl) m_len (by decide +kernel) (pa_cons (pe_ix (r := rIxT K) ix_tup (pv 0) pe_int (fun _ _ => rfl)) pa_nil)) pa_nil))) pa_nil)))
    (pss_cons (ps_set (i := 4) cLwalk.nd rfl (Or.inl rfl) pe_non)
    (pss_cons (ps_for PassesOwn.never rfl (pi_tup (pe_ix (r := rIxT K) ix_tup (pv 0) pe_int (fun _ _ => rfl))) (pg_name (i := 5) cLwalk.nd rfl (Or.inl rfl)) (pss_cons (ps_if (PW.pt (pw_or (pt_not (pt_val (pe_callB call_isi (by rfl) m_isinstance (by decide +kernel) (pa_cons (pv 5) (pa_cons (pe_bltn rfl m_tuple (by decide +kernel) (v := .ty "tuple") rfl) pa_nil))))) (pw_or (pt_cmpR op_ne (pe_callB call_len_seq (by rfl) m_len (by decide +kernel) (pa_cons (pv 5) pa_nil)) pe_int (nomark _)) (pw_or1 (pt_not (pt_val (pe_callB call_isi (by rfl) m_isinstance (by decide +kernel) (pa_cons (pe_ix (r := rIxT K) ix_tup (pv 5) pe_int (fun _ _ => rfl)) (pa_cons (pe_bltn rfl m_str (by decide +kernel) (v := .ty "str") rfl) pa_nil))))))))) (pss_one (ps_ret pe_non)) pss_nil)
    (pss_cons (ps_if (PW.pt (pw_or (pt_cmpR op_gt (pe_callB call_len_str (by rfl) m_len (by decide +kernel) (pa_cons (pe_ix (r := rIxT K) ix_tup (pv 5) pe_int (fun _ _ => rfl)) pa_nil)) pe_int (nomark _)) (pw_or1 (PW.pt (pw_and (pt_cmpR op_notN (pv 4) pe_non (nomark _)) (pw_and1 (pt_cmpR op_le_str (pe_ix (r := rIxT K) ix_tup (pv 5) pe_int (fun _ _ => rfl)) (pv 4) (nomark _)))))))) (pss_one (ps_ret pe_non)) pss_nil)
    (pss_cons (ps_set (i := 4) cLwalk.nd rfl (Or.inl rfl) (pe_ix (r := rIxT K) ix_tup (pv 5) pe_int (fun _ _ => rfl)))
    (pss_cons (ps_set (i := 6) cLwalk.nd rfl (Or.inl rfl) (pe_has G_Lwalk hr (by omega) (pa_cons (pe_ix (r := rIxT K) ix_tup (pv 5) pe_int (fun _ _ => rfl)) (pa_cons (pe_op op_add_str (pe_op op_add_str (pv 1) (pe_ix (r := rIxT K) ix_tup (pv 0) pe_int (fun _ _ => rfl))) (pe_ix (r := rIxT K) ix_tup (pv 5) pe_int (fun _ _ => rfl))) pa_nil))))
    (pss_cons (ps_if (PW.pt (pw_or (pt_cmpR op_isN (pv 6) pe_non (nomark _)) (pw_or1 (pt_not (pt_val (pe_has G_Lis_end hr (by omega) (pa_cons (pv 5) pa_nil))))))) (pss_one (ps_ret pe_non)) pss_nil)
    (pss_cons (ps_set (i := 2) cLwalk.nd rfl (Or.inl rfl) (pe_op op_cat (pv 2) (pe_ix (r := rIxT K) ix_tup (pv 6) pe_int (fun _ _ => rfl))))
    (pss_one (ps_set (i := 3) cLwalk.nd rfl (Or.inl rfl) (pe_op op_cat (pv 3) (pe_ix (r := rIxT K) ix_tup (pv 6) pe_int (fun _ _ => rfl))))))))))))
    (pss_one (ps_ret (pe_tup (pa_cons (pv 2) (pa_cons (pv 3) pa_nil)))))))))))), ?_⟩
  have tl : s0.length + t.text.length ≤ 1000 := by
    obtain ⟨⟨x, m⟩, hx⟩ := rws_ne t ft.1
    have h1 := hl x m hx
    cases t with
    | leaf t n => rw [(mem_leaf.mp hx).1] at h1; exact h1
    | fork t bs =>
      obtain ⟨y, rfl, _⟩ := mem_fork.mp hx
      rw [List.length_append] at h1
      show s0.length + t.length ≤ 1000
      omega
  have hv0 := hv
  obtain ⟨p, kd, z, rfl, hs, hc⟩ := Dp_tree hv
  have i0 : atI [kd, V.str (st t.text), z] 0 = some kd := rfl
  have i1 : atI [kd, V.str (st t.text), z] 1 = some (V.str (st t.text)) := rfl
  have i2 : atI [kd, V.str (st t.text), z] 2 = some z := rfl
  have hT : ∃ d, t.toD = .tuple d := by cases t <;> exact ⟨_, rfl⟩
  obtain ⟨dT, eT⟩ := hT
  have hvT := hv0
  rw [eT] at hvT
  have dtx : Dp K H (.str (st t.text)) (.str (st t.text)) := .str _
  refine ⟨_, rfl, _, _, _, _, true, rfl, .ty _, tyx_of hvT, kit_ty (by simp only [tyN]; decide +kernel), ⟨true, rfl, iteF ?_⟩⟩
  refine ⟨_, rfl, p, _, rfl, .inr hs, rfl, _, rfl, iteF ?_⟩
  refine ⟨_, rfl, p, _, _, _, rfl, rfl, hs, i1, _, _, _, _, true, rfl, .ty _, tyx_of dtx, kit_ty (by simp only [tyN]; decide +kernel), ⟨true, rfl, iteF ?_⟩⟩
  refine ⟨_, rfl, p, _, _, kd, rfl, rfl, hs, i0, ?_⟩
  rcases hc with ⟨m, e, rfl, rfl⟩ | ⟨bs, e, rfl, hz⟩
  · refine ⟨rfl, _, rfl, iteT ?_⟩
    refine ⟨_, rfl, p, _, _, _, rfl, rfl, hs, i2, _, m, rfl, .int m, _, rfl, iteF ?_⟩
    refine ⟨_, rfl, _, rfl, p, _, _, _, rfl, rfl, hs, i1, _, _, rfl, rfl, ?_, ?_⟩
    · rw [st_len, st_len]; exact smallZ (by omega)
    rw [st_add]
    refine ⟨_, rfl, p, _, _, _, rfl, rfl, hs, i2, (by show 2 ≤ sizeLine; decide), fun c1 nc1 => ⟨(by show 1 ≤ sizeLine; decide), fun L1 nL1 => ?_⟩⟩
    obtain ⟨sA, hA, dA⟩ := lst_row (K := K) nc1 nL1
    generalize upd (upd H c1 (.tup [.str (st (s0 ++ t.text)), .int m])) L1 (.lst [.ref c1]) = H1 at sA hA dA
    refine ⟨_, rfl, _, rfl, p, _, _, _, rfl, rfl, sameT sA hs, i1, _, _, rfl, rfl, ?_, ?_⟩
    · rw [st_len, st_len]; exact smallZ (by omega)
    rw [st_add]
    refine ⟨(by show 2 ≤ sizeLine; decide), fun c2 nc2 => ⟨(by show 1 ≤ sizeLine; decide), fun L2 nL2 => ⟨(by show 2 ≤ sizeLine; decide), fun pw nw => ?_⟩⟩⟩
    obtain ⟨sB, hB, dB⟩ := lst_row (K := K) nc2 nL2
    generalize upd (upd H1 c2 (.tup [.str (st (s0 ++ t.text)), .int 0])) L2 (.lst [.ref c2]) = H2 at sB hB dB nw
    have sw := same_new nw (.tup [.ref L1, .ref L2])
    refine q pw L1 L2 _ _ _ ((sA.trans sB).trans sw) upd_same ((sB.trans sw) _ _ hA) (sw _ _ hB) ?_ ?_
    · have := DpAll_same (sB.trans sw) dA
      rw [e]; exact this
    · have := DpAll_same sw dB
      rw [e]; exact this
  · refine ⟨rfl, _, rfl, iteF ?_⟩
    have fb : Fits (.fork t.text bs) := by rw [← e]; exact ft
    have wb := wfB_iff.mp fb.1.2
    have eR : t.rws.map (pre s0) = (gat Tr.rws bs).map (pre (s0 ++ t.text)) := by
      rw [e]
      show ((rwss bs).map (pre t.text)).map (pre s0) = _
      rw [pre_pre, gat_rws]; rfl
    have eK : t.kn.map (pre s0) = [(s0 ++ t.text, (bs.length : Int))] ++ (gat Tr.kn bs).map (pre (s0 ++ t.text)) := by
      rw [e]
      show (s0 ++ t.text, (bs.length : Int)) :: ((knn bs).map (pre t.text)).map (pre s0) = _
      rw [pre_pre, gat_kn]; rfl
    have q' : ∀ (pw L1 L2 : Addr) (a1 a2 : List V) (H' : Hp), Same H H' → H' pw = some (.tup [.ref L1, .ref L2]) → H' L1 = some (.lst a1) → H' L2 = some (.lst a2) → DpAll K H' a1 (((gat Tr.rws bs).map (pre (s0 ++ t.text))).map rowD) → DpAll K H' a2 (([(s0 ++ t.text, (bs.length : Int))] ++ (gat Tr.kn bs).map (pre (s0 ++ t.text))).map rowD) → Q (.ref pw) H' := fun pw L1 L2 a1 a2 H' s' g1 g2 g3 g4 g5 => q pw L1 L2 a1 a2 H' s' g1 g2 g3 (by rw [eR]; exact g4) (by rw [eK]; exact g5)
    have gs : (gat Tr.kn bs).length ≤ 10000 := gat_small (g := 1) (fun t bs => by show ((t, (bs.length : Int)) :: (knn bs).map (pre t)).length = _; rw [List.length_cons, List.length_map, gat_kn]; omega) bnd_kn fb
    have gr : (gat Tr.rws bs).length ≤ 5000 := by
      have := fb.2.2
      rw [show (Tr.fork t.text bs).rws = (rwss bs).map (pre t.text) from rfl, List.length_map, gat_rws] at this
      exact this
    have hdt : t.deep < n + 1 := hd
    rw [e] at hdt hl
    have hzT := hz
    obtain ⟨a, xs, rfl, ha, hdx⟩ := Dp_tup hz
    rw [toDs_br] at hdx
    have hxl : xs.length = bs.length := by rw [DpAll_len hdx, List.length_map]
    have b2 : 2 ≤ bs.length := fb.1.1
    refine ⟨_, rfl, p, _, _, _, rfl, rfl, hs, i0, rfl, _, rfl, iteF ?_⟩
    refine ⟨_, rfl, p, _, _, _, rfl, rfl, hs, i2, _, _, _, _, true, rfl, .ty _, tyx_of hzT, kit_ty (by simp only [tyN]; decide +kernel), ⟨true, rfl, iteF ?_⟩⟩
    refine ⟨_, rfl, p, _, _, _, rfl, rfl, hs, i2, a, xs, rfl, .inr ha, _, _, rfl, rfl, _, rfl, ifn (by omega) ?_⟩
    refine ⟨(by show 0 ≤ sizeLine; decide), fun M0 nM0 => ?_⟩
    have sM0 := same_new nM0 (.lst [])
    have hM0 : upd H M0 (.lst []) M0 = some (.lst []) := upd_same
    generalize upd H M0 (.lst []) = H1 at sM0 hM0
    refine ⟨_, rfl, _, rfl, p, _, _, _, rfl, rfl, sameT sM0 hs, i1, _, _, rfl, rfl, ?_, ?_⟩
    · rw [st_len, st_len]; exact smallZ (by omega)
    rw [st_add]
    refine ⟨_, rfl, p, _, _, _, rfl, rfl, sameT sM0 hs, i2, a, xs, rfl, .inr (sameT sM0 ha), (by show 2 ≤ sizeLine; decide), fun c nc => ⟨(by show 1 ≤ sizeLine; decide), fun N0 nN0 => ?_⟩⟩
    obtain ⟨sN0, hN0, dN0⟩ := lst_row (K := K) nc nN0
    generalize upd (upd H1 c (.tup [.str (st (s0 ++ t.text)), .int (xs.length : Nat)])) N0 (.lst [.ref c]) = H2 at sN0 hN0 dN0
    have s02 := sM0.trans sN0
    rw [hxl] at dN0
    refine ⟨_, rfl, p, _, _, _, rfl, rfl, sameT s02 hs, i2, a, rfl, ⟨_, sameT s02 ha⟩, for_tup (xs := xs) (fun i σ H' => ∃ (M N : Addr) (y4 : V) (y5 y6 : Option V) (aM aN : List V), σ = [some (.ref p), some (.str (st s0)), some (.ref M), some (.ref N), some y4, y5, y6] ∧ Same H H' ∧ H' M = some (.lst aM) ∧ DpAll K H' aM (((gat Tr.rws (bs.take i)).map (pre (s0 ++ t.text))).map rowD) ∧
        H' N = some (.lst aN) ∧ DpAll K H' aN (([(s0 ++ t.text, (bs.length : Int))] ++ (gat Tr.kn (bs.take i)).map (pre (s0 ++ t.text))).map rowD) ∧ ((y4 = .non) ∨ ∃ j b, j < i ∧ bs[j]? = some b ∧ y4 = .str (st b.1)))
      ⟨M0, N0, .non, none, none, [], [.ref c], rfl, s02, sN0 _ _ hM0, .nil, hN0, dN0, .inl rfl⟩ (fun i σ H' hi h1 => ?_) (fun i x σ H' hx h1 => ?_) (fun σ H' h1 => ?_)⟩
    · obtain ⟨M, N, y4, y5, y6, aM, aN, rfl, s1, _⟩ := h1
      exact sameT s1 ha
    · obtain ⟨M, N, y4, y5, y6, aM, aN, rfl, s1, hM, dM, hN, dN, hy⟩ := h1
      obtain ⟨b, hb, hx0⟩ := DpAll_map hdx hx
      have hx1 := Dp_same s1 hx0
      have hxT : Dp K H' x (.tuple [.str (st b.1), b.2.toD]) := hx1
      obtain ⟨pb, z1, z2, rfl, hp, h1, h2⟩ := Dp_two hx1
      cases Dp_str h1
      have j0 : atI [V.str (st b.1), z2] 0 = some (V.str (st b.1)) := rfl
      have j1 : atI [V.str (st b.1), z2] 1 = some z2 := rfl
      have hbm : b ∈ bs := List.mem_of_getElem? hb
      obtain ⟨fs, ds, ls⟩ := fb.sub hbm
      have hs1 := sameT s1 hs
      refine ⟨_, rfl, _, _, _, _, true, rfl, .ty _, tyx_of hxT, kit_ty (by simp only [tyN]; decide +kernel), ⟨true, rfl, iteF ?_⟩⟩
      refine ⟨_, rfl, pb, _, rfl, .inr hp, rfl, _, rfl, iteF ?_⟩
      refine ⟨_, rfl, pb, _, _, _, rfl, rfl, hp, j0, _, _, _, _, true, rfl, .ty _, tyx_of h1, kit_ty (by simp only [tyN]; decide +kernel), ⟨true, rfl, iteF ?_⟩⟩
      refine ⟨_, rfl, pb, _, _, _, rfl, rfl, hp, j0, _, rfl, (by rw [st_len]; exact smallZ (by omega)), _, _, rfl, rfl, _, rfl, ifn (by rw [st_len]; omega) ?_⟩
      have zlen := (bnd_kn b.2 fs).2
      have hy' : y4 = .non ∨ ∃ y, y4 = .str (st y) ∧ y < b.1 := by
        rcases hy with h | ⟨j, b', hj, hb', e'⟩
        · exact .inl h
        · obtain ⟨g1, g2⟩ := List.getElem?_eq_some_iff.mp hb'
          obtain ⟨g3, g4⟩ := List.getElem?_eq_some_iff.mp hb
          have := (List.pairwise_iff_getElem.mp wb.2) j i g1 g3 hj
          rw [g2, g4] at this
          exact .inr ⟨b'.1, e', this⟩
      refine walk_last rfl rfl hp hy' (iteF ?_)
      refine ⟨_, rfl, pb, _, _, _, rfl, rfl, hp, j0, ?_⟩
      refine ⟨_, rfl, pb, _, _, _, rfl, rfl, hp, j1, ?_⟩
      refine ⟨_, rfl, _, rfl, p, _, _, _, rfl, rfl, hs1, i1, _, _, rfl, rfl, ?_, ?_⟩
      · rw [st_len, st_len]; exact smallZ (by omega)
      rw [st_add]
      refine ⟨_, rfl, pb, _, _, _, rfl, rfl, hp, j0, _, _, rfl, rfl, ?_, ?_⟩
      · rw [st_len, st_len, List.length_append]; exact smallZ (by omega)
      rw [st_add]
      refine ⟨z2, b.2, s0 ++ t.text ++ b.1, rfl, h2, fs, by omega, fun x m hx => ?_, fun pw W1 W2 a1 a2 H1 sN eW e1 e2 d1 d2 => ?_⟩
      · have := hl _ m (mem_fork.mpr ⟨_, rfl, mem_rwss.mpr ⟨b, hbm, x, rfl, hx⟩⟩)
        simp only [List.length_append] at this ⊢
        omega
      have l1 := DpAll_len dM
      have l2 := DpAll_len dN
      have l3 := DpAll_len d1
      have l4 := DpAll_len d2
      have gt := gat_take Tr.kn bs i
      have gt2 := gat_take Tr.rws bs i
      have fsl := fs.2.2
      simp only [List.length_map, List.length_append, List.length_cons, List.length_nil] at l1 l2 l3 l4
      refine ⟨_, rfl, rfl, _, rfl, iteF ?_⟩
      refine ⟨_, rfl, _, b, rfl, Dp_same sN hx1, (wb.1 b hbm).2.1, fun H3 s3 => ⟨true, rfl, iteF ?_⟩⟩
      have s13 := sN.trans s3
      have k0 : atI [V.ref W1, V.ref W2] 0 = some (V.ref W1) := rfl
      have k1 : atI [V.ref W1, V.ref W2] 1 = some (V.ref W2) := rfl
      refine ⟨_, rfl, _, rfl, pw, _, _, _, rfl, rfl, SqT.of (s3 _ _ eW), k0, M, W1, aM, a1, rfl, rfl, s13 _ _ hM, s3 _ _ e1, smallZ (by omega), fun O nO => ?_⟩
      have sO := same_new nO (.lst (aM ++ a1))
      have hO : upd H3 O (.lst (aM ++ a1)) O = some (.lst (aM ++ a1)) := upd_same
      generalize upd H3 O (.lst (aM ++ a1)) = H4 at sO hO
      refine ⟨_, rfl, _, rfl, pw, _, _, _, rfl, rfl, SqT.of ((s3.trans sO) _ _ eW), k1, N, W2, aN, a2, rfl, rfl, (s13.trans sO) _ _ hN, (s3.trans sO) _ _ e2, smallZ (by omega), fun O2 nO2 => ?_⟩
      have sO2 := same_new nO2 (.lst (aN ++ a2))
      refine ⟨O, O2, _, _, _, _, _, rfl, ((s1.trans s13).trans sO).trans sO2, sO2 _ _ hO, ?_, upd_same, ?_, .inr ⟨i, b, by omega, hb, rfl⟩⟩
      · rw [gat_next hb, List.map_append (f := pre (s0 ++ t.text)), List.map_append, pre_pre]
        exact DpAll_app (DpAll_same ((s13.trans sO).trans sO2) dM) (DpAll_same ((s3.trans sO).trans sO2) d1)
      · rw [gat_next hb, List.map_append (f := pre (s0 ++ t.text)), ← List.append_assoc, List.map_append, pre_pre]
        exact DpAll_app (DpAll_same ((s13.trans sO).trans sO2) dN) (DpAll_same ((s3.trans sO).trans sO2) d2)
    · obtain ⟨M, N, y4, y5, y6, aM, aN, rfl, s1, hM, dM, hN, dN, hy⟩ := h1
      rw [hxl, List.take_length] at dM dN
      refine ⟨_, rfl, _, rfl, (by show 2 ≤ sizeLine; decide), fun pw nw => ?_⟩
      have sw := same_new nw (.tup [.ref M, .ref N])
      exact q' pw M N aM aN _ (s1.trans sw) upd_same (sw _ _ hM) (sw _ _ hN) (DpAll_same sw dM) (DpAll_same sw dN)
theorem has_Lwalk (D : DefAt K mg "_law_walk" sLwalk f fd) (b : Binds K fd pLwalk []) (G_Lwhole : Has P w K mg base "_law_whole" pLwhole 1 (spWhole K)) (G_Lis_end : Has P w K mg base "_law_is_end" pLis_end 1 (spIsEnd K)) (m_isinstance : mg "isinstance" = none) (m_str : mg "str" = none) (m_int : mg "int" = none) (m_tuple : mg "tuple" = none) (m_len : mg "len" = none) : ∀ n, Has P w K mg base "_law_walk" pLwalk (n + 2) (spWalk K n)
  | 0 => (D.has b ok_Lwalk0).mono (by omega)
  | n + 1 => D.has b (ok_Lwalk1 D.1 (has_Lwalk D b G_Lwhole G_Lis_end m_isinstance m_str m_int m_tuple m_len n) G_Lwhole G_Lis_end m_isinstance m_str m_int m_tuple m_len)
theorem ok_Lright {CTrail fT_init fT_told fT_tree CNoName : Addr} {fdT_told fdT_tree : FuncData} (F : Fun K "_law_right" "_law_right" sLright f fd) (TTr : TrTxt K mg CTrail fT_init) (G_T_told : FnOk P w K mg base (L2.CX P w) 95 fT_told fdT_told pT_told (spTold K CTrail CNoName)) (b_T_told : Binds K fdT_told pT_told []) (M_T_told : Meth K CTrail "told" fT_told)
    (G_T_tree : FnOk P w K mg base (L2.CX P w) 1 fT_tree fdT_tree pT_tree (spTreeM K CTrail)) (b_T_tree : Binds K fdT_tree pT_tree []) (M_T_tree : Meth K CTrail "tree" fT_tree)
    (G_knots : Has P w K mg base "knots" pknots 51 (spKnots K 50)) (G_Lwalk : Has P w K mg base "_law_walk" pLwalk 52 (spWalk K 50)) (G_Lalike : Has P w K mg base "_law_alike" pLalike 131 (spAlike K 130)) (m_range : mg "range" = none) (m_len : mg "len" = none) : FnOk P w K mg base CX0 135 f fd pLright (spRight K CTrail) := by
  refine F.ok cLright (fun vs H Q E h => ?_) (fun cdv A outer s H vs Q E hr h => ?_)
  · obtain ⟨x, dx, l, o, ps, b, rfl, _⟩ := h
    rfl
  obtain ⟨x, dx, l, o, ps, b, rfl, tr, gt, nb, q⟩ := h
  refine ⟨_, (pss_cons (ps_set (i := 2) cLright.nd rfl (Or.inl rfl) (pe_meth0 (E := E0) (pv 0) TTr.cl M_T_tree G_T_tree (hr.mono (by omega)) b_T_tree .nil passL))
    (pss_cons (ps_if (pt_cmpR op_isN (pv 2) pe_non (nomark _)) (pss_one (ps_ret (pe_and (pe_cmpR (op_eqD hr.units) (pe_meth (E := E0) (pv 0) TTr.cl M_T_told G_T_told (hr.mono (by omega)) b_T_told .nil passL (pa_cons pe_str pa_nil)) (pe_lst pa_nil) (nomark _)) (pe_one (pe_cmpR (op_eqD hr.units) (pe_has G_knots hr (by omega) (pa_cons (pv 2) pa_nil)) (pe_lst pa_nil) (nomark _)))))) pss_nil)
    (pss_cons (ps_set (i := 3) cLright.nd rfl (Or.inl rfl) (pe_has G_Lwalk hr (by omega) (pa_cons (pv 2) (pa_cons pe_str pa_nil))))
    (pss_cons (ps_if (PW.pt (pw_or (pt_cmpR op_isN (pv 3) pe_non (nomark _)) (pw_or1 (pt_not (pt_val (pe_has G_Lalike hr (by omega) (pa_cons (pe_meth (E := E0) (pv 0) TTr.cl M_T_told G_T_told (hr.mono (by omega)) b_T_told .nil passL (pa_cons pe_str pa_nil)) (pa_cons (pe_ix (r := rIxT K) ix_tup (pv 3) pe_int (fun _ _ => rfl)) pa_nil)))))))) (pss_one (ps_ret pe_bl)) pss_nil)
    (pss_cons (ps_for PassesOwn.never rfl (pi_range2 (by rfl) m_range (pa_cons pe_int (pa_cons (pe_callB call_len_seq (by rfl) m_len (by decide +kernel) (pa_cons (pe_ix (r := rIxT K) ix_tup (pv 3) pe_int (fun _ _ => rfl)) pa_nil)) pa_nil))) (pg_name (i := 4) cLright.nd rfl (Or.inl rfl)) (pss_one (ps_if (pt_cmpR op_ge_str (pe_ix (r := rIxT K) ix_tup (pe_ix (r := rIxL K) ix_list (pe_ix (r := rIxT K) ix_tup (pv 3) pe_int (fun _ _ => rfl)) (pe_op op_sub (pv 4) pe_int) (fun _ _ => rfl)) pe_int (fun _ _ => rfl)) (pe_ix (r := rIxT K) ix_tup (pe_ix (r := rIxL K) ix_list (pe_ix (r := rIxT K) ix_tup (pv 3) pe_int (fun _ _ => rfl)) (pv 4) (fun _ _ => rfl)) pe_int (fun _ _ => rfl)) (nomark _)) (pss_one (ps_ret pe_bl)) pss_nil)))
    (pss_cons (ps_if (pt_not (pt_val (pe_has G_Lalike hr (by omega) (pa_cons (pe_has G_knots hr (by omega) (pa_cons (pv 2) pa_nil)) (pa_cons (pe_ix (r := rIxT K) ix_tup (pv 3) pe_int (fun _ _ => rfl)) pa_nil))))) (pss_one (ps_ret pe_bl)) pss_nil)
    (pss_cons (ps_setLc (i := 5) (own := [("_law_row", 6)]) (g := gName 6) (by rfl) cLright.nd rfl rfl (sw_true rfl rfl rfl (by decide +kernel)) (pi_list (pe_ix (r := rIxT K) ix_tup (pv 3) pe_int (fun _ _ => rfl))) (blkOk_by (own := [("_law_row", 6)]) (N := ["_law_trail", "_law_start", "_law_tree", "_law_walked", "_law_k", "_law_below", "_law_row"]) (sc := defScope sLright) (by decide +kernel)) (fun _ _ _ _ _ => pg_name (i := 6) cLright.nd rfl (Or.inl rfl)) (fun _ _ _ _ _ => (pts_one (pt_cmpR op_eq (pe_slice sl_str (pe_ix (r := rIxT K) ix_tup (pv 6) pe_int (fun _ _ => rfl)) po_none (po_some (pe_callB call_len_str (by rfl) m_len (by decide +kernel) (pa_cons (pv 1) pa_nil)))) (pv 1) (nomark _)))) (fun _ _ _ _ _ => (pv 6)))
    (pss_one (ps_ret (pe_has G_Lalike hr (by omega) (pa_cons (pe_meth (E := E0) (pv 0) TTr.cl M_T_told G_T_told (hr.mono (by omega)) b_T_told .nil passL (pa_cons (pv 1) pa_nil)) (pa_cons (pv 5) pa_nil)))))))))))), ?_⟩
  obtain ⟨v0, c0, h0, _⟩ := id tr
  obtain ⟨ff, fd50⟩ := good_fits gt.tr gt.2.1
  refine ⟨_, rfl, x, dx, _, rfl, h0, rfl, x, dx, l, o, ps, rfl, tr, fun v hv => ?_⟩
  cases o with
  | none =>
    cases Dp_non hv
    refine ⟨_, rfl, rfl, _, rfl, iteT ?_⟩
    refine ⟨_, rfl, x, dx, _, rfl, h0, rfl, x, dx, l, none, ps, rO none, _, some [], rfl, tr, gt.tr, gt.2.1, thg_nil, (fun e => by cases e), fun b' eb Lt acc H3 nL s3 eL dL => ?_⟩
    cases eb
    cases DpAll_nil dL
    refine ⟨(by show 0 ≤ sizeLine; decide), fun m nm' => ?_⟩
    have sm := same_new nm' (.lst [])
    refine ⟨.list [], .list [], .lst (SqL.of (sm _ _ eL)) .nil, .lst (SqL.of upd_same) .nil, rfl, rfl, _, rfl, iteT ?_⟩
    refine ⟨_, rfl, _, none, rfl, .non, ff, fd50, fun L acc' H4 nL4 s4 eL4 dL4 => ?_⟩
    cases DpAll_nil dL4
    refine ⟨(by show 0 ≤ sizeLine; decide), fun m2 nm2 => ?_⟩
    have sm2 := same_new nm2 (.lst [])
    exact ⟨.list [], .list [], .lst (SqL.of (sm2 _ _ eL4)) .nil, .lst (SqL.of upd_same) .nil, rfl, rfl, q _ (((s3.trans sm).trans s4).trans sm2)⟩
  | some t =>
    have ft := ff t rfl
    have g := gt.2.1
    have rl : t.rws.length ≤ 150 := g.2.1
    have up : Up t.rws := g.1
    have kl := (bnd_kn t ft).2
    obtain ⟨p, kd, z, rfl, _⟩ := Dp_tree (t := t) hv
    refine ⟨_, rfl, rfl, _, rfl, iteF ?_⟩
    refine ⟨_, rfl, _, t, [], rfl, hv, ft, fd50, fun y m hy => ?_, fun pw W1 W2 a1 a2 H1 s1 eW e1 e2 d1 d2 => ?_⟩
    · have := (g.2.2 (y, m) hy).1
      show 0 + y.length ≤ 1000
      have h2 : y.length ≤ 40 := this
      omega
    rw [pre_nil] at d1 d2
    have k0 : atI [V.ref W1, V.ref W2] 0 = some (V.ref W1) := rfl
    have k1 : atI [V.ref W1, V.ref W2] 1 = some (V.ref W2) := rfl
    obtain ⟨pa, pb⟩ := rows_plain (R := t.rws) (by omega)
    obtain ⟨pc, pd⟩ := rows_plain (R := t.kn) (by omega)
    have tr1 := tr.same s1
    obtain ⟨v1, c1, h1, _⟩ := id tr1
    refine ⟨_, rfl, rfl, _, rfl, iteF ?_⟩
    refine ⟨_, rfl, x, dx, _, rfl, h1, rfl, x, dx, l, some t, ps, rO (some t), _, some [], rfl, tr1, gt.tr, g, thg_nil, (fun e => by cases e), fun b' eb Lt acc H2 nL s2 eL dL => ?_⟩
    cases eb
    rw [below_nil] at dL
    refine ⟨_, rfl, pw, _, _, _, rfl, rfl, SqT.of (s2 _ _ eW), k0, .ref Lt, .ref W1, .list (t.rws.map rowD), rfl, .lst (SqL.of eL) dL, .lst (SqL.of (s2 _ _ e1)) (DpAll_same s2 d1), pa, by omega, fun H3 s3 => ⟨_, rfl, iteF ?_⟩⟩
    have s13 := s2.trans s3
    have eW3 := SqT.of (K := K) (s13 _ _ eW)
    have e13 := SqL.of (K := K) (s13 _ _ e1)
    have d13 := DpAll_same s13 d1
    have al : a1.length = t.rws.length := by rw [DpAll_len d1, List.length_map]
    refine ⟨_, rfl, pw, _, _, _, rfl, rfl, eW3, k0, W1, a1, rfl, .inl e13, 1, _, rfl, ⟨by decide, by decide, by omega, by omega⟩, for_range (lo := 1) (n := ((a1.length : Nat) - 1 : Int).toNat) (fun i σ H' => ∃ y4, σ = [some (.ref x), some (.str (st b)), some (.ref p), some (.ref pw), y4, none, none] ∧ H' = H3) ⟨none, rfl, rfl⟩ (fun i σ H' hi h1 => ?_) (fun σ H' h1 => ?_)⟩
    · obtain ⟨y4, rfl, rfl⟩ := h1
      have hi1 : i + 1 < t.rws.length := by omega
      obtain ⟨r1, er1⟩ : ∃ r, r = t.rws[i] := ⟨_, rfl⟩
      obtain ⟨r2, er2⟩ : ∃ r, r = t.rws[i + 1] := ⟨_, rfl⟩
      have g1 := List.getElem?_eq_getElem (l := t.rws) (i := i) (by omega)
      have g2 := List.getElem?_eq_getElem hi1
      have lt := (List.pairwise_iff_getElem.mp up) i (i + 1) (by omega) hi1 (by omega)
      rw [← er1] at g1 lt
      rw [← er2] at g2 lt
      obtain ⟨w1, u1, o1⟩ := DpAll_get d13 (show (t.rws.map rowD)[i]? = some (rowD r1) by rw [List.getElem?_map, g1]; rfl)
      obtain ⟨w2, u2, o2⟩ := DpAll_get d13 (show (t.rws.map rowD)[i + 1]? = some (rowD r2) by rw [List.getElem?_map, g2]; rfl)
      obtain ⟨t1, z1, z2, rfl, ht1, ht2, _⟩ := Dp_two o1
      obtain ⟨t2, z3, z4, rfl, ht3, ht4, _⟩ := Dp_two o2
      cases Dp_str ht2
      cases Dp_str ht4
      refine ⟨_, rfl, pw, _, _, _, rfl, rfl, eW3, k0, _, rfl, _, _, rfl, rfl, W1, a1, _, .ref t1, rfl, rfl, e13, ?_, t1, _, _, _, rfl, rfl, ht1, (rfl : atI [V.str (st r1.1), z2] 0 = some (V.str (st r1.1))), ?_⟩
      · rw [show (1 : Int) + ((i : Nat) : Int) - 1 = ((i : Nat) : Int) by omega]; exact atI_nat u1
      refine ⟨_, rfl, pw, _, _, _, rfl, rfl, eW3, k0, _, rfl, W1, a1, _, .ref t2, rfl, rfl, e13, ?_, t2, _, _, _, rfl, rfl, ht3, (rfl : atI [V.str (st r2.1), z4] 0 = some (V.str (st r2.1))), ?_⟩
      · rw [show (1 : Int) + ((i : Nat) : Int) = ((i + 1 : Nat) : Int) by omega]; exact atI_nat u2
      refine ⟨_, _, rfl, rfl, _, rfl, ?_⟩
      rw [show (!decide ((st r1.1).cps.toList < (st r2.1).cps.toList)) = false by
        rw [Bool.not_eq_false', decide_eq_true_iff]; exact lt]
      exact iteF ⟨_, rfl, rfl⟩
    · obtain ⟨y4, rfl, rfl⟩ := h1
      have s03 := s1.trans s13
      refine ⟨_, rfl, _, some t, rfl, Dp_same s03 hv, ff, fd50, fun Lk ack H4 nk s4 ek dk => ?_⟩
      refine ⟨_, rfl, pw, _, _, _, rfl, rfl, seqT s4 eW3, k1, .ref Lk, .ref W2, .list (t.kn.map rowD), rfl, .lst (SqL.of ek) dk, .lst (SqL.of ((s13.trans s4) _ _ e2)) (DpAll_same (s13.trans s4) d2), pc, by omega, fun H5 s5 => ⟨_, rfl, iteF ?_⟩⟩
      have s15 := (s13.trans s4).trans s5
      have e15 := SqL.of (K := K) (s15 _ _ e1)
      have d15 := DpAll_same s15 d1
      obtain ⟨bl, bt⟩ := nm_iff.mp nb
      have zb : (st b).length ≤ sizeLine := by rw [st_len]; exact smallZ (by omega)
      refine ⟨_, rfl, pw, _, _, _, rfl, rfl, SqT.of (s15 _ _ eW), k0, W1, rfl, ⟨_, e15⟩, fun D nD => lc_list (K := K) (xs := a1) (LcP K H5 D (fm t.rws (tk b) rowD)) (lcp0 nD rfl) (fun _ _ _ h => h.1.seq e15) (fun j y H6 hy h6 => ?_) (fun H6 h6 => ?_)⟩
      · obtain ⟨r, hr', hxr⟩ := DpAll_map d15 hy
        have hx4 := Dp_same h6.1 hxr
        have rle := (g.2.2 r (List.mem_of_getElem? hr')).1
        obtain ⟨tt, z1, z2, rfl, ht1, ht2, ht3⟩ := Dp_two hx4
        cases Dp_str ht2
        refine ⟨rfl, _, rfl, tt, _, _, _, rfl, rfl, ht1, (rfl : atI [V.str (st r.1), z2] 0 = some (V.str (st r.1))), _, rfl, _, rfl, zb, _, rfl, _, rfl, (by rw [st_len]; exact smallZ (by omega)), ?_⟩
        rw [st_len, cut_to]
        refine ⟨_, rfl, rfl, _, rfl, ?_⟩
        have ed : decide (V.str (st (r.1.take b.length)) = V.str (st b)) = tk b r := decide_eq_decide.mpr st_iff
        rw [ed]
        cases e : tk b r with
        | false => exact iteF (lcp_skip h6 (Same.refl _) (fm_no hr' e))
        | true => exact iteT ⟨_, rfl, lcp_add h6 nD (Same.refl _) hx4 (fm_yes hr' e) (fm_nolist fun _ => rfl) rfl (Nat.le_trans fm_len (by omega))⟩
      rw [al] at h6
      obtain ⟨s6, ac6, e6, d6⟩ := h6
      rw [fm_all] at d6
      have s16 := s15.trans s6
      have tr6 := tr1.same s16
      obtain ⟨v6, c6, h6', _⟩ := id tr6
      refine ⟨_, rfl, x, dx, _, rfl, h6', rfl, _, rfl, x, dx, l, some t, ps, rO (some t), _, some b, rfl, tr6, gt.tr, g, ⟨rfl, nb⟩, (fun e => by cases e), fun b' eb Lu acu H7 nLu s7 eLu dLu => ?_⟩
      cases eb
      obtain ⟨pe, pf⟩ := rows_plain (R := below b t.rws) (Nat.le_trans (List.length_filter_le _ _) (by omega))
      exact ⟨_, rfl, .ref Lu, .ref D, .list ((below b t.rws).map rowD), rfl, .lst (SqL.of eLu) dLu, .lst (SqL.of (s7 _ _ e6)) (DpAll_same s7 d6), pe, by omega, fun H8 s8 => q H8 (((s1.trans s16).trans s7).trans s8)⟩
theorem ok_law {CTrail fT_init fT_keep fT_tree fT_told CNoName CTooMany : Addr} {fdT_init fdT_keep fdT_tree fdT_told : FuncData} (F : Fun K "law" "law" slaw f fd) (TTr : TrTxt K mg CTrail fT_init) (G_T_init : FnOk P w K mg base CX0 1 fT_init fdT_init pT_init (spInit K CTrail)) (b_T_init : Binds K fdT_init pT_init [])
    (G_T_keep : FnOk P w K mg base (L2.CX P w) 100 fT_keep fdT_keep pT_keep (spKeep K CTrail CNoName CTooMany)) (b_T_keep : Binds K fdT_keep pT_keep []) (M_T_keep : Meth K CTrail "keep" fT_keep)
    (G_T_tree : FnOk P w K mg base (L2.CX P w) 1 fT_tree fdT_tree pT_tree (spTreeM K CTrail)) (b_T_tree : Binds K fdT_tree pT_tree []) (M_T_tree : Meth K CTrail "tree" fT_tree)
    (G_T_told : FnOk P w K mg base (L2.CX P w) 95 fT_told fdT_told pT_told (spTold K CTrail CNoName)) (b_T_told : Binds K fdT_told pT_told []) (M_T_told : Meth K CTrail "told" fT_told)
    (G_Lcell_at : Has P w K mg base "_law_cell_at" pLcell_at 1 (spCell K)) (G_Lword_by : Has P w K mg base "_law_word_by" pLword_by 2 (spWord)) (G_Ldeed : Has P w K mg base "_law_deed" pLdeed 125 (spDeed K CTrail)) (G_Lalike : Has P w K mg base "_law_alike" pLalike 131 (spAlike K 130)) (G_Lright : Has P w K mg base "_law_right" pLright 135 (spRight K CTrail))
    (G_Lstart_by : Has P w K mg base "_law_start_by" pLstart_by 5 (spStartBy K)) (m_range : mg "range" = none) (m_int : mg "int" = none) : FnOk P w K mg base CX0 140 f fd plaw (spLaw K) := by
  refine F.ok claw (fun vs H Q E h => ?_) (fun cdv A outer s H vs Q E hr h => ?_)
  · obtain ⟨a, ns, rfl, _⟩ := h
    rfl
  obtain ⟨a, ns, rfl, hS, h63, q⟩ := h
  have e0 : ∀ {A B : Prop} {b : Bool}, (b = true → A) → (b = false → B) → if b = true then A else B := fun {A B b} h1 h2 => by cases b with | true => exact iteT (h1 rfl) | false => exact iteF (h2 rfl)
  refine ⟨_, (pss_cons (ps_set (i := 1) claw.nd rfl (Or.inl rfl) (pe_make0 TTr.mkC G_T_init (hr.mono (by omega)) (by rfl) TTr.mgC b_T_init .nil pass0))
    (pss_cons (ps_set (i := 2) claw.nd rfl (Or.inr rfl) (pe_has G_Lword_by hr (by omega) (pa_cons (pe_op op_fdiv (pe_has G_Lcell_at hr (by omega) (pa_cons (pv 0) (pa_cons pe_int pa_nil))) pe_int) (pa_cons pe_int pa_nil))))
    (pss_cons (ps_set (i := 3) claw.nd rfl (Or.inl rfl) (pe_ix (r := rIxL K) ix_list (pe_lst (pa_cons pe_int (pa_cons pe_int pa_nil))) (pe_callTy call_int1 (by rfl) m_int (by decide +kernel) (pa_cons (pe_cmpR op_eq (pe_op op_mod (pe_has G_Lcell_at hr (by omega) (pa_cons (pv 0) (pa_cons pe_int pa_nil))) pe_int) pe_int (nomark _)) pa_nil)) (fun _ _ => rfl)))
    (C8.pss_cut (ps_for PassesOwn.never rfl (pi_range1 (by rfl) m_range (pa_cons (pv 3) pa_nil)) (pg_name (i := 4) claw.nd rfl (Or.inl rfl)) (pss_one (ps_expr (pe_meth (E := E0) (pv 1) TTr.cl M_T_keep G_T_keep (hr.mono (by omega)) b_T_keep .nil passL (pa_cons (pe_slice sl_str (pv 2) po_none (po_some (pe_op op_mul pe_int (pv 4)))) (pa_cons (pv 4) pa_nil))))))
    (C8.pss_cut (ps_if (PW.pt (pw_or (pt_not (pt_val (pe_has G_Lalike hr (by omega) (pa_cons (pe_meth (E := E0) (pv 1) TTr.cl M_T_told G_T_told (hr.mono (by omega)) b_T_told .nil passL (pa_cons pe_str pa_nil)) (pa_cons (pe_lc (own := [("_law_k", 4)]) (g := gName 4) (by rfl) claw.nd (pi_range1 (by rfl) m_range (pa_cons (pv 3) pa_nil)) (blkOk_by (own := [("_law_k", 4)]) (N := ["_law_script", "_law_trail", "_law_word", "_law_count", "_law_k", "_law_cell", "_law_tree", "_law_first", "_law_held", "_law_pair"]) (sc := defScope slaw) (by decide +kernel)) (fun _ _ _ _ _ => pg_name (i := 4) claw.nd rfl (Or.inl rfl)) (fun _ _ _ _ _ => pts_nil) (fun _ _ _ _ _ => (pe_tup (pa_cons (pe_slice sl_str (pv 2) po_none (po_some (pe_op op_mul pe_int (pv 4)))) (pa_cons (pv 4) pa_nil))))) pa_nil))))) (pw_or1 (pt_not (pt_val (pe_has G_Lright hr (by omega) (pa_cons (pv 1) (pa_cons (pe_slice sl_str (pv 2) po_none (po_some pe_int)) pa_nil)))))))) (pss_one (ps_ret pe_bl)) pss_nil)
    (C8.pss_cut (ps_if (pt_cmpR op_ne (pe_op op_mod (pe_has G_Lcell_at hr (by omega) (pa_cons (pv 0) (pa_cons pe_int pa_nil))) pe_int) pe_int (nomark _)) (pss_one (ps_set (i := 1) claw.nd rfl (Or.inl rfl) (pe_make0 TTr.mkC G_T_init (hr.mono (by omega)) (by rfl) TTr.mgC b_T_init .nil pass0))) pss_nil)
    (C8.pss_cut (ps_for PassesOwn.never rfl (pi_list (pe_slice sl_list (pv 0) (po_some pe_int) (po_some pe_int))) (pg_name (i := 5) claw.nd rfl (Or.inl rfl)) (pss_cons (ps_set (i := 6) claw.nd rfl (Or.inl rfl) (pe_meth0 (E := E0) (pv 1) TTr.cl M_T_tree G_T_tree (hr.mono (by omega)) b_T_tree .nil passL))
    (C8.pss_cut (ps_if (PW.pt (pw_and (pt_not (pt_val (pe_has G_Ldeed hr (by omega) (pa_cons (pv 1) (pa_cons (pv 5) pa_nil))))) (pw_and1 (pt_not (pt_val (pe_has G_Lalike hr (by omega) (pa_cons (pe_meth0 (E := E0) (pv 1) TTr.cl M_T_tree G_T_tree (hr.mono (by omega)) b_T_tree .nil passL) (pa_cons (pv 6) pa_nil)))))))) (pss_one (ps_ret pe_bl)) pss_nil)
    (pss_cons (ps_set (i := 7) claw.nd rfl (Or.inl rfl) (pe_meth0 (E := E0) (pv 1) TTr.cl M_T_tree G_T_tree (hr.mono (by omega)) b_T_tree .nil passL))
    (pss_cons (ps_setLc (i := 8) (own := [("_law_pair", 9)]) (g := gName 9) (by rfl) claw.nd rfl rfl (sw_true rfl rfl rfl (by decide +kernel)) (pi_list (pe_meth (E := E0) (pv 1) TTr.cl M_T_told G_T_told (hr.mono (by omega)) b_T_told .nil passL (pa_cons pe_str pa_nil))) (blkOk_by (own := [("_law_pair", 9)]) (N := ["_law_script", "_law_trail", "_law_word", "_law_count", "_law_k", "_law_cell", "_law_tree", "_law_first", "_law_held", "_law_pair"]) (sc := defScope slaw) (by decide +kernel)) (fun _ _ _ _ _ => pg_name (i := 9) claw.nd rfl (Or.inl rfl)) (fun _ _ _ _ _ => pts_nil) (fun _ _ _ _ _ => (pe_ix (r := rIxT K) ix_tup (pv 9) pe_int (fun _ _ => rfl))))
    (pss_one (ps_if (PW.pt (pw_or (pt_not (pt_val (pe_has G_Lalike hr (by omega) (pa_cons (pe_meth0 (E := E0) (pv 1) TTr.cl M_T_tree G_T_tree (hr.mono (by omega)) b_T_tree .nil passL) (pa_cons (pv 7) pa_nil))))) (pw_or1 (pt_not (pt_val (pe_has G_Lright hr (by omega) (pa_cons (pv 1) (pa_cons (pe_has G_Lstart_by hr (by omega) (pa_cons (pe_op op_mod (pe_op op_mul (pv 5) pe_int) pe_int) (pa_cons (pv 8) pa_nil))) pa_nil)))))))) (pss_one (ps_ret pe_bl)) pss_nil)))))))
    (pss_one (ps_ret (pe_has G_Lright hr (by omega) (pa_cons (pv 1) (pa_cons pe_str pa_nil)))))))))))), ?_⟩
  -- a trail
  intro x0 d0 nx0 nd0 nex0
  have s0 : Same H (upd (upd H d0 (.own x0)) x0 (.ins CTrail d0 [])) := fun b o e => by
    rw [upd_ne (ne_of_none e nx0), upd_ne (ne_of_none e nd0)]; exact e
  refine ⟨x0, d0, rfl, upd_same, fun l0 H1 nl0 keep0 tr0 => ⟨rfl, ?_⟩⟩
  have s1 : Same H H1 := fun b o e => keep0 b o (ne_of_none e nx0) (s0 b o e)
  have nl0' : H l0 = none := s0.free nl0
  -- the word, how many
  refine ⟨_, rfl, a, ns, _, rfl, s1.seq hS, by decide, _, _, rfl, rfl, ⟨by decide, by decide⟩, _, _, rfl, by decide, by decide, fun H2 s2 => ?_⟩
  have wl : (word (cell ns 0 / 8) 40).length = 40 := word_len _ _
  have wt : ∀ c ∈ word (cell ns 0 / 8) 40, c ∈ signTab := word_tab _ _
  rw [show word ((fun (i j : Int) => i / j) (cell ns 0) 8) 40 = word (cell ns 0 / 8) 40 from rfl]
  generalize word (cell ns 0 / 8) 40 = wd at wl wt
  have s12 := s1.trans s2
  refine ⟨(by show 2 ≤ sizeLine; decide), fun m nm => ?_⟩
  have sm := same_new nm (.lst [V.int 3, .int 12])
  refine ⟨_, rfl, a, ns, _, rfl, (s12.trans sm).seq hS, by decide, _, _, rfl, rfl, (by show (0 : Int) < 8; decide), rfl, .inr ⟨_, rfl, ?_⟩⟩
  generalize decide ((fun i j => V.int (i % j)) (cell ns 0) 8 = V.int 2) = b
  obtain ⟨n, hn, hat⟩ : ∃ n : Nat, n ≤ 12 ∧ atI [V.int 3, V.int 12] (if b = true then 1 else 0) = some (.int (n : Int)) := by
    cases b
    · exact ⟨3, by decide, rfl⟩
    · exact ⟨12, by decide, rfl⟩
  refine ⟨m, _, _, _, rfl, rfl, SqL.of upd_same, hat, ?_⟩
  have t0 := s2.trans sm
  have tr1 := tr0.same t0
  have s3 := s1.trans t0
  generalize upd H2 m (.lst [V.int 3, .int 12]) = H3 at s3 tr1
  clear hat b sm t0 nm
  have zw : (st wd).length ≤ sizeLine := by rw [st_len]; exact smallZ (by omega)
  -- kept
  refine ⟨fun σ' H' => ∃ (o : Option Tr) (ps : List (Option Tr)) (y4 : Option V), σ' = [some (.ref a), some (.ref x0), some (.str (st wd)), some (.int (n : Int)), y4, none, none, none, none, none] ∧ Same H H' ∧ TrAt K CTrail H' x0 d0 l0 o ps ∧ GT o ∧ (∀ p ∈ ps, GT p) ∧ ps.length ≤ 20 ∧ rO o = (List.range n).map (bg wd), ?_, ?_⟩
  · refine ⟨_, rfl, _, rfl, by omega, by omega, for_range (lo := 0) (n := ((n : Nat) : Int).toNat) (fun i σ H' => ∃ (o : Option Tr) (ps : List (Option Tr)) (y4 : Option V), σ = [some (.ref a), some (.ref x0), some (.str (st wd)), some (.int (n : Int)), y4, none, none, none, none, none] ∧ Same H H' ∧ TrAt K CTrail H' x0 d0 l0 o ps ∧ GT o ∧ (∀ p ∈ ps, GT p) ∧ ps.length = i ∧ rO o = (List.range i).map (bg wd))
      ⟨none, [], none, rfl, s3, tr1, gt_none, (fun p hp => by cases hp), rfl, rfl⟩ (fun i σ Hi hi h1 => ?_) (fun σ Hi h1 => ?_)⟩
    · obtain ⟨o, ps, y4, rfl, si, tr, gt, gps, pl, eR⟩ := h1
      obtain ⟨v, c, hx, _⟩ := id tr
      have hi' : i < n := by omega
      have nmw : isNm (wd.take (3 * i)) = true := nm_iff.mpr ⟨by rw [List.length_take]; omega, fun c hc => wt c (List.mem_of_mem_take hc)⟩
      refine ⟨_, rfl, x0, d0, _, rfl, hx, rfl, _, rfl, _, rfl, _, _, rfl, rfl, .inl ⟨by decide, by decide⟩, _, rfl, _, rfl, zw, ?_⟩
      rw [show (3 : Int) * (0 + ((i : Nat) : Int)) = ((3 * i : Nat) : Int) by omega, cut_to]
      refine ⟨_, rfl, x0, d0, l0, o, ps, _, _, some (wd.take (3 * i)), rfl, tr, gt, by omega, by omega, ⟨rfl, nmw⟩, (fun e => by cases e), fun b' eb => ⟨fun S hS' big H' s' => ?_, fun o' H' gt' hput f tr' => ?_⟩⟩
      · cases eb
        exfalso
        have := put_len (treed_rO gt.tr).2.1 hS'
        rw [eR, List.length_map, List.length_range] at this
        omega
      · cases eb
        rw [show (0 : Int) + ((i : Nat) : Int) = ((i : Nat) : Int) by omega] at hput
        refine ⟨o', _, _, rfl, same_fr si nx0 nl0' f, tr', gt', fun p hp => ?_, by rw [List.length_append, pl]; rfl, bg_put (by omega) eR hput⟩
        rcases List.mem_append.mp hp with h | h
        · exact gps p h
        · rw [List.mem_singleton.mp h]; exact gt
    · obtain ⟨o, ps, y4, rfl, si, tr, gt, gps, pl, eR⟩ := h1
      exact ⟨o, ps, y4, rfl, si, tr, gt, gps, by omega, eR⟩
  rintro σ' H4 ⟨o, ps, y4, rfl, s4, tr4, gt4, gps4, pl4, eR⟩
  refine ⟨fun σ' H' => ∃ (y4 : Option V), σ' = [some (.ref a), some (.ref x0), some (.str (st wd)), some (.int (n : Int)), y4, none, none, none, none, none] ∧ Same H4 H', ?_, ?_⟩
  · obtain ⟨v, c, hx, _⟩ := id tr4
    refine ⟨_, rfl, x0, d0, _, rfl, hx, rfl, x0, d0, l0, o, ps, rO o, _, some [], rfl, tr4, gt4.tr, gt4.2.1, thg_nil, (fun e => by cases e), fun b' eb L acc H5 nL s5 eL dL => ?_⟩
    cases eb
    rw [below_nil] at dL
    refine ⟨_, rfl, _, rfl, by omega, by omega, fun D nD => lc_range (lo := 0) (n := ((n : Nat) : Int).toNat) (LcP K H5 D (rd (bg wd))) (lcp0 nD rfl) (fun i H6 hi h6 => ?_) (fun H6 h6 => ?_)⟩
    · refine ⟨rfl, yes_if ?_⟩
      refine ⟨_, rfl, _, rfl, _, _, rfl, rfl, .inl ⟨by decide, by decide⟩, _, rfl, _, rfl, zw, ?_⟩
      rw [show (3 : Int) * (0 + ((i : Nat) : Int)) = ((3 * i : Nat) : Int) by omega, cut_to]
      refine ⟨_, rfl, (by show 2 ≤ sizeLine; decide), fun c nc => ?_⟩
      rw [Int.zero_add]
      exact lcp_add h6 nD (same_new nc _) (Dp_new nc (.cons (.str _) (.cons (.int _) .nil))) (rd_succ _ i) (rd_nolist _ i) rfl (by rw [rd_len]; omega)
    · obtain ⟨s6, ac6, e6, d6⟩ := h6
      rw [show rd (bg wd) ((n : Nat) : Int).toNat = (rO o).map rowD by rw [eR]; rfl] at d6
      obtain ⟨pa, pb⟩ := rows_plain (R := rO o) (by have := gt4.2.2; omega)
      refine ⟨.ref L, .ref D, _, rfl, .lst (SqL.of (s6 _ _ eL)) (DpAll_same s6 dL), .lst (SqL.of e6) d6, pa, by omega, fun H7 s7 => ⟨_, rfl, iteF ?_⟩⟩
      have s47 := (s5.trans s6).trans s7
      refine ⟨_, rfl, _, rfl, 3, rfl, _, rfl, zw, ?_⟩
      rw [show cutS (st wd) none (some 3) = _ from cut_to _ 3]
      exact ⟨x0, d0, l0, o, ps, wd.take 3, rfl, tr4.same s47, gt4, nm_iff.mpr ⟨by rw [List.length_take]; omega, fun c hc => wt c (List.mem_of_mem_take hc)⟩, fun H8 s8 => ⟨_, rfl, iteF ⟨_, rfl, s47.trans s8⟩⟩⟩
  rintro σ' H5 ⟨y4', rfl, s5⟩
  have s05 := s4.trans s5
  -- another trail, or the same
  refine ⟨fun σ' H' => ∃ (x dx l : Addr) (o : Option Tr) (ps : List (Option Tr)) (y4 : Option V), σ' = [some (.ref a), some (.ref x), some (.str (st wd)), some (.int (n : Int)), y4, none, none, none, none, none] ∧ Same H H' ∧ TrAt K CTrail H' x dx l o ps ∧ GT o ∧ (∀ p ∈ ps, GT p) ∧ ps.length ≤ 20, ?_, ?_⟩
  · refine ⟨_, rfl, a, ns, _, rfl, s05.seq hS, by decide, _, _, rfl, rfl, (by show (0 : Int) < 8; decide), rfl, _, rfl, e0 (fun _ => ?_) (fun _ => ?_)⟩
    · intro x1 d1 nx1 nd1 nex1
      have s1' : Same H5 (upd (upd H5 d1 (.own x1)) x1 (.ins CTrail d1 [])) := fun b o e => by
        rw [upd_ne (ne_of_none e nx1), upd_ne (ne_of_none e nd1)]; exact e
      refine ⟨x1, d1, rfl, upd_same, fun l1 H6 nl1 keep1 tr1 => ⟨rfl, ?_⟩⟩
      have s6 : Same H5 H6 := fun b o e => keep1 b o (ne_of_none e nx1) (s1' b o e)
      exact ⟨x1, d1, l1, none, [], _, rfl, s05.trans s6, tr1, gt_none, (fun p hp => by cases hp), by decide⟩
    · exact ⟨x0, d0, l0, o, ps, _, rfl, s05, tr4.same s5, gt4, gps4, pl4⟩
  rintro σ' H6 ⟨x, dx, l, o, ps, y4, rfl, s6, tr6, gt6, gps6, pl6⟩
  have small : ∀ {o : Option Tr}, GT o → plain (oD o) = true ∧ dep (oD o) ≤ 130 := fun g => ⟨(good_small g.tr g.2.1).1, by have := (good_small g.tr g.2.1).2; omega⟩
  refine ⟨fun σ' H' => ∃ (o : Option Tr) (ps : List (Option Tr)) (y4 y5 y6 y7 y8 : Option V), σ' = [some (.ref a), some (.ref x), some (.str (st wd)), some (.int (n : Int)), y4, y5, y6, y7, y8, none] ∧ TrAt K CTrail H' x dx l o ps ∧ GT o, ?_, ?_⟩
  · refine ⟨_, rfl, 1, rfl, 41, rfl, a, _, rfl, s6.seq hS, fun p np => ?_⟩
    have xl : (cutV (ns.map V.int) (some 1) (some 41)).length ≤ 63 := Nat.le_trans (cutV_length _ _ _) (by rw [List.length_map]; exact h63)
    have xm : ∀ z ∈ cutV (ns.map V.int) (some 1) (some 41), ∃ c, z = .int c := fun z hz => by
      obtain ⟨c, _, e⟩ := List.mem_map.mp (List.mem_of_mem_drop (List.mem_of_mem_take hz))
      exact ⟨c, e.symm⟩
    generalize cutV (ns.map V.int) (some 1) (some 41) = xs at xl xm
    have sp := same_new np (.lst xs)
    obtain ⟨v6, c6, g1, g2, _⟩ := id tr6
    have npx : p ≠ x := (ne_of_none g1 np).symm
    have npl : p ≠ l := (ne_of_none g2 np).symm
    refine ⟨p, rfl, ⟨_, SqL.of upd_same⟩, for_list (xs := xs) (fun i σ H' => ∃ (o : Option Tr) (ps : List (Option Tr)) (y4 y5 y6 y7 y8 : Option V), σ = [some (.ref a), some (.ref x), some (.str (st wd)), some (.int (n : Int)), y4, y5, y6, y7, y8, none] ∧ TrAt K CTrail H' x dx l o ps ∧ GT o ∧ (∀ p ∈ ps, GT p) ∧ ps.length ≤ 20 + i ∧ H' p = some (.lst xs)) ⟨o, ps, _, _, _, _, _, rfl, tr6.same sp, gt6, gps6, by omega, upd_same⟩ (fun i σ H' hi h1 => ?_) (fun i z σ Hi hz h1 => ?_) (fun σ H' h1 => ?_)⟩
    · obtain ⟨o, ps, _, _, _, _, _, _, _, _, _, _, hp⟩ := h1
      exact SqL.of hp
    · obtain ⟨o, ps, y4, y5, y6, y7, y8, rfl, tr, gt, gps, pl, hp⟩ := h1
      obtain ⟨c, rfl⟩ := xm z (List.mem_of_getElem? hz)
      have hi63 : i < xs.length := (List.getElem?_eq_some_iff.mp hz).1
      obtain ⟨v1, c1, e1, _⟩ := id tr
      refine ⟨_, rfl, x, dx, _, rfl, e1, rfl, x, dx, l, o, ps, rfl, tr, fun v hv => ?_⟩
      refine ⟨fun σ' H' => ∃ (o2 : Option Tr) (ps2 : List (Option Tr)), σ' = [some (.ref a), some (.ref x), some (.str (st wd)), some (.int (n : Int)), y4, some (.int c), some v, y7, y8, none] ∧ TrAt K CTrail H' x dx l o2 ps2 ∧ GT o2 ∧ (∀ p ∈ ps2, GT p) ∧ ps2.length ≤ 20 + i + 1 ∧ H' p = some (.lst xs), ?_, ?_⟩
      · refine ⟨_, rfl, _, rfl, x, dx, l, o, ps, c, rfl, tr, gt, by omega, fun H' s' => ?_, fun ne o' H' gt' f tr' => ?_, fun e9 qs p' eps H' f tr' => ?_⟩
        · have tr2 := tr.same s'
          obtain ⟨v2, c2, e2, _⟩ := id tr2
          refine ⟨_, rfl, iteT ?_⟩
          refine ⟨_, rfl, x, dx, _, rfl, e2, rfl, x, dx, l, o, ps, rfl, tr2, fun v3 hv3 => ⟨_, rfl, v3, v, oD o, rfl, hv3, Dp_same s' hv, (small gt).1, (small gt).2, fun H'' s'' => ⟨_, rfl, iteF ?_⟩⟩⟩
          exact ⟨o, ps, rfl, tr2.same s'', gt, gps, by omega, s'' _ _ (s' _ _ hp)⟩
        · refine ⟨_, rfl, iteF (iteF ⟨o', _, rfl, tr', gt', fun p hp => ?_, ?_, f _ _ npx npl hp⟩)⟩
          · rcases List.mem_append.mp hp with h | h
            · exact gps p h
            · rw [List.mem_singleton.mp h]; exact gt
          · rw [List.length_append]; simp; omega
        · refine ⟨_, rfl, iteF (iteF ⟨p', qs, rfl, tr', gps p' (by rw [eps]; simp), fun p hp => gps p (by rw [eps]; simp [hp]), ?_, f _ _ npx npl hp⟩)⟩
          have : ps.length = qs.length + 1 := by rw [eps, List.length_append]; rfl
          omega
      rintro σ' H' ⟨o2, ps2, rfl, tr2, gt2, gps2, pl2, hp2⟩
      have g := gt2.2.1
      have rl := g.2.1
      obtain ⟨v2, c2, e2, _⟩ := id tr2
      refine ⟨_, rfl, x, dx, _, rfl, e2, rfl, x, dx, l, o2, ps2, rfl, tr2, fun v3 hv3 => ?_⟩
      refine ⟨_, rfl, x, dx, _, rfl, e2, rfl, x, dx, l, o2, ps2, rO o2, _, some [], rfl, tr2, gt2.tr, g, thg_nil, (fun e => by cases e), fun b eb L acc H2 nL s2 eL dL => ?_⟩
      cases eb
      rw [below_nil] at dL
      have al : acc.length = (rO o2).length := by rw [DpAll_len dL, List.length_map]
      refine ⟨L, rfl, ⟨_, SqL.of eL⟩, fun D nD => lc_list (K := K) (xs := acc) (LcP K H2 D (fm (rO o2) (fun _ => true) (fun r => textD r.1))) (lcp0 nD rfl) (fun _ _ _ h => h.1.seq (SqL.of eL)) (fun j y' H3 hy' h3 => ?_) (fun H3 h3 => ?_)⟩
      · obtain ⟨r, hr', hxr⟩ := DpAll_map dL hy'
        obtain ⟨t, z1, z2, rfl, ht1, ht2, ht3⟩ := Dp_two (Dp_same h3.1 hxr)
        cases Dp_str ht2
        refine ⟨rfl, yes_if ⟨_, rfl, t, _, _, _, rfl, rfl, ht1, (rfl : atI [V.str (st r.1), z2] 0 = some (V.str (st r.1))), ?_⟩⟩
        exact lcp_add h3 nD (Same.refl _) (.str _) (fm_yes hr' rfl) (fm_nolist fun _ => rfl) rfl (Nat.le_trans fm_len (by omega))
      rw [al] at h3
      obtain ⟨s3, accD, eD, dD⟩ := h3
      rw [fm_all, List.filter_eq_self.mpr fun _ _ => rfl] at dD
      rw [show ((rO o2).map fun r => textD r.1) = ((rO o2).map (·.1)).map textD from by rw [List.map_map]; rfl] at dD
      have hD : Dp K H3 (.ref D) (.list (((rO o2).map (·.1)).map textD)) := .lst (SqL.of eD) dD
      have nmx : ∀ x ∈ (rO o2).map (·.1), isNm x = true := fun x hx => by
        obtain ⟨r, hr, rfl⟩ := List.mem_map.mp hx
        exact nm_iff.mpr ⟨(g.2.2 r hr).1, (g.2.2 r hr).2.1⟩
      have s03 := s2.trans s3
      have tr3 := tr2.same s03
      obtain ⟨v4, c4, e4, _⟩ := id tr3
      refine ⟨_, rfl, x, dx, _, rfl, e4, rfl, x, dx, l, o2, ps2, rfl, tr3, fun v5 hv5 => ⟨_, rfl, v5, v3, oD o2, rfl, hv5, Dp_same s03 hv3, (small gt2).1, (small gt2).2, fun H4 s4 => ⟨_, rfl, iteF ?_⟩⟩⟩
      refine ⟨_, rfl, _, rfl, _, _, rfl, rfl, .inr ⟨by decide, by decide⟩, _, _, rfl, rfl, (by show (0 : Int) < 2147483399; decide), _, rfl, _, _, _, rfl, Dp_same s4 hD, nmx, fun b' H5 s5 nb' => ?_⟩
      have s05 := (s03.trans s4).trans s5
      refine ⟨x, dx, l, o2, ps2, b', rfl, tr2.same s05, gt2, nb', fun H6' s6' => ⟨_, rfl, iteF ?_⟩⟩
      exact ⟨o2, ps2, _, _, _, _, _, rfl, tr2.same (s05.trans s6'), gt2, gps2, by omega, (s05.trans s6') _ _ hp2⟩
    · obtain ⟨o, ps, y4, y5, y6, y7, y8, rfl, tr, gt, _⟩ := h1
      exact ⟨o, ps, y4, y5, y6, y7, y8, rfl, tr, gt⟩
  rintro σ' H' ⟨o, ps, y4, y5, y6, y7, y8, rfl, tr, gt⟩
  exact ⟨_, rfl, x, dx, l, o, ps, [], rfl, tr, gt, (by decide +kernel), fun H'' _ => q H''⟩
end
end RT
namespace RT
open PySem PySem.Spec PyProof.Rows L2
theorem all_ok {l : PySem.W.OpenLaw} {w : World} {K : PySem.W.Frag} {mg : Str → Option Value} {fa f0 f10 f11 f12 f13 f17 f18 f19 f20 f22 f23 f24 f25 f26 f27 f28 f30 f31 f32 f33 f34 f36 f37 f38 f42 f43 f44 f46 f47 f48 f49 f50 f51 f52 f53 f54 f55 f56 f57 f58 f59 CT CNoName CNotThere CTaken CTooLong CTooMany CNothingDone CTrail fT_init fT_keep fT_drop fT_prune fT_move fT_graft fT_back fT_told fT_tree fT_do : Addr} (hfa : mg "law" = some (.ref fa))
    (h0 : ∃ fd, DefAt K mg "_wall" sPwall f0 fd)
    (h10 : ∃ fd, DefAt K mg "inner_of" sinner_of f10 fd)
    (h11 : ∃ fd, DefAt K mg "placed" splaced f11 fd)
    (h12 : ∃ fd, DefAt K mg "branches_behind" sbranches_behind f12 fd)
    (h13 : ∃ fd, DefAt K mg "replaced" sreplaced f13 fd)
    (h17 : ∃ fd, DefAt K mg "is_name" sis_name f17 fd)
    (h18 : ∃ fd, DefAt K mg "_is_sign" sPis_sign f18 fd)
    (h19 : ∃ fd, DefAt K mg "common" scommon f19 fd)
    (h20 : ∃ fd, DefAt K mg "rest" srest f20 fd)
    (h22 : ∃ fd, DefAt K mg "found" sfound f22 fd)
    (h23 : ∃ fd, DefAt K mg "put" sput f23 fd)
    (h24 : ∃ fd, DefAt K mg "without" swithout f24 fd)
    (h25 : ∃ fd, DefAt K mg "_less" sPless f25 fd)
    (h26 : ∃ fd, DefAt K mg "ahead" sahead f26 fd)
    (h27 : ∃ fd, DefAt K mg "names" snames f27 fd)
    (h28 : ∃ fd, DefAt K mg "knots" sknots f28 fd)
    (h30 : ∃ fd, DefAt K mg "cut" scut f30 fd)
    (h31 : ∃ fd, DefAt K mg "joined" sjoined f31 fd)
    (h32 : ∃ fd, DefAt K mg "moved" smoved f32 fd)
    (h33 : ∃ fd, DefAt K mg "copied" scopied f33 fd)
    (h34 : ∃ fd, DefAt K mg "_parted" sPparted f34 fd)
    (h36 : ∃ fd, DefAt K mg "under" sunder f36 fd)
    (h37 : ∃ fd, DefAt K mg "many" smany f37 fd)
    (h38 : ∃ fd, DefAt K mg "_below" sPbelow f38 fd)
    (h42 : ∃ fd, DefAt K mg "_refuse_no_names" sPrefuse_no_names f42 fd)
    (h43 : ∃ fd, DefAt K mg "_refuse_long_names" sPrefuse_long_names f43 fd)
    (h44 : ∃ fd, DefAt K mg "_of_size" sPof_size f44 fd)
    (h46 : ∃ fd, DefAt K mg "_law_cell_at" sLcell_at f46 fd)
    (h47 : ∃ fd, DefAt K mg "_law_whole" sLwhole f47 fd)
    (h48 : ∃ fd, DefAt K mg "_law_sign_by" sLsign_by f48 fd)
    (h49 : ∃ fd, DefAt K mg "_law_word_by" sLword_by f49 fd)
    (h50 : ∃ fd, DefAt K mg "_law_number_by" sLnumber_by f50 fd)
    (h51 : ∃ fd, DefAt K mg "_law_alike" sLalike f51 fd)
    (h52 : ∃ fd, DefAt K mg "_law_text_by" sLtext_by f52 fd)
    (h53 : ∃ fd, DefAt K mg "_law_other_by" sLother_by f53 fd)
    (h54 : ∃ fd, DefAt K mg "_law_deed" sLdeed f54 fd)
    (h55 : ∃ fd, DefAt K mg "_law_start_by" sLstart_by f55 fd)
    (h56 : ∃ fd, DefAt K mg "_law_is_end" sLis_end f56 fd)
    (h57 : ∃ fd, DefAt K mg "_law_walk" sLwalk f57 fd)
    (h58 : ∃ fd, DefAt K mg "_law_right" sLright f58 fd)
    (h59 : ∃ fd, DefAt K mg "law" slaw f59 fd)
    (m_tuple : mg "tuple" = none)
    (m_len : mg "len" = none)
    (m_all : mg "all" = none)
    (m_isinstance : mg "isinstance" = none)
    (m_str : mg "str" = none)
    (m_ord : mg "ord" = none)
    (m_zip : mg "zip" = none)
    (m_int : mg "int" = none)
    (m_bool : mg "bool" = none)
    (m_range : mg "range" = none)
    (m_list : mg "list" = none)
    (TNoName : ErrTxt K mg "NoName" CNoName CT)
    (TNotThere : ErrTxt K mg "NotThere" CNotThere CT)
    (TTaken : ErrTxt K mg "Taken" CTaken CT)
    (TTooLong : ErrTxt K mg "TooLong" CTooLong CT)
    (TTooMany : ErrTxt K mg "TooMany" CTooMany CT)
    (TNothingDone : ErrTxt K mg "NothingDone" CNothingDone CT)
    (TTr : TrTxt K mg CTrail fT_init)
    (hT_init : ∃ fd, MethAt K CTrail "__init__" "Trail.__init__" sT_init fT_init fd)
    (hT_keep : ∃ fd, MethAt K CTrail "keep" "Trail.keep" sT_keep fT_keep fd)
    (hT_drop : ∃ fd, MethAt K CTrail "drop" "Trail.drop" sT_drop fT_drop fd)
    (hT_prune : ∃ fd, MethAt K CTrail "prune" "Trail.prune" sT_prune fT_prune fd)
    (hT_move : ∃ fd, MethAt K CTrail "move" "Trail.move" sT_move fT_move fd)
    (hT_graft : ∃ fd, MethAt K CTrail "graft" "Trail.graft" sT_graft fT_graft fd)
    (hT_back : ∃ fd, MethAt K CTrail "back" "Trail.back" sT_back fT_back fd)
    (hT_told : ∃ fd, MethAt K CTrail "told" "Trail.told" sT_told fT_told fd)
    (hT_tree : ∃ fd, MethAt K CTrail "tree" "Trail.tree" sT_tree fT_tree fd)
    (hT_do : ∃ fd, MethAt K CTrail "_do" "Trail._do" sT_do fT_do fd)
    (eNoName : PySem.W.exmOne K (.ref CNoName) (.ref CT) = some true)
    (eNotThere : PySem.W.exmOne K (.ref CNotThere) (.ref CT) = some true)
    (eTaken : PySem.W.exmOne K (.ref CTaken) (.ref CT) = some true)
    (eTooLong : PySem.W.exmOne K (.ref CTooLong) (.ref CT) = some true)
    (eTooMany : PySem.W.exmOne K (.ref CTooMany) (.ref CT) = some true)
    (eNothingDone : PySem.W.exmOne K (.ref CNothingDone) (.ref CT) = some true)
    (gMOST_SIGNS : ∃ t, mg "MOST_SIGNS" = some (.int 40 t))
    (g_PERCENT : ∃ t, mg "_PERCENT" = some (.int 37 t))
    (gMOST_NAMES : ∃ t, mg "MOST_NAMES" = some (.int 100 t))
    : ∃ fd : FuncData, (∀ (s : Shared) (v : Value), BindsTo s fd ⟨[v], []⟩ [("_law_script", v)]) ∧ ∀ base : Heap, K.In base → base.Ns mainGlobals mg → FnOk l.prog w K mg base CX0 140 fa fd ["_law_script"] (spLaw K) := by
  obtain ⟨fd0, D0⟩ := h0
  obtain ⟨fd10, D10⟩ := h10
  obtain ⟨fd11, D11⟩ := h11
  obtain ⟨fd12, D12⟩ := h12
  obtain ⟨fd13, D13⟩ := h13
  obtain ⟨fd17, D17⟩ := h17
  obtain ⟨fd18, D18⟩ := h18
  obtain ⟨fd19, D19⟩ := h19
  obtain ⟨fd20, D20⟩ := h20
  obtain ⟨fd22, D22⟩ := h22
  obtain ⟨fd23, D23⟩ := h23
  obtain ⟨fd24, D24⟩ := h24
  obtain ⟨fd25, D25⟩ := h25
  obtain ⟨fd26, D26⟩ := h26
  obtain ⟨fd27, D27⟩ := h27
  obtain ⟨fd28, D28⟩ := h28
  obtain ⟨fd30, D30⟩ := h30
  obtain ⟨fd31, D31⟩ := h31
  obtain ⟨fd32, D32⟩ := h32
  obtain ⟨fd33, D33⟩ := h33
  obtain ⟨fd34, D34⟩ := h34
  obtain ⟨fd36, D36⟩ := h36
  obtain ⟨fd37, D37⟩ := h37
  obtain ⟨fd38, D38⟩ := h38
  obtain ⟨fd42, D42⟩ := h42
  obtain ⟨fd43, D43⟩ := h43
  obtain ⟨fd44, D44⟩ := h44
  obtain ⟨fd46, D46⟩ := h46
  obtain ⟨fd47, D47⟩ := h47
  obtain ⟨fd48, D48⟩ := h48
  obtain ⟨fd49, D49⟩ := h49
  obtain ⟨fd50, D50⟩ := h50
  obtain ⟨fd51, D51⟩ := h51
  obtain ⟨fd52, D52⟩ := h52
  obtain ⟨fd53, D53⟩ := h53
  obtain ⟨fd54, D54⟩ := h54
  obtain ⟨fd55, D55⟩ := h55
  obtain ⟨fd56, D56⟩ := h56
  obtain ⟨fd57, D57⟩ := h57
  obtain ⟨fd58, D58⟩ := h58
  obtain ⟨fd59, D59⟩ := h59
  obtain ⟨fdT_init, DT_init⟩ := hT_init
  have b_T_init := DT_init.1.binds (ps := pT_init) fun _ _ _ _ _ _ us hl => match us, hl with | [_], _ => rfl
  have M_T_init := DT_init.2
  obtain ⟨fdT_keep, DT_keep⟩ := hT_keep
  have b_T_keep := DT_keep.1.binds (ps := pT_keep) fun _ _ _ _ _ _ us hl => match us, hl with | [_, _, _], _ => rfl
  have M_T_keep := DT_keep.2
  obtain ⟨fdT_drop, DT_drop⟩ := hT_drop
  have b_T_drop := DT_drop.1.binds (ps := pT_drop) fun _ _ _ _ _ _ us hl => match us, hl with | [_, _], _ => rfl
  have M_T_drop := DT_drop.2
  obtain ⟨fdT_prune, DT_prune⟩ := hT_prune
  have b_T_prune := DT_prune.1.binds (ps := pT_prune) fun _ _ _ _ _ _ us hl => match us, hl with | [_, _], _ => rfl
  have M_T_prune := DT_prune.2
  obtain ⟨fdT_move, DT_move⟩ := hT_move
  have b_T_move := DT_move.1.binds (ps := pT_move) fun _ _ _ _ _ _ us hl => match us, hl with | [_, _, _], _ => rfl
  have M_T_move := DT_move.2
  obtain ⟨fdT_graft, DT_graft⟩ := hT_graft
  have b_T_graft := DT_graft.1.binds (ps := pT_graft) fun _ _ _ _ _ _ us hl => match us, hl with | [_, _, _], _ => rfl
  have M_T_graft := DT_graft.2
  obtain ⟨fdT_back, DT_back⟩ := hT_back
  have b_T_back := DT_back.1.binds (ps := pT_back) fun _ _ _ _ _ _ us hl => match us, hl with | [_], _ => rfl
  have M_T_back := DT_back.2
  obtain ⟨fdT_told, DT_told⟩ := hT_told
  have b_T_told := DT_told.1.binds (ps := pT_told) fun _ _ _ _ _ _ us hl => match us, hl with | [_, _], _ => rfl
  have M_T_told := DT_told.2
  obtain ⟨fdT_tree, DT_tree⟩ := hT_tree
  have b_T_tree := DT_tree.1.binds (ps := pT_tree) fun _ _ _ _ _ _ us hl => match us, hl with | [_], _ => rfl
  have M_T_tree := DT_tree.2
  obtain ⟨fdT_do, DT_do⟩ := hT_do
  have b_T_do := DT_do.1.binds (ps := pT_do) fun _ _ _ _ _ _ us hl => match us, hl with | [_, _], _ => rfl
  have M_T_do := DT_do.2
  have e := hfa.symm.trans D59.2
  cases e
  have bPwall := D0.1.binds (ps := pPwall) fun _ _ _ _ _ _ us hl => match us, hl with | [_], _ => rfl
  have DPwall := D0
  have binner_of := D10.1.binds (ps := pinner_of) fun _ _ _ _ _ _ us hl => match us, hl with | [_, _], _ => rfl
  have Dinner_of := D10
  have bplaced := D11.1.binds (ps := pplaced) fun _ _ _ _ _ _ us hl => match us, hl with | [_, _], _ => rfl
  have Dplaced := D11
  have bbranches_behind := D12.1.binds (ps := pbranches_behind) fun _ _ _ _ _ _ us hl => match us, hl with | [_, _], _ => rfl
  have Dbranches_behind := D12
  have breplaced := D13.1.binds (ps := preplaced) fun _ _ _ _ _ _ us hl => match us, hl with | [_, _, _], _ => rfl
  have Dreplaced := D13
  have bis_name := D17.1.binds (ps := pis_name) fun _ _ _ _ _ _ us hl => match us, hl with | [_], _ => rfl
  have Dis_name := D17
  have bPis_sign := D18.1.binds (ps := pPis_sign) fun _ _ _ _ _ _ us hl => match us, hl with | [_], _ => rfl
  have DPis_sign := D18
  have bcommon := D19.1.binds (ps := pcommon) fun _ _ _ _ _ _ us hl => match us, hl with | [_, _], _ => rfl
  have Dcommon := D19
  have brest := D20.1.binds (ps := prest) fun _ _ _ _ _ _ us hl => match us, hl with | [_, _], _ => rfl
  have Drest := D20
  have bfound := D22.1.binds (ps := pfound) fun _ _ _ _ _ _ us hl => match us, hl with | [_, _], _ => rfl
  have Dfound := D22
  have bput := D23.1.binds (ps := pput) fun _ _ _ _ _ _ us hl => match us, hl with | [_, _, _], _ => rfl
  have Dput := D23
  have bwithout := D24.1.binds (ps := pwithout) fun _ _ _ _ _ _ us hl => match us, hl with | [_, _], _ => rfl
  have Dwithout := D24
  have bPless := D25.1.binds (ps := pPless) fun _ _ _ _ _ _ us hl => match us, hl with | [_, _], _ => rfl
  have DPless := D25
  have bahead := D26.1.binds (ps := pahead) fun _ _ _ _ _ _ us hl => match us, hl with | [_, _], _ => rfl
  have Dahead := D26
  have bnames := D27.1.binds (ps := pnames) fun _ _ _ _ _ _ us hl => match us, hl with | [_], _ => rfl
  have Dnames := D27
  have bknots := D28.1.binds (ps := pknots) fun _ _ _ _ _ _ us hl => match us, hl with | [_], _ => rfl
  have Dknots := D28
  have bcut := D30.1.binds (ps := pcut) fun _ _ _ _ _ _ us hl => match us, hl with | [_, _], _ => rfl
  have Dcut := D30
  have bjoined := D31.1.binds (ps := pjoined) fun _ _ _ _ _ _ us hl => match us, hl with | [_, _], _ => rfl
  have Djoined := D31
  have bmoved := D32.1.binds (ps := pmoved) fun _ _ _ _ _ _ us hl => match us, hl with | [_, _, _], _ => rfl
  have Dmoved := D32
  have bcopied := D33.1.binds (ps := pcopied) fun _ _ _ _ _ _ us hl => match us, hl with | [_, _, _], _ => rfl
  have Dcopied := D33
  have bPparted := D34.1.binds (ps := pPparted) fun _ _ _ _ _ _ us hl => match us, hl with | [_, _], _ => rfl
  have DPparted := D34
  have bunder := D36.1.binds (ps := punder) fun _ _ _ _ _ _ us hl => match us, hl with | [_, _], _ => rfl
  have Dunder := D36
  have bmany := D37.1.binds (ps := pmany) fun _ _ _ _ _ _ us hl => match us, hl with | [_, _], _ => rfl
  have Dmany := D37
  have bPbelow := D38.1.binds (ps := pPbelow) fun _ _ _ _ _ _ us hl => match us, hl with | [_, _], _ => rfl
  have DPbelow := D38
  have bPrefuse_no_names := D42.1.binds (ps := pPrefuse_no_names) fun _ _ _ _ _ _ us hl => match us, hl with | [_], _ => rfl
  have DPrefuse_no_names := D42
  have bPrefuse_long_names := D43.1.binds (ps := pPrefuse_long_names) fun _ _ _ _ _ _ us hl => match us, hl with | [_, _, _], _ => rfl
  have DPrefuse_long_names := D43
  have bPof_size := D44.1.binds (ps := pPof_size) fun _ _ _ _ _ _ us hl => match us, hl with | [_], _ => rfl
  have DPof_size := D44
  have bLcell_at := D46.1.binds (ps := pLcell_at) fun _ _ _ _ _ _ us hl => match us, hl with | [_, _], _ => rfl
  have DLcell_at := D46
  have bLwhole := D47.1.binds (ps := pLwhole) fun _ _ _ _ _ _ us hl => match us, hl with | [_], _ => rfl
  have DLwhole := D47
  have bLsign_by := D48.1.binds (ps := pLsign_by) fun _ _ _ _ _ _ us hl => match us, hl with | [_], _ => rfl
  have DLsign_by := D48
  have bLword_by := D49.1.binds (ps := pLword_by) fun _ _ _ _ _ _ us hl => match us, hl with | [_, _], _ => rfl
  have DLword_by := D49
  have bLnumber_by := D50.1.binds (ps := pLnumber_by) fun _ _ _ _ _ _ us hl => match us, hl with | [_], _ => rfl
  have DLnumber_by := D50
  have bLalike := D51.1.binds (ps := pLalike) fun _ _ _ _ _ _ us hl => match us, hl with | [_, _], _ => rfl
  have DLalike := D51
  have bLtext_by := D52.1.binds (ps := pLtext_by) fun _ _ _ _ _ _ us hl => match us, hl with | [_, _], _ => rfl
  have DLtext_by := D52
  have bLother_by := D53.1.binds (ps := pLother_by) fun _ _ _ _ _ _ us hl => match us, hl with | [_, _], _ => rfl
  have DLother_by := D53
  have bLdeed := D54.1.binds (ps := pLdeed) fun _ _ _ _ _ _ us hl => match us, hl with | [_, _], _ => rfl
  have DLdeed := D54
  have bLstart_by := D55.1.binds (ps := pLstart_by) fun _ _ _ _ _ _ us hl => match us, hl with | [_, _], _ => rfl
  have DLstart_by := D55
  have bLis_end := D56.1.binds (ps := pLis_end) fun _ _ _ _ _ _ us hl => match us, hl with | [_], _ => rfl
  have DLis_end := D56
  have bLwalk := D57.1.binds (ps := pLwalk) fun _ _ _ _ _ _ us hl => match us, hl with | [_, _], _ => rfl
  have DLwalk := D57
  have bLright := D58.1.binds (ps := pLright) fun _ _ _ _ _ _ us hl => match us, hl with | [_, _], _ => rfl
  have DLright := D58
  have blaw := D59.1.binds (ps := plaw) fun _ _ _ _ _ _ us hl => match us, hl with | [_], _ => rfl
  have Dlaw := D59
  have bx := D59.1.ex
  refine ⟨fd59, ?_, fun base _ _ => ?_⟩
  · obtain ⟨oc, od, kV, doc, pm, an, cdv, ct, osl, rfl, _⟩ := bx
    exact fun s v => .of_eq rfl
  · clear bx
    have H_Pis_sign : Has l.prog w K mg base "_is_sign" pPis_sign 1 spIsSign := DPis_sign.has bPis_sign (ok_Pis_sign DPis_sign.1 m_ord g_PERCENT)
    have H_is_name : Has l.prog w K mg base "is_name" pis_name 2 (spIsName K) := Dis_name.has bis_name (ok_is_name Dis_name.1 H_Pis_sign m_isinstance m_str m_len m_all gMOST_SIGNS)
    have H_Prefuse_no_names : HasX l.prog w K mg base "_refuse_no_names" pPrefuse_no_names 5 (spRefuse K CNoName) := DPrefuse_no_names.hasX bPrefuse_no_names (ok_Prefuse_no_names DPrefuse_no_names.1 TNoName H_is_name )
    have H_names : Has l.prog w K mg base "names" pnames 51 (spNames K 50) := has_names Dnames bnames 50
    have H_rest : Has l.prog w K mg base "rest" prest 1 (spRest) := Drest.has brest (ok_rest Drest.1   m_len)
    have H_inner_of : Has l.prog w K mg base "inner_of" pinner_of 1 (spInner K) := Dinner_of.has binner_of (ok_inner_of Dinner_of.1   )
    have H_placed : Has l.prog w K mg base "placed" pplaced 1 (spPlaced K) := Dplaced.has bplaced (ok_placed Dplaced.1   m_tuple)
    have H_replaced : Has l.prog w K mg base "replaced" preplaced 2 (spReplaced K) := Dreplaced.has breplaced (ok_replaced Dreplaced.1  H_placed m_len m_tuple)
    have H_cut : Has l.prog w K mg base "cut" pcut 52 (spCut K) := has_cut Dcut bcut H_rest H_inner_of H_replaced 50
    have H_Pbelow : Has l.prog w K mg base "_below" pPbelow 53 (spBelow K) := DPbelow.has bPbelow (ok_Pbelow DPbelow.1  H_cut )
    have H_under : Has l.prog w K mg base "under" punder 90 (spUnder K) := Dunder.has bunder (ok_under Dunder.1  H_names H_Pbelow )
    have H_Prefuse_long_names : HasX l.prog w K mg base "_refuse_long_names" pPrefuse_long_names 95 (spLong K CTooLong) := DPrefuse_long_names.hasX bPrefuse_long_names (ok_Prefuse_long_names DPrefuse_long_names.1 TTooLong H_under m_len gMOST_SIGNS)
    have H_Pof_size : HasX l.prog w K mg base "_of_size" pPof_size 60 (spOfSize K CTooMany) := DPof_size.hasX bPof_size (ok_Pof_size DPof_size.1 TTooMany H_names m_len gMOST_NAMES)
    have H_found : Has l.prog w K mg base "found" pfound 51 (spFound K 50) := has_found Dfound bfound H_rest H_inner_of 50
    have H_common : Has l.prog w K mg base "common" pcommon 1 (spCommon) := Dcommon.has bcommon (ok_common Dcommon.1   m_zip)
    have H_branches_behind : Has l.prog w K mg base "branches_behind" pbranches_behind 1 (spBehind K) := Dbranches_behind.has bbranches_behind (ok_branches_behind Dbranches_behind.1   m_len)
    have H_put : Has l.prog w K mg base "put" pput 51 (spPutN K 50) := has_put Dput bput H_common H_inner_of H_placed H_branches_behind m_len 50
    have H_Pless : Has l.prog w K mg base "_less" pPless 52 (spLess K 50) := has_Pless DPless bPless H_inner_of H_replaced m_len 50
    have H_without : HasX l.prog w K mg base "without" pwithout 53 (spWithout K CNotThere 50) := Dwithout.hasX bwithout (ok_without Dwithout.1 TNotThere H_found H_Pless)
    have H_many : Has l.prog w K mg base "many" pmany 90 (spMany K) := Dmany.has bmany (ok_many Dmany.1  H_names H_Pbelow m_len)
    have H_Pparted : HasX l.prog w K mg base "_parted" pPparted 53 (spParted K CNotThere) := DPparted.hasX bPparted (ok_Pparted DPparted.1 TNotThere H_cut )
    have H_joined : HasX l.prog w K mg base "joined" pjoined 100 (spJoined K CTaken) := (has_joined Djoined bjoined TTaken H_common H_branches_behind H_placed H_inner_of 99).imp joined_imp
    obtain ⟨fJ, gdJ, GJ, bJ, kJ, gJ⟩ := H_joined.ex
    have H_ahead : Has l.prog w K mg base "ahead" pahead 1 (spAhead K) := Dahead.has bahead (ok_ahead Dahead.1   )
    have H_moved : HasX l.prog w K mg base "moved" pmoved 102 (spMoved K CNotThere CTaken stayR) := Dmoved.hasX bmoved (ok_moved Dmoved.1 TNotThere TTaken H_Pparted H_joined H_ahead )
    have H_copied : HasX l.prog w K mg base "copied" pcopied 102 (spMoved K CNotThere CTaken (fun _ R => R)) := Dcopied.hasX bcopied (ok_copied Dcopied.1 TNotThere TTaken H_Pparted H_joined H_ahead )
    have H_Lsign_by : Has l.prog w K mg base "_law_sign_by" pLsign_by 1 (spSign) := DLsign_by.has bLsign_by (ok_Lsign_by DLsign_by.1   )
    have H_Lword_by : Has l.prog w K mg base "_law_word_by" pLword_by 2 (spWord) := DLword_by.has bLword_by (ok_Lword_by DLword_by.1  H_Lsign_by m_range)
    have H_Lwhole : Has l.prog w K mg base "_law_whole" pLwhole 1 (spWhole K) := DLwhole.has bLwhole (ok_Lwhole DLwhole.1   m_isinstance m_int m_bool)
    have H_Lis_end : Has l.prog w K mg base "_law_is_end" pLis_end 1 (spIsEnd K) := DLis_end.has bLis_end (ok_Lis_end DLis_end.1   )
    have H_Lwalk : Has l.prog w K mg base "_law_walk" pLwalk 52 (spWalk K 50) := has_Lwalk DLwalk bLwalk H_Lwhole H_Lis_end m_isinstance m_str m_int m_tuple m_len 50
    have H_Lalike : Has l.prog w K mg base "_law_alike" pLalike 131 (spAlike K 130) := has_Lalike DLalike bLalike H_Lwhole m_isinstance m_str m_int m_tuple m_list m_len m_range 130
    have H_knots : Has l.prog w K mg base "knots" pknots 51 (spKnots K 50) := has_knots Dknots bknots m_len 50
    have H_Lcell_at : Has l.prog w K mg base "_law_cell_at" pLcell_at 1 (spCell K) := DLcell_at.has bLcell_at (ok_Lcell_at DLcell_at.1   m_len)
    have H_Ltext_by : Has l.prog w K mg base "_law_text_by" pLtext_by 3 (spTextBy K) := DLtext_by.has bLtext_by (ok_Ltext_by DLtext_by.1  H_Lword_by m_int m_len)
    have H_Lother_by : Has l.prog w K mg base "_law_other_by" pLother_by 4 (spTextBy K) := DLother_by.has bLother_by (ok_Lother_by DLother_by.1  H_Ltext_by )
    have H_Lnumber_by : Has l.prog w K mg base "_law_number_by" pLnumber_by 1 (spNum) := DLnumber_by.has bLnumber_by (ok_Lnumber_by DLnumber_by.1   m_range)
    have H_Lstart_by : Has l.prog w K mg base "_law_start_by" pLstart_by 5 (spStartBy K) := DLstart_by.has bLstart_by (ok_Lstart_by DLstart_by.1  H_Ltext_by m_isinstance m_str m_len)
    have G_T_init := ok_T_init (P := l.prog) (w := w) (base := base) DT_init.1 TTr
    have G_T_do := ok_T_do (P := l.prog) (w := w) (base := base) DT_do.1 TTr
    have G_T_keep := ok_T_keep DT_keep.1 TTr TNoName G_T_do b_T_do M_T_do H_Prefuse_no_names H_found H_put H_Pof_size
    have G_T_drop := ok_T_drop DT_drop.1 TTr TNoName G_T_do b_T_do M_T_do H_Prefuse_no_names H_found H_without
    have G_T_prune := ok_T_prune DT_prune.1 TTr TNoName TNotThere G_T_do b_T_do M_T_do H_Prefuse_no_names H_cut H_names m_len
    have G_T_move := ok_T_move DT_move.1 TTr TNoName G_T_do b_T_do M_T_do H_Prefuse_no_names H_Prefuse_long_names H_many H_moved
    have G_T_graft := ok_T_graft DT_graft.1 TTr TNoName G_T_do b_T_do M_T_do H_Prefuse_no_names H_Prefuse_long_names H_many H_copied H_Pof_size
    have G_T_back := ok_T_back (P := l.prog) (w := w) (base := base) DT_back.1 TTr TNothingDone
    have G_T_tree := ok_T_tree (P := l.prog) (w := w) (base := base) DT_tree.1 TTr
    have G_T_told := ok_T_told DT_told.1 TTr TNoName H_Prefuse_no_names H_under
    have H_Ldeed : Has l.prog w K mg base "_law_deed" pLdeed 125 (spDeed K CTrail) := DLdeed.has bLdeed (ok_Ldeed DLdeed.1 TNoName eNoName eNotThere eTaken eTooLong eTooMany eNothingDone TTr G_T_keep b_T_keep M_T_keep G_T_drop b_T_drop M_T_drop G_T_prune b_T_prune M_T_prune G_T_move b_T_move M_T_move G_T_graft b_T_graft M_T_graft G_T_back b_T_back M_T_back G_T_told b_T_told M_T_told H_Ltext_by H_Lother_by H_Lnumber_by)
    have H_Lright : Has l.prog w K mg base "_law_right" pLright 135 (spRight K CTrail) := DLright.has bLright (ok_Lright DLright.1 TTr G_T_told b_T_told M_T_told G_T_tree b_T_tree M_T_tree H_knots H_Lwalk H_Lalike m_range m_len)
    exact ok_law Dlaw.1 TTr G_T_init b_T_init G_T_keep b_T_keep M_T_keep G_T_tree b_T_tree M_T_tree G_T_told b_T_told M_T_told H_Lcell_at H_Lword_by H_Ldeed H_Lalike H_Lright H_Lstart_by m_range m_int
end RT
open PySem PySem.W PyProof.Rows
set_option maxHeartbeats 0 in
theorem PySem.Challenge.cw_radixtrail_k13_whole_no_single_child_holds : PySem.Challenge.rw_radixtrail_k13_whole_no_single_child.Holds := by
  w_on; o_law; k_head; (case hw => w_witness2)
  k_fill
  refine L2.walk_of (l := PySem.Challenge.rw_radixtrail_k13_whole_no_single_child) (n := 63) (k := 140) (x := "_law_script") (CX := fun _ => L2.CX0) (sp := fun w => RT.spLaw _) rfl (by decide) rfl ⟨rfl, by decide, by decide⟩ (fun w h Y => PySem.W.kIn_of Y) ?F (fun _ _ a ns hl _ hS => ⟨a, ns, rfl, hS, hl, fun _ => rfl⟩) (fun _ _ _ _ _ h => h)
  case F =>
    intro w mg fa h KX G hmg
    refine' RT.all_ok (l := PySem.Challenge.rw_radixtrail_k13_whole_no_single_child) (w := w) (mg := mg) hmg (RT.defAt KX G ?a0 ?l0 ?c0 ?k0)  (RT.defAt KX G ?a10 ?l10 ?c10 ?k10)  (RT.defAt KX G ?a11 ?l11 ?c11 ?k11)  (RT.defAt KX G ?a12 ?l12 ?c12 ?k12)  (RT.defAt KX G ?a13 ?l13 ?c13 ?k13)  (RT.defAt KX G ?a17 ?l17 ?c17 ?k17)  (RT.defAt KX G ?a18 ?l18 ?c18 ?k18)  (RT.defAt KX G ?a19 ?l19 ?c19 ?k19)  (RT.defAt KX G ?a20 ?l20 ?c20 ?k20)  (RT.defAt KX G ?a22 ?l22 ?c22 ?k22)  (RT.defAt KX G ?a23 ?l23 ?c23 ?k23)  (RT.defAt KX G ?a24 ?l24 ?c24 ?k24)  (RT.defAt KX G ?a25 ?l25 ?c25 ?k25)  (RT.defAt KX G ?a26 ?l26 ?c26 ?k26)  (RT.defAt KX G ?a27 ?l27 ?c27 ?k27)  (RT.defAt KX G ?a28 ?l28 ?c28 ?k28)  (RT.defAt KX G ?a30 ?l30 ?c30 ?k30)  (RT.defAt KX G ?a31 ?l31 ?c31 ?k31)  (RT.defAt KX G ?a32 ?l32 ?c32 ?k32)  (RT.defAt KX G ?a33 ?l33 ?c33 ?k33)  (RT.defAt KX G ?a34 ?l34 ?c34 ?k34)  (RT.defAt KX G ?a36 ?l36 ?c36 ?k36)  (RT.defAt KX G ?a37 ?l37 ?c37 ?k37)  (RT.defAt KX G ?a38 ?l38 ?c38 ?k38)  (RT.defAt KX G ?a42 ?l42 ?c42 ?k42)  (RT.defAt KX G ?a43 ?l43 ?c43 ?k43)  (RT.defAt KX G ?a44 ?l44 ?c44 ?k44)  (RT.defAt KX G ?a46 ?l46 ?c46 ?k46)  (RT.defAt KX G ?a47 ?l47 ?c47 ?k47)  (RT.defAt KX G ?a48 ?l48 ?c48 ?k48)  (RT.defAt KX G ?a49 ?l49 ?c49 ?k49)  (RT.defAt KX G ?a50 ?l50 ?c50 ?k50)  (RT.defAt KX G ?a51 ?l51 ?c51 ?k51)  (RT.defAt KX G ?a52 ?l52 ?c52 ?k52)  (RT.defAt KX G ?a53 ?l53 ?c53 ?k53)  (RT.defAt KX G ?a54 ?l54 ?c54 ?k54)  (RT.defAt KX G ?a55 ?l55 ?c55 ?k55)  (RT.defAt KX G ?a56 ?l56 ?c56 ?k56)  (RT.defAt KX G ?a57 ?l57 ?c57 ?k57)  (RT.defAt KX G ?a58 ?l58 ?c58 ?k58)  (RT.defAt KX G ?a59 ?l59 ?c59 ?k59)
      (PySem.W.mg_none_of KX G ?z0)  (PySem.W.mg_none_of KX G ?z1)  (PySem.W.mg_none_of KX G ?z2)  (PySem.W.mg_none_of KX G ?z3)  (PySem.W.mg_none_of KX G ?z4)  (PySem.W.mg_none_of KX G ?z5)  (PySem.W.mg_none_of KX G ?z6)  (PySem.W.mg_none_of KX G ?z7)  (PySem.W.mg_none_of KX G ?z8)  (PySem.W.mg_none_of KX G ?z9)  (PySem.W.mg_none_of KX G ?z10) (RT.errTxt KX G ?aN0 ?xN0 ?kN0 ?bN0 ?tN0 ?sN0 ?aT0 ?iT0 ?iV0 ?hg0 ?hk0 ?hd0 ?ha0 ?hn0 ?ht0 ?hm0) (RT.errTxt KX G ?aN1 ?xN1 ?kN1 ?bN1 ?tN1 ?sN1 ?aT1 ?iT1 ?iV1 ?hg1 ?hk1 ?hd1 ?ha1 ?hn1 ?ht1 ?hm1) (RT.errTxt KX G ?aN2 ?xN2 ?kN2 ?bN2 ?tN2 ?sN2 ?aT2 ?iT2 ?iV2 ?hg2 ?hk2 ?hd2 ?ha2 ?hn2 ?ht2 ?hm2) (RT.errTxt KX G ?aN3 ?xN3 ?kN3 ?bN3 ?tN3 ?sN3 ?aT3 ?iT3 ?iV3 ?hg3 ?hk3 ?hd3 ?ha3 ?hn3 ?ht3 ?hm3) (RT.errTxt KX G ?aN4 ?xN4 ?kN4 ?bN4 ?tN4 ?sN4 ?aT4 ?iT4 ?iV4 ?hg4 ?hk4 ?hd4 ?ha4 ?hn4 ?ht4 ?hm4) (RT.errTxt KX G ?aN5 ?xN5 ?kN5 ?bN5 ?tN5 ?sN5 ?aT5 ?iT5 ?iV5 ?hg5 ?hk5 ?hd5 ?ha5 ?hn5 ?ht5 ?hm5)
      (RT.trTxt KX G ?tA ?tB ?tC ?tD ?tE ?tF ?tG ?tH ?tI ?tJ ?tK)
      (RT.methAt ?maT_init ?miT_init ?mlT_init ?mcT_init ?mkT_init)
      (RT.methAt ?maT_keep ?miT_keep ?mlT_keep ?mcT_keep ?mkT_keep)
      (RT.methAt ?maT_drop ?miT_drop ?mlT_drop ?mcT_drop ?mkT_drop)
      (RT.methAt ?maT_prune ?miT_prune ?mlT_prune ?mcT_prune ?mkT_prune)
      (RT.methAt ?maT_move ?miT_move ?mlT_move ?mcT_move ?mkT_move)
      (RT.methAt ?maT_graft ?miT_graft ?mlT_graft ?mcT_graft ?mkT_graft)
      (RT.methAt ?maT_back ?miT_back ?mlT_back ?mcT_back ?mkT_back)
      (RT.methAt ?maT_told ?miT_told ?mlT_told ?mcT_told ?mkT_told)
      (RT.methAt ?maT_tree ?miT_tree ?mlT_tree ?mcT_tree ?mkT_tree)
      (RT.methAt ?maT_do ?miT_do ?mlT_do ?mcT_do ?mkT_do)

      
      (PySem.W.exm_ref ?ub0 ?ud0 ?ut0 ?us0)      (PySem.W.exm_ref ?ub1 ?ud1 ?ut1 ?us1)      (PySem.W.exm_ref ?ub2 ?ud2 ?ut2 ?us2)      (PySem.W.exm_ref ?ub3 ?ud3 ?ut3 ?us3)      (PySem.W.exm_ref ?ub4 ?ud4 ?ut4 ?us4)      (PySem.W.exm_ref ?ub5 ?ud5 ?ut5 ?us5)
      (RT.globAt KX G ?gg0)      (RT.globAt KX G ?gg1)      (RT.globAt KX G ?gg2)
    (case a0 => k_is)
    (case l0 => k_is)
    (case c0 => k_is)
    (case k0 => k_is)
    (case a10 => k_is)
    (case l10 => k_is)
    (case c10 => k_is)
    (case k10 => k_is)
    (case a11 => k_is)
    (case l11 => k_is)
    (case c11 => k_is)
    (case k11 => k_is)
    (case a12 => k_is)
    (case l12 => k_is)
    (case c12 => k_is)
    (case k12 => k_is)
    (case a13 => k_is)
    (case l13 => k_is)
    (case c13 => k_is)
    (case k13 => k_is)
    (case a17 => k_is)
    (case l17 => k_is)
    (case c17 => k_is)
    (case k17 => k_is)
    (case a18 => k_is)
    (case l18 => k_is)
    (case c18 => k_is)
    (case k18 => k_is)
    (case a19 => k_is)
    (case l19 => k_is)
    (case c19 => k_is)
    (case k19 => k_is)
    (case a20 => k_is)
    (case l20 => k_is)
    (case c20 => k_is)
    (case k20 => k_is)
    (case a22 => k_is)
    (case l22 => k_is)
    (case c22 => k_is)
    (case k22 => k_is)
    (case a23 => k_is)
    (case l23 => k_is)
    (case c23 => k_is)
    (case k23 => k_is)
    (case a24 => k_is)
    (case l24 => k_is)
    (case c24 => k_is)
    (case k24 => k_is)
    (case a25 => k_is)
    (case l25 => k_is)
    (case c25 => k_is)
    (case k25 => k_is)
    (case a26 => k_is)
    (case l26 => k_is)
    (case c26 => k_is)
    (case k26 => k_is)
    (case a27 => k_is)
    (case l27 => k_is)
    (case c27 => k_is)
    (case k27 => k_is)
    (case a28 => k_is)
    (case l28 => k_is)
    (case c28 => k_is)
    (case k28 => k_is)
    (case a30 => k_is)
    (case l30 => k_is)
    (case c30 => k_is)
    (case k30 => k_is)
    (case a31 => k_is)
    (case l31 => k_is)
    (case c31 => k_is)
    (case k31 => k_is)
    (case a32 => k_is)
    (case l32 => k_is)
    (case c32 => k_is)
    (case k32 => k_is)
    (case a33 => k_is)
    (case l33 => k_is)
    (case c33 => k_is)
    (case k33 => k_is)
    (case a34 => k_is)
    (case l34 => k_is)
    (case c34 => k_is)
    (case k34 => k_is)
    (case a36 => k_is)
    (case l36 => k_is)
    (case c36 => k_is)
    (case k36 => k_is)
    (case a37 => k_is)
    (case l37 => k_is)
    (case c37 => k_is)
    (case k37 => k_is)
    (case a38 => k_is)
    (case l38 => k_is)
    (case c38 => k_is)
    (case k38 => k_is)
    (case a42 => k_is)
    (case l42 => k_is)
    (case c42 => k_is)
    (case k42 => k_is)
    (case a43 => k_is)
    (case l43 => k_is)
    (case c43 => k_is)
    (case k43 => k_is)
    (case a44 => k_is)
    (case l44 => k_is)
    (case c44 => k_is)
    (case k44 => k_is)
    (case a46 => k_is)
    (case l46 => k_is)
    (case c46 => k_is)
    (case k46 => k_is)
    (case a47 => k_is)
    (case l47 => k_is)
    (case c47 => k_is)
    (case k47 => k_is)
    (case a48 => k_is)
    (case l48 => k_is)
    (case c48 => k_is)
    (case k48 => k_is)
    (case a49 => k_is)
    (case l49 => k_is)
    (case c49 => k_is)
    (case k49 => k_is)
    (case a50 => k_is)
    (case l50 => k_is)
    (case c50 => k_is)
    (case k50 => k_is)
    (case a51 => k_is)
    (case l51 => k_is)
    (case c51 => k_is)
    (case k51 => k_is)
    (case a52 => k_is)
    (case l52 => k_is)
    (case c52 => k_is)
    (case k52 => k_is)
    (case a53 => k_is)
    (case l53 => k_is)
    (case c53 => k_is)
    (case k53 => k_is)
    (case a54 => k_is)
    (case l54 => k_is)
    (case c54 => k_is)
    (case k54 => k_is)
    (case a55 => k_is)
    (case l55 => k_is)
    (case c55 => k_is)
    (case k55 => k_is)
    (case a56 => k_is)
    (case l56 => k_is)
    (case c56 => k_is)
    (case k56 => k_is)
    (case a57 => k_is)
    (case l57 => k_is)
    (case c57 => k_is)
    (case k57 => k_is)
    (case a58 => k_is)
    (case l58 => k_is)
    (case c58 => k_is)
    (case k58 => k_is)
    (case a59 => k_is)
    (case l59 => k_is)
    (case c59 => k_is)
    (case k59 => k_is)
    (case z0 => k_is)
    (case z1 => k_is)
    (case z2 => k_is)
    (case z3 => k_is)
    (case z4 => k_is)
    (case z5 => k_is)
    (case z6 => k_is)
    (case z7 => k_is)
    (case z8 => k_is)
    (case z9 => k_is)
    (case z10 => k_is)
    (case aN0 => k_is)
    (case xN0 => k_exc)
    (case kN0 => k_is)
    (case bN0 => k_is)
    (case tN0 => k_is)
    (case sN0 => first | rfl | k_is)
    (case aT0 => k_is)
    (case iT0 => first | rfl | k_is)
    (case iV0 => first | rfl | k_is)
    (case hg0 => k_is)
    (case hk0 => k_is)
    (case hd0 => k_is)
    (case ha0 => k_is)
    (case hn0 => k_is)
    (case ht0 => k_is)
    (case hm0 => k_is)
    (case aN1 => k_is)
    (case xN1 => k_exc)
    (case kN1 => k_is)
    (case bN1 => k_is)
    (case tN1 => k_is)
    (case sN1 => first | rfl | k_is)
    (case aT1 => k_is)
    (case iT1 => first | rfl | k_is)
    (case iV1 => first | rfl | k_is)
    (case hg1 => k_is)
    (case hk1 => k_is)
    (case hd1 => k_is)
    (case ha1 => k_is)
    (case hn1 => k_is)
    (case ht1 => k_is)
    (case hm1 => k_is)
    (case aN2 => k_is)
    (case xN2 => k_exc)
    (case kN2 => k_is)
    (case bN2 => k_is)
    (case tN2 => k_is)
    (case sN2 => first | rfl | k_is)
    (case aT2 => k_is)
    (case iT2 => first | rfl | k_is)
    (case iV2 => first | rfl | k_is)
    (case hg2 => k_is)
    (case hk2 => k_is)
    (case hd2 => k_is)
    (case ha2 => k_is)
    (case hn2 => k_is)
    (case ht2 => k_is)
    (case hm2 => k_is)
    (case aN3 => k_is)
    (case xN3 => k_exc)
    (case kN3 => k_is)
    (case bN3 => k_is)
    (case tN3 => k_is)
    (case sN3 => first | rfl | k_is)
    (case aT3 => k_is)
    (case iT3 => first | rfl | k_is)
    (case iV3 => first | rfl | k_is)
    (case hg3 => k_is)
    (case hk3 => k_is)
    (case hd3 => k_is)
    (case ha3 => k_is)
    (case hn3 => k_is)
    (case ht3 => k_is)
    (case hm3 => k_is)
    (case aN4 => k_is)
    (case xN4 => k_exc)
    (case kN4 => k_is)
    (case bN4 => k_is)
    (case tN4 => k_is)
    (case sN4 => first | rfl | k_is)
    (case aT4 => k_is)
    (case iT4 => first | rfl | k_is)
    (case iV4 => first | rfl | k_is)
    (case hg4 => k_is)
    (case hk4 => k_is)
    (case hd4 => k_is)
    (case ha4 => k_is)
    (case hn4 => k_is)
    (case ht4 => k_is)
    (case hm4 => k_is)
    (case aN5 => k_is)
    (case xN5 => k_exc)
    (case kN5 => k_is)
    (case bN5 => k_is)
    (case tN5 => k_is)
    (case sN5 => first | rfl | k_is)
    (case aT5 => k_is)
    (case iT5 => first | rfl | k_is)
    (case iV5 => first | rfl | k_is)
    (case hg5 => k_is)
    (case hk5 => k_is)
    (case hd5 => k_is)
    (case ha5 => k_is)
    (case hn5 => k_is)
    (case ht5 => k_is)
    (case hm5 => k_is)
    (case tA => k_is)
    (case tB => k_is)
    (case tC => k_is)
    (case tD => k_is)
    (case tE => k_is)
    (case tF => k_is)
    (case tG => k_is)
    (case tH => k_is)
    (case tI => k_is)
    (case tJ => k_is)
    (case tK => k_is)
    (case maT_init => k_is)
    (case miT_init => k_is)
    (case mlT_init => k_is)
    (case mcT_init => k_is)
    (case mkT_init => k_is)
    (case maT_keep => k_is)
    (case miT_keep => k_is)
    (case mlT_keep => k_is)
    (case mcT_keep => k_is)
    (case mkT_keep => k_is)
    (case maT_drop => k_is)
    (case miT_drop => k_is)
    (case mlT_drop => k_is)
    (case mcT_drop => k_is)
    (case mkT_drop => k_is)
    (case maT_prune => k_is)
    (case miT_prune => k_is)
    (case mlT_prune => k_is)
    (case mcT_prune => k_is)
    (case mkT_prune => k_is)
    (case maT_move => k_is)
    (case miT_move => k_is)
    (case mlT_move => k_is)
    (case mcT_move => k_is)
    (case mkT_move => k_is)
    (case maT_graft => k_is)
    (case miT_graft => k_is)
    (case mlT_graft => k_is)
    (case mcT_graft => k_is)
    (case mkT_graft => k_is)
    (case maT_back => k_is)
    (case miT_back => k_is)
    (case mlT_back => k_is)
    (case mcT_back => k_is)
    (case mkT_back => k_is)
    (case maT_told => k_is)
    (case miT_told => k_is)
    (case mlT_told => k_is)
    (case mcT_told => k_is)
    (case mkT_told => k_is)
    (case maT_tree => k_is)
    (case miT_tree => k_is)
    (case mlT_tree => k_is)
    (case mcT_tree => k_is)
    (case mkT_tree => k_is)
    (case maT_do => k_is)
    (case miT_do => k_is)
    (case mlT_do => k_is)
    (case mcT_do => k_is)
    (case mkT_do => k_is)
    (case ub0 => k_is)
    (case ud0 => k_is)
    (case ut0 => k_is)
    (case us0 => k_is)
    (case ub1 => k_is)
    (case ud1 => k_is)
    (case ut1 => k_is)
    (case us1 => k_is)
    (case ub2 => k_is)
    (case ud2 => k_is)
    (case ut2 => k_is)
    (case us2 => k_is)
    (case ub3 => k_is)
    (case ud3 => k_is)
    (case ut3 => k_is)
    (case us3 => k_is)
    (case ub4 => k_is)
    (case ud4 => k_is)
    (case ut4 => k_is)
    (case us4 => k_is)
    (case ub5 => k_is)
    (case ud5 => k_is)
    (case ut5 => k_is)
    (case us5 => k_is)
    (case gg0 => k_is)
    (case gg1 => k_is)
    (case gg2 => k_is)

