import PyProof.Rows.All
import Wide.All
import OpenK.AllK
import Wide.FinOn
import HandS.ForMost
import HandS.Walk
import KE.GoesNew
import HandS.IsInst
import HandS.Codes
import PySem.Challenge.RW_radixtrail_k03_text_put_ahead
set_option Elab.async false
set_option linter.all false
set_option maxRecDepth 100000
set_option maxHeartbeats 4000000
/-! zip of two texts, walked by a tuple target -/
namespace RT
open PySem PySem.Spec PyProof.Rows L2
/-- the signs of two texts, in new pairs -/
def Itzs (x y : Str) : It :=
  ⟨fun i _ => i < x.cps.size ∧ i < y.cps.size,
    fun i H v H' => ∃ T c d, v = .ref T ∧ H T = none ∧ H' = upd H T (.tup [.str ⟨#[c]⟩, .str ⟨#[d]⟩]) ∧ x.cps[i]? = some c ∧ y.cps[i]? = some d,
    fun i _ => i = min x.cps.size y.cps.size⟩
theorem sub5 {N : Addr} (b : Addr) (hb : b ∈ [N + 4, N + 3, N, N + 1]) : b ∈ [N + 4, N + 2, N + 3, N, N + 1] := by
  simp only [List.mem_cons, List.not_mem_nil, or_false] at hb ⊢
  rcases hb with h | h | h | h <;> simp [h]
theorem turn_zipS {P : Program} {w : World} {K : PySem.W.Frag} {elts : List Expr} {kk : Nat} {tpos : Pos} {x y : Str} {tx ty : Tok} {N : Addr} :
    Turn P w K (.Tuple elts kk tpos) (Itzs x y) [N + 4, N + 2, N + 3, N, N + 1] (N + 4)
      (fun i h => (IsZip h (N + 4) (N + 2) (N + 3) .none ∧ IsTupOf2 h (N + 2) (.ref N) (.ref (N + 1)) ∧ (∃ a1 a2, IsTupOf2 h (N + 3) a1 a2) ∧ h.IsStrIter N (strIterType x) x tx i ∧ h.IsStrIter (N + 1) (strIterType y) y ty i)) where
  mem := by simp
  obj := fun i h stt c hc => by
    obtain ⟨gZ, gI, ⟨a1, a2, gO⟩, ⟨oA, eA, _, dA⟩, ⟨oB, eB, _, dB⟩⟩ := stt
    have five : c = N + 4 ∨ c = N + 2 ∨ c = N + 3 ∨ c = N ∨ c = N + 1 := by simpa using hc
    rcases five with rfl | rfl | rfl | rfl | rfl
    · exact ⟨_, gZ, fun _ q => nomatch q⟩
    · exact ⟨_, gI, fun _ q => nomatch q⟩
    · exact ⟨_, gO, fun _ q => nomatch q⟩
    · exact ⟨oA, eA, fun _ q => by rw [dA] at q; cases q⟩
    · exact ⟨oB, eB, fun _ q => by rw [dB] at q; cases q⟩
  keep := fun i h h' st k => by
    obtain ⟨hz, hTI, ⟨a1, a2, hTO⟩, ⟨o1, e1, r1⟩, ⟨o2, e2, r2⟩⟩ := st
    exact ⟨k (N + 4) (by simp) _ hz, k (N + 2) (by simp) _ hTI, ⟨a1, a2, k (N + 3) (by simp) _ hTO⟩, ⟨o1, k N (by simp) _ e1, r1⟩, ⟨o2, k (N + 1) (by simp) _ e2, r2⟩⟩
  item := by
    intro X eP eW eK calm i pins s σ H E I hf st hg
    subst eP eW eK
    have hh := I.ok.hd calm
    have G := GoesN.zip2 (A := X.A) (elts := elts) (x1 := kk) (pos := tpos) (zip_sep2 (N := N) (fp1 := []) (fp2 := []) (by simp) (by simp)) (Draws.text (prog := X.prog) (w := X.w) (A := X.A.in1) hh N x tx) (Draws.text (prog := X.prog) (w := X.w) (A := X.A.in1) hh (N + 1) y ty)
    have hlt : i < min x.cps.size y.cps.size := by have := hg.1; have := hg.2; omega
    refine thn (G.goes i s (fun v s2 => ∃ x1 H', Inv X pins σ H' s2 ∧ RelV x1 v ∧ (Itzs x y).yld i H x1 H' ∧ _ ∧ ∀ b ∈ [N + 4, N + 2, N + 3, N, N + 1], H' b = none) E hlt st fun v h' tk hY st' hk htk => ?_) fun r s1 ⟨v, hr, q⟩ => ⟨v, hr, thn q fun _ s2 z => z⟩
    obtain ⟨T, u1, u2, rfl, hT, ⟨c, t1, hc1, rfl⟩, ⟨d, t2, hd1, rfl⟩, hTup⟩ := hY
    have new : ObjOk X.prog X.w (upd H T (.tup [.str ⟨#[c]⟩, .str ⟨#[d]⟩])) h' T (.tup [.str ⟨#[c]⟩, .str ⟨#[d]⟩]) :=
      ⟨by show 2 ≤ sizeLine; decide, [.str ⟨#[c]⟩ t1, .str ⟨#[d]⟩ t2], .cons ⟨_, rfl⟩ (.cons ⟨_, rfl⟩ .nil), hTup⟩
    have I1 : Inv X pins σ (upd H T (.tup [.str ⟨#[c]⟩, .str ⟨#[d]⟩])) { s with heap := h', toks := tk } :=
      I.turnedNew (ch := [N + 4, N + 2, N + 3, N, N + 1]) (fun b o hb q => hk b o (fun z => hb (sub5 b z)) q) hf hT new
    refine ⟨.ref T, _, I1, rfl, ⟨T, c, d, rfl, I.hok.fresh hT, rfl, hc1, hd1⟩, st', fun b hb => ?_⟩
    have hlt : b < s.heap.objs.size := by
      obtain ⟨gZ, gI, ⟨a1, a2, gO⟩, ⟨oA, eA, _⟩, ⟨oB, eB, _⟩⟩ := st
      have five : b = N + 4 ∨ b = N + 2 ∨ b = N + 3 ∨ b = N ∨ b = N + 1 := by simpa using hb
      rcases five with rfl | rfl | rfl | rfl | rfl
      · exact Heap.lt_size gZ
      · exact Heap.lt_size gI
      · exact Heap.lt_size gO
      · exact Heap.lt_size eA
      · exact Heap.lt_size eB
    rw [upd_ne (Nat.ne_of_lt (Nat.lt_of_lt_of_le hlt hT))]
    exact (hf b hb).1
  done := by
    intro X eP eW eK calm i pins s σ H E I hf st hg
    subst eP eW eK
    have hh := I.ok.hd calm
    have G := GoesN.zip2 (A := X.A) (elts := elts) (x1 := kk) (pos := tpos) (zip_sep2 (N := N) (fp1 := []) (fp2 := []) (by simp) (by simp)) (Draws.text (prog := X.prog) (w := X.w) (A := X.A.in1) hh N x tx) (Draws.text (prog := X.prog) (w := X.w) (A := X.A.in1) hh (N + 1) y ty)
    have hi : i = min x.cps.size y.cps.size := hg
    subst hi
    exact G.stops s _ E st fun h' tk hk htk => I.turnedL (ch := [N + 4, N + 2, N + 3, N, N + 1]) (fun b o hb q => hk b o (fun z => hb (sub5 b z)) q) hf
  self := fun _ _ _ _ _ stt q => wpAny_pyIter_zip stt.1 q
def iZipS (ta : TA) : TI := fun σ H R => ta σ H fun vs H1 => ∃ x y, vs = [.str x, .str y] ∧ R (Itzs x y) H1
theorem pi_zipS {X : Cx} {e e2 : Expr} {ta : TA} {p pos tpos : Pos} {elts : List Expr} {kk : Nat} (hg : Gl X "zip") (hm : X.mg "zip" = none) (ha : PA X [e, e2] ta)
    (noStar : starEach [e, e2] X.env = (false, eval e X.env) :: starEach [e2] X.env := by rfl)
    (noStar2 : (backTo pos (starEach [e2] X.env)).any (·.1) = false := by rfl) :
    PI X (.Tuple elts kk tpos) (.Call (.Name "zip" p) [e, e2] [] pos) (iZipS ta) := by
  constructor
  intro pins s σ H R I hw
  refine Call_ (ld_blt I hg hm PyProof.Rows.boot_zip ?_)
  refine PyProof.Rows.callWith_type1 (thn (ha.run pos pins s σ H _ I hw) fun us s1 told => ?_) noStar noStar2
  obtain ⟨vs, H1, I1, r1, q1⟩ := told
  obtain ⟨x, y, ex, q⟩ := q1
  subst ex
  cases r1 with
  | cons r rr =>
    cases rr with
    | cons r' rr =>
      cases rr
      obtain ⟨tx, rfl⟩ := r
      obtain ⟨ty, rfl⟩ := r'
      refine zip_begins2 (begins_text x tx) (begins_text y ty) trivial trivial fun h' hz hTI hTO h1 h2 hsz hk => wpAny_pyIter_zip hz ?_
      have J := I1.kept (t' := s1.toks) hk
      refine ⟨s1.heap.objs.size + 4, [s1.heap.objs.size + 4, s1.heap.objs.size + 2, s1.heap.objs.size + 3, s1.heap.objs.size, s1.heap.objs.size + 1], _, _, H1, rfl, J, turn_zipS (tx := tx) (ty := ty), ⟨hz, hTI, ⟨_, _, hTO⟩, ⟨_, h1, rfl, rfl⟩, ⟨_, h2, rfl, rfl⟩⟩, fun c hc => ?_, q⟩
      have up : ∀ k : Nat, s1.heap.objs.size ≤ s1.heap.objs.size + k := fun k => Nat.le_add_right _ k
      have new : s1.heap.objs.size ≤ c := by
        have five : c = s1.heap.objs.size + 4 ∨ c = s1.heap.objs.size + 2 ∨ c = s1.heap.objs.size + 3 ∨ c = s1.heap.objs.size ∨ c = s1.heap.objs.size + 1 := by simpa using hc
        rcases five with rfl | rfl | rfl | rfl | rfl
        · exact up 4
        · exact up 2
        · exact up 3
        · exact Nat.le_refl _
        · exact up 1
      exact I1.fpOk new (I1.hok.fresh new)
end RT

/-! texts as lists of signs -/
namespace RT
open PySem PySem.Spec PyProof.Rows L2
abbrev st (l : List Nat) : Str := ⟨l.toArray⟩
theorem st_inj {a b : List Nat} (h : st a = st b) : a = b := by
  have := congrArg (fun z => z.cps.toList) h
  simpa using this
theorem st_iff {a b : List Nat} : (V.str (st a) = V.str (st b)) ↔ a = b := ⟨fun h => st_inj (V.str.inj h), fun h => by rw [h]⟩
theorem st_len (a : List Nat) : (st a).length = a.length := by
  show a.toArray.size = a.length
  simp
theorem st_of (z : Str) : z = st z.cps.toList := by
  cases z; simp [st]
theorem st_add (a b : List Nat) : st a ++ st b = st (a ++ b) := by
  show (⟨a.toArray ++ b.toArray⟩ : Str) = ⟨(a ++ b).toArray⟩
  simp
theorem cut_from (a : List Nat) (i : Nat) : cutS (st a) (some (i : Int)) none = st (a.drop i) := by
  show (⟨_⟩ : Str) = ⟨_⟩
  rw [st_len, HT.sIx_nat, HT.sIx_none]
  congr 2
  show ((a.drop (min i a.length)).take (a.length - min i a.length)) = a.drop i
  by_cases h : i ≤ a.length
  · rw [Nat.min_eq_left h, List.take_of_length_le (by simp)]
  · rw [Nat.min_eq_right (by omega)]; simp; omega
theorem cut_to (a : List Nat) (i : Nat) : cutS (st a) none (some (i : Int)) = st (a.take i) := by
  show (⟨_⟩ : Str) = ⟨_⟩
  rw [st_len, HT.sIx_nat, HT.sIx_none]
  congr 2
  show ((a.drop 0).take (min i a.length - 0)) = a.take i
  rw [List.drop_zero, Nat.sub_zero]
  by_cases h : i ≤ a.length
  · rw [Nat.min_eq_left h]
  · rw [Nat.min_eq_right (by omega), List.take_length, List.take_of_length_le (by omega)]
theorem cut_mid (a : List Nat) (i j : Nat) : cutS (st a) (some (i : Int)) (some (j : Int)) = st ((a.drop i).take (j - i)) := by
  show (⟨_⟩ : Str) = ⟨_⟩
  rw [st_len, HT.sIx_nat, HT.sIx_nat]
  congr 2
  show ((a.drop (min i a.length)).take (min j a.length - min i a.length)) = (a.drop i).take (j - i)
  by_cases h : i ≤ a.length
  · rw [Nat.min_eq_left h]
    by_cases h2 : j ≤ a.length
    · rw [Nat.min_eq_left h2]
    · rw [Nat.min_eq_right (by omega : a.length ≤ j), List.take_of_length_le (by simp), List.take_of_length_le (by simp; omega)]
  · rw [Nat.min_eq_right (by omega : a.length ≤ i), List.drop_of_length_le (l := a) (i := a.length) (Nat.le_refl _), List.drop_of_length_le (l := a) (i := i) (by omega)]; simp
/-! ### the longest text with which two begin -/
def lcp : List Nat → List Nat → Nat
  | a :: r, b :: s => if a = b then lcp r s + 1 else 0
  | _, _ => 0
theorem lcp_le1 : ∀ a b : List Nat, lcp a b ≤ a.length
  | [], b => by simp [lcp]
  | a :: r, [] => by simp [lcp]
  | a :: r, b :: s => by
    unfold lcp
    split
    · have := lcp_le1 r s; simp; omega
    · simp
theorem lcp_comm : ∀ a b : List Nat, lcp a b = lcp b a
  | [], [] => rfl
  | [], b :: s => rfl
  | a :: r, [] => rfl
  | a :: r, b :: s => by
    unfold lcp
    by_cases h : a = b
    · subst h; simp [lcp_comm r s]
    · rw [if_neg h, if_neg (fun q => h (Eq.symm q))]
theorem lcp_le2 (a b : List Nat) : lcp a b ≤ b.length := by rw [lcp_comm]; exact lcp_le1 b a
theorem lcp_take : ∀ a b : List Nat, a.take (lcp a b) = b.take (lcp a b)
  | [], [] => rfl
  | [], b :: s => rfl
  | a :: r, [] => rfl
  | a :: r, b :: s => by
    unfold lcp
    by_cases h : a = b
    · subst h; simp [lcp_take r s]
    · simp [h]
theorem lcp_of : ∀ {a b : List Nat} {i : Nat}, a.take i = b.take i → i ≤ a.length → i ≤ b.length → (a.length ≤ i ∨ b.length ≤ i ∨ a[i]? ≠ b[i]?) → lcp a b = i
  | [], b, i, _, h1, _, _ => by simp at h1; subst h1; rfl
  | a :: r, [], i, _, _, h2, _ => by simp at h2; subst h2; rfl
  | a :: r, b :: s, 0, _, _, _, h => by
    have : a ≠ b := by
      intro e; subst e
      rcases h with h | h | h
      · simp at h
      · simp at h
      · simp at h
    unfold lcp; simp [this]
  | a :: r, b :: s, i + 1, h, h1, h2, h3 => by
    simp only [List.take_succ_cons, List.cons.injEq] at h
    obtain ⟨e, h⟩ := h
    subst e
    unfold lcp
    simp only [if_true]
    rw [lcp_of (i := i) h (by simpa using h1) (by simpa using h2) (by simpa using h3)]
theorem take_grow {a b : List Nat} {i : Nat} {c : Nat} (h : a.take i = b.take i) (h1 : a[i]? = some c) (h2 : b[i]? = some c) : a.take (i + 1) = b.take (i + 1) := by
  rw [List.take_add_one, List.take_add_one, h, h1, h2]
/-! ### startswith -/
theorem starts (a b : List Nat) : Txt.startswith (st a) (st b) = decide (b <+: a) := by
  unfold Txt.startswith
  unfold Builtin.Str.subAt
  rw [st_len, st_len]
  have e0 : (a.toArray.extract 0 (0 + b.length) == b.toArray) = (a.take b.length == b) := by simp
  show (decide (0 + b.length ≤ a.length) && (a.toArray.extract 0 (0 + b.length) == b.toArray)) = _
  rw [e0, Nat.zero_add]
  by_cases h : b <+: a
  · have e : a.take b.length = b := (List.prefix_iff_eq_take.mp h).symm
    rw [decide_eq_true h, decide_eq_true h.length_le, e]
    simp
  · rw [decide_eq_false h, Bool.and_eq_false_iff]
    refine .inr (beq_eq_false_iff_ne.mpr fun e => h ?_)
    have e' : a.take b.length = b := by simpa using e
    exact List.prefix_iff_eq_take.mpr e'.symm
/-! ### what the script's cells make -/
def cell (ns : List Int) (k : Int) : Int := (ns[k.toNat]?).getD 0
def signTab : List Nat := ((List.range 95).map (fun k => 32 + k)).filter fun c => c != 37
theorem signTab_len : signTab.length = 94 := by decide
def sgn (c : Int) : Nat := signTab.getD (c % 94).toNat 0
def lcg (n : Int) : Int := (n * 48271 + 11) % 2147483647
def wordGo (c : Int) : Nat → Int × List Nat
  | 0 => (c, [])
  | k + 1 => (lcg (wordGo c k).1, (wordGo c k).2 ++ [sgn (65 + lcg (wordGo c k).1 / 7 % (if c % 2 = 0 then 2 else 94))])
def word (c : Int) (n : Int) : List Nat := (wordGo c n.toNat).2
theorem wordGo_len (c : Int) : ∀ k, (wordGo c k).2.length = k
  | 0 => rfl
  | k + 1 => by simp [wordGo, wordGo_len c k]
theorem word_len (c n : Int) : (word c n).length = n.toNat := wordGo_len c _
theorem sgn_at (c : Int) : signTab[(c % 94).toNat]? = some (sgn c) := by
  have h : (c % 94).toNat < signTab.length := by rw [signTab_len]; omega
  unfold sgn
  rw [List.getD_eq_getElem?_getD, List.getElem?_eq_getElem h]
  rfl
theorem sgn_mem (c : Int) : sgn c ∈ signTab := List.mem_of_getElem? (sgn_at c)
theorem wordGo_mem (c : Int) : ∀ k, ∀ x ∈ (wordGo c k).2, x ∈ signTab
  | 0, x, h => by simp [wordGo] at h
  | k + 1, x, h => by
    simp only [wordGo, List.mem_append, List.mem_singleton] at h
    rcases h with h | h
    · exact wordGo_mem c k x h
    · rw [h]; exact sgn_mem _
theorem word_mem (c n : Int) : ∀ x ∈ word c n, x ∈ signTab := wordGo_mem c _
end RT

namespace RT
open PySem PySem.Spec PyProof.Rows L2
/-- a def of the top that lets no exception out -/
structure Has (P : Program) (w : World) (K : PySem.W.Frag) (mg : Str → Option Value) (base : Heap) (x : Str) (ps : List Str) (k : Nat) (sp : Sp) : Prop where
  ex : ∃ (f : Addr) (fd : FuncData), FnOk P w K mg base CX0 k f fd ps sp ∧ Binds K fd ps [] ∧ PySem.W.keepIn K (.ref f) = true ∧ mg x = some (.ref f)
theorem Has.mono {P : Program} {w : World} {K : PySem.W.Frag} {mg : Str → Option Value} {base : Heap} {x : Str} {ps : List Str} {j k : Nat} {sp : Sp} (h : Has P w K mg base x ps j sp) (hl : j ≤ k) : Has P w K mg base x ps k sp := by
  obtain ⟨f, fd, G, b, kp, m⟩ := h.ex
  exact ⟨f, fd, G.mono hl, b, kp, m⟩
section
variable {X : Cx} {x : Str} {ps : List Str} {k j : Nat} {sp : Sp} {e : Expr} {es : List Expr} {t : TA} {p pos : Pos}
theorem pe_has (h : Has X.prog X.w X.K X.mg X.base x ps k sp) (hr : Room j X.A) (hl : k ≤ j) (ha : PA X (e :: es) t) (hg : Gl X x := by rfl)
    (noDebug : (x == ("__debug__" : Str)) = false := by decide)
    (noStar : starEach (e :: es) X.env = (false, eval e X.env) :: starEach es X.env := by rfl)
    (noStars : (backTo pos (starEach es X.env)).any (·.1) = false := by rfl) :
    PE X (.Call (.Name x p) (e :: es) [] pos) (tCall sp [] E0 t) := by
  obtain ⟨f, fd, G, b, kp, m⟩ := h.ex
  exact pe_call G (hr.mono hl) hg m kp b .nil pass0 ha noDebug noStar noStars
end
theorem same_new {H : Hp} {p : Addr} (free : H p = none) (o : HO) : Same H (upd H p o) := fun b u there => (upd_ne (ne_of_none there free)).trans there
theorem smallZ {n : Nat} (h : n ≤ 100000) : n ≤ sizeLine := Nat.le_trans h (by decide)
/-! ### promises -/
def spCell (K : PySem.W.Frag) : Sp := fun vs H Q _ => ∃ (a : Addr) (ns : List Int) (k : Int), vs = [.ref a, .int k] ∧ SqL K H a (ns.map V.int) ∧ 0 ≤ k ∧ Q (.int (cell ns k)) H
def spSign : Sp := fun vs H Q _ => ∃ c : Int, vs = [.int c] ∧ Q (.str (st [sgn c])) H
def spWord : Sp := fun vs H Q _ => ∃ c n : Int, vs = [.int c, .int n] ∧ -1000 ≤ n ∧ n ≤ 1000 ∧ ∀ H', Same H H' → Q (.str (st (word c n))) H'
def spSame : Sp := fun vs H Q _ => ∃ a b : List Nat, vs = [.str (st a), .str (st b)] ∧ a.length ≤ 1000 ∧ b.length ≤ 1000 ∧ Q (.int (lcp a b : Nat)) H
def spCommon : Sp := fun vs H Q _ => ∃ a b : List Nat, vs = [.str (st a), .str (st b)] ∧ a.length ≤ 1000 ∧ b.length ≤ 1000 ∧ ∀ H', Same H H' → Q (.str (st (a.take (lcp a b)))) H'
def spRest : Sp := fun vs H Q _ => ∃ a b : List Nat, vs = [.str (st a), .str (st b)] ∧ a.length ≤ 1000 ∧ b.length ≤ 1000 ∧ Q (if b <+: a then .str (st (a.drop b.length)) else .non) H
/-- what law(script) promises -/
def spLaw (K : PySem.W.Frag) : Sp := fun vs H Q _ =>
  ∃ (a : Addr) (ns : List Int), vs = [.ref a] ∧ SqL K H a (ns.map V.int) ∧
    ns.length ≤ 63 ∧ ∀ H', Q (.bl true) H'
abbrev psCell : List Str := ["_law_script", "_law_k"]
abbrev psWord : List Str := ["_law_cell", "_law_size"]
end RT
namespace RT
open PySem PySem.Spec PyProof.Rows L2
/-- a def of the top as it stands -/
def DefAt (K : PySem.W.Frag) (mg : Str → Option Value) (x : Str) (s : Stmt) (f : Addr) (fd : FuncData) : Prop := Fun K x x s f fd ∧ mg x = some (.ref f)
theorem defAt {K : PySem.W.Frag} {h : Heap} {mg : Str → Option Value} {x : Str} {s : Stmt} {f : Addr} {od an : Option Addr} {sl : Array (Option Value)} {oc kV dc pm cd ct : Value} (X : K.In h) (G : h.Ns mainGlobals mg)
    (a : PySem.W.nsIn K mainGlobals x = some (some (.ref f))) (l : K.lookup f = some ⟨oc, od, .func (PySem.W.fnOf x x (defArgs s) (defBody s) (defScope s) .none kV dc pm an cd ct), sl⟩) (c : PySem.W.codeIn K cd x = true) (k : PySem.W.keepIn K (.ref f) = true) :
    ∃ fd, DefAt K mg x s f fd := ⟨_, fun_mk (st := s) l c k, PySem.W.mg_of X G a⟩
theorem DefAt.has {P : Program} {w : World} {K : PySem.W.Frag} {mg : Str → Option Value} {base : Heap} {x : Str} {s : Stmt} {f : Addr} {fd : FuncData} {ps : List Str} {k : Nat} {sp : Sp} (D : DefAt K mg x s f fd) (b : Binds K fd ps []) (F : FnOk P w K mg base CX0 k f fd ps sp) : Has P w K mg base x ps k sp :=
  ⟨f, fd, F, b, D.1.kp, D.2⟩
end RT

/-! trees, data in the heap -/
namespace RT
open PySem PySem.Spec PyProof.Rows L2
inductive Tr where
  | leaf (t : List Nat) (n : Int)
  | fork (t : List Nat) (bs : List (List Nat × Tr))
mutual
def Tr.toD : Tr → PyData
  | .leaf t n => .tuple [.str (Str.ofString "leaf"), .str (st t), .int n]
  | .fork t bs => .tuple [.str (Str.ofString "fork"), .str (st t), .tuple (toDs bs)]
def toDs : List (List Nat × Tr) → List PyData
  | [] => []
  | (s, t) :: r => .tuple [.str (st s), t.toD] :: toDs r
end
/-- a tree, or None -/
def oD : Option Tr → PyData
  | none => .none
  | some t => t.toD
theorem toDs_map : ∀ bs : List (List Nat × Tr), toDs bs = bs.map fun b => PyData.tuple [.str (st b.1), b.2.toD]
  | [] => rfl
  | (s, t) :: r => by simp [toDs, toDs_map r]
/-! ### data that stands -/
theorem sameT {K : PySem.W.Frag} {H H' : Hp} {a : Addr} {xs : List V} (e : Same H H') (h : SqT K H a xs) : SqT K H' a xs := by
  rcases h with (h | ⟨o, h⟩) | h
  · exact .inl (.inl (e _ _ h))
  · exact .inl (.inr ⟨o, e _ _ h⟩)
  · exact .inr h
mutual
theorem Dp_same {K : PySem.W.Frag} {H H' : Hp} (e : Same H H') : ∀ {v : V} {d : PyData}, Dp K H v d → Dp K H' v d
  | _, _, .non => .non
  | _, _, .bl b => .bl b
  | _, _, .int i => .int i
  | _, _, .str x => .str x
  | _, _, .lst s a => .lst (e.seq s) (DpAll_same e a)
  | _, _, .tup s a => .tup (sameT e s) (DpAll_same e a)
theorem DpAll_same {K : PySem.W.Frag} {H H' : Hp} (e : Same H H') : ∀ {vs : List V} {ds : List PyData}, DpAll K H vs ds → DpAll K H' vs ds
  | _, _, .nil => .nil
  | _, _, .cons a r => .cons (Dp_same e a) (DpAll_same e r)
end
section
variable {K : PySem.W.Frag} {H H' : Hp} {v : V} {vs ws : List V} {d : PyData} {ds es : List PyData}
theorem Dp_non (h : Dp K H v .none) : v = .non := by cases h; rfl
theorem Dp_int {i : Int} (h : Dp K H v (.int i)) : v = .int i := by cases h; rfl
theorem Dp_str {x : Str} (h : Dp K H v (.str x)) : v = .str x := by cases h; rfl
theorem Dp_tup (h : Dp K H v (.tuple ds)) : ∃ a xs, v = .ref a ∧ SqT K H a xs ∧ DpAll K H xs ds := by
  cases h with
  | tup s r => exact ⟨_, _, rfl, s, r⟩
theorem Dp_lst (h : Dp K H v (.list ds)) : ∃ a xs, v = .ref a ∧ SqL K H a xs ∧ DpAll K H xs ds := by
  cases h with
  | lst s r => exact ⟨_, _, rfl, s, r⟩
theorem DpAll_len : ∀ {vs : List V} {ds : List PyData}, DpAll K H vs ds → vs.length = ds.length
  | _, _, .nil => rfl
  | _, _, .cons _ r => congrArg (· + 1) (DpAll_len r)
theorem DpAll_get : ∀ {vs : List V} {ds : List PyData} {i : Nat} {d : PyData}, DpAll K H vs ds → ds[i]? = some d → ∃ v, vs[i]? = some v ∧ Dp K H v d
  | _, _, _, _, .nil, h => by simp at h
  | _, _, 0, _, .cons a r, h => ⟨_, rfl, by have := Option.some.inj h; rw [← this]; exact a⟩
  | _, _, i + 1, _, .cons a r, h => DpAll_get (i := i) r (by simpa using h)
theorem DpAll_get' : ∀ {vs : List V} {ds : List PyData} {i : Nat} {v : V}, DpAll K H vs ds → vs[i]? = some v → ∃ d, ds[i]? = some d ∧ Dp K H v d
  | _, _, _, _, .nil, h => by simp at h
  | _, _, 0, _, .cons a r, h => ⟨_, rfl, by have := Option.some.inj h; rw [← this]; exact a⟩
  | _, _, i + 1, _, .cons a r, h => DpAll_get' (i := i) r (by simpa using h)
theorem DpAll_app : ∀ {vs : List V} {ds : List PyData}, DpAll K H vs ds → DpAll K H ws es → DpAll K H (vs ++ ws) (ds ++ es)
  | _, _, .nil, h => h
  | _, _, .cons a r, h => .cons a (DpAll_app r h)
theorem DpAll_cons (h : DpAll K H vs (d :: ds)) : ∃ x xs, vs = x :: xs ∧ Dp K H x d ∧ DpAll K H xs ds := by
  cases h with
  | cons a r => exact ⟨_, _, rfl, a, r⟩
theorem DpAll_nil (h : DpAll K H vs []) : vs = [] := by cases h; rfl
/-- a tuple of three, looked into -/
theorem Dp_three {a b c : PyData} (h : Dp K H v (.tuple [a, b, c])) : ∃ p x y z, v = .ref p ∧ SqT K H p [x, y, z] ∧ Dp K H x a ∧ Dp K H y b ∧ Dp K H z c := by
  obtain ⟨p, xs, rfl, hs, r⟩ := Dp_tup h
  obtain ⟨x, _, rfl, ha, r⟩ := DpAll_cons r
  obtain ⟨y, _, rfl, hb, r⟩ := DpAll_cons r
  obtain ⟨z, _, rfl, hc, r⟩ := DpAll_cons r
  cases DpAll_nil r
  exact ⟨p, x, y, z, rfl, hs, ha, hb, hc⟩
theorem Dp_two {a b : PyData} (h : Dp K H v (.tuple [a, b])) : ∃ p x y, v = .ref p ∧ SqT K H p [x, y] ∧ Dp K H x a ∧ Dp K H y b := by
  obtain ⟨p, xs, rfl, hs, r⟩ := Dp_tup h
  obtain ⟨x, _, rfl, ha, r⟩ := DpAll_cons r
  obtain ⟨y, _, rfl, hb, r⟩ := DpAll_cons r
  cases DpAll_nil r
  exact ⟨p, x, y, rfl, hs, ha, hb⟩
/-! ### types -/
def tyN : PyData → String
  | .none => "NoneType"
  | .bool _ => "bool"
  | .int _ => "int"
  | .str _ => "str"
  | .list _ => "list"
  | .tuple _ => "tuple"
  | .dict _ => "dict"
theorem tyx_of (h : Dp K H v d) : TyX K H v (.type (tyN d)) := by
  cases h with
  | non => exact .base .non
  | bl b => exact .base (.bl b)
  | int i => exact .base (.int i)
  | str x => exact .base (.str x)
  | lst s _ =>
    rcases s with (s | ⟨o, s⟩) | ⟨o, its, n, hk, hc, _⟩
    · exact .base (.lst s)
    · exact .base (.frz s)
    · exact .kList hk hc
  | tup s _ =>
    rcases s with (s | ⟨o, s⟩) | ⟨o, its, n, hk, hc, _⟩
    · exact .base (.tup s)
    · exact .fTuple s
    · exact .kTuple hk hc
/-- isinstance(x, T) of such data -/
theorem isi_of {T : String} {b : Bool} {Q : VK} (h : Dp K H v d) (e : kitB (tyN d) T = some b) (q : Q (.bl b) H) : rIsi K [v, .ty T] H Q :=
  ⟨v, .ty T, .type (tyN d), .type T, b, rfl, .ty T, tyx_of h, kit_ty e, q⟩
end
/-! ### data without truth values -/
mutual
def plain : PyData → Bool
  | .none => true
  | .int _ => true
  | .str _ => true
  | .list xs => decide (xs.length ≤ 10000) && plains xs
  | .tuple xs => decide (xs.length ≤ 10000) && plains xs
  | _ => false
def plains : List PyData → Bool
  | [] => true
  | x :: r => plain x && plains r
end
mutual
def dep : PyData → Nat
  | .list xs => deps xs + 1
  | .tuple xs => deps xs + 1
  | _ => 1
def deps : List PyData → Nat
  | [] => 0
  | x :: r => max (dep x) (deps r)
end
theorem plains_get : ∀ {ds : List PyData} {i : Nat} {d : PyData}, plains ds = true → ds[i]? = some d → plain d = true
  | [], _, _, _, h => by simp at h
  | x :: r, 0, d, h, e => by simp [plains] at h e; rw [← e]; exact h.1
  | x :: r, i + 1, d, h, e => by simp [plains] at h; exact plains_get (i := i) h.2 (by simpa using e)
theorem deps_get : ∀ {ds : List PyData} {i : Nat} {d : PyData}, ds[i]? = some d → dep d ≤ deps ds
  | [], _, _, h => by simp at h
  | x :: r, 0, d, e => by simp at e; subst e; exact Nat.le_max_left _ _
  | x :: r, i + 1, d, e => Nat.le_trans (deps_get (i := i) (by simpa using e)) (Nat.le_max_right _ _)
theorem dep_pos (d : PyData) : 1 ≤ dep d := by cases d <;> simp [dep]
mutual
def Tr.many : Tr → Nat
  | .leaf _ _ => 1
  | .fork _ bs => manys bs + 1
def manys : List (List Nat × Tr) → Nat
  | [] => 0
  | (_, t) :: r => t.many + manys r
end
theorem Tr.many_pos (t : Tr) : 1 ≤ t.many := by cases t <;> simp [Tr.many]
theorem manys_len : ∀ bs : List (List Nat × Tr), bs.length ≤ manys bs
  | [] => by simp
  | (s, t) :: r => by have := manys_len r; have := t.many_pos; simp [manys]; omega
mutual
theorem Tr.plain : ∀ t : Tr, t.many ≤ 10000 → RT.plain t.toD = true
  | .leaf t n, _ => by simp [Tr.toD, RT.plain, plains]
  | .fork t bs, h => by
    have h1 := manys_len bs
    have h2 : manys bs ≤ 10000 := by simp [Tr.many] at h; omega
    have h3 : (toDs bs).length ≤ 10000 := by rw [toDs_map, List.length_map]; omega
    simp [Tr.toD, RT.plain, plains, toDs_plain bs h2, h3]
theorem toDs_plain : ∀ bs : List (List Nat × Tr), manys bs ≤ 10000 → plains (toDs bs) = true
  | [], _ => rfl
  | (s, t) :: r, h => by
    have h1 : t.many ≤ 10000 := by simp [manys] at h; omega
    have h2 : manys r ≤ 10000 := by simp [manys] at h; omega
    simp [toDs, RT.plain, plains, Tr.plain t h1, toDs_plain r h2]
end
mutual
def Tr.deep : Tr → Nat
  | .leaf _ _ => 1
  | .fork _ bs => deeps bs + 1
def deeps : List (List Nat × Tr) → Nat
  | [] => 0
  | (_, t) :: r => max t.deep (deeps r)
end
theorem Tr.deep_pos (t : Tr) : 1 ≤ t.deep := by cases t <;> simp [Tr.deep]
mutual
/-- the data's depth by the tree's -/
theorem Tr.dep_le : ∀ t : Tr, dep t.toD ≤ 3 * t.deep
  | .leaf t n => by simp [Tr.toD, dep, deps, Tr.deep]
  | .fork t bs => by
    have := toDs_dep bs
    simp [Tr.toD, dep, deps, Tr.deep]
    omega
theorem toDs_dep : ∀ bs : List (List Nat × Tr), deps (toDs bs) ≤ 3 * deeps bs + 1
  | [] => by simp [toDs, deps]
  | (s, t) :: r => by
    have h0 := t.deep_pos
    have h1 := Tr.dep_le t
    have h2 := toDs_dep r
    simp [toDs, deps, dep, deeps]
    omega
end
/-! ### promises -/
def spWhole (K : PySem.W.Frag) : Sp := fun vs H Q _ => ∃ (v : V) (i : Int), vs = [v] ∧ Dp K H v (.int i) ∧ Q (.bl true) H
def spAlike (K : PySem.W.Frag) (n : Nat) : Sp := fun vs H Q _ => ∃ (v u : V) (d : PyData), vs = [v, u] ∧ Dp K H v d ∧ Dp K H u d ∧ plain d = true ∧ dep d ≤ n ∧ ∀ H', Same H H' → Q (.bl true) H'
/-- what is made is the data D, at a new place or none -/
def gives (K : PySem.W.Frag) (H : Hp) (D : PyData) (Q : VK) : Prop := ∀ (v : V) (H' : Hp), Same H H' → Dp K H' v D → Q v H'
def numGo (c : Int) : Nat → Int × Int
  | 0 => (c, 0)
  | k + 1 => (lcg (numGo c k).1, (numGo c k).2 * 10 + lcg (numGo c k).1 / 7 % 10)
def numOf (c : Int) : Int :=
  if c % 5 > 1 then c / 5 % 39 - 19 else
    (if c / 5 % 2 = 0 then 1 else -1) * (numGo c (if c % 5 = 0 then 60 else 1 + c / 10 % 60).toNat).2
def spNum : Sp := fun vs H Q _ => ∃ c : Int, vs = [.int c] ∧ ∀ H', Same H H' → Q (.int (numOf c)) H'
end RT
namespace RT
open PySem PySem.Spec PyProof.Rows L2
def Tr.text : Tr → List Nat
  | .leaf t _ => t
  | .fork t _ => t
/-- the tree of the names with b ahead of each -/
def Tr.ahd (b : List Nat) : Tr → Tr
  | .leaf t n => .leaf (b ++ t) n
  | .fork t bs => .fork (b ++ t) bs
def spAhead (K : PySem.W.Frag) : Sp := fun vs H Q _ => ∃ (v : V) (o : Option Tr) (b : List Nat), vs = [v, .str (st b)] ∧ Dp K H v (oD o) ∧ b.length ≤ 5000 ∧ (∀ t, o = some t → t.text.length ≤ 1000) ∧ gives K H (oD (o.map (Tr.ahd b))) Q
/-- a tree's data, looked into -/
theorem Dp_tree {K : PySem.W.Frag} {H : Hp} {v : V} {t : Tr} (h : Dp K H v t.toD) : ∃ p x z, v = .ref p ∧ SqT K H p [x, .str (st t.text), z] ∧
    ((∃ n, t = .leaf t.text n ∧ x = .str (Str.ofString "leaf") ∧ z = .int n) ∨ ∃ bs, t = .fork t.text bs ∧ x = .str (Str.ofString "fork") ∧ Dp K H z (.tuple (toDs bs))) := by
  cases t with
  | leaf t n =>
    obtain ⟨p, x, y, z, rfl, hs, h1, h2, h3⟩ := Dp_three h
    cases Dp_str h1
    cases Dp_str h2
    cases Dp_int h3
    exact ⟨p, _, _, rfl, hs, .inl ⟨n, rfl, rfl, rfl⟩⟩
  | fork t bs =>
    obtain ⟨p, x, y, z, rfl, hs, h1, h2, h3⟩ := Dp_three h
    cases Dp_str h1
    cases Dp_str h2
    exact ⟨p, _, _, rfl, hs, .inr ⟨bs, rfl, rfl, h3⟩⟩
/-- a pair, a triple laid anew -/
theorem Dp_new {K : PySem.W.Frag} {H : Hp} {p : Addr} {xs : List V} {ds : List PyData} (np : H p = none) (h : DpAll K H xs ds) : Dp K (upd H p (.tup xs)) (.ref p) (.tuple ds) :=
  .tup (SqT.of upd_same) (DpAll_same (same_new np _) h)
end RT
namespace RT
open PySem PySem.Spec PyProof.Rows L2
/-! ### what lists leave alone -/
mutual
def nolist : PyData → Bool
  | .list _ => false
  | .tuple xs => nolists xs
  | _ => true
def nolists : List PyData → Bool
  | [] => true
  | x :: r => nolist x && nolists r
end
/-- all that was tracked is as it was, but for lists -/
def Keep (H H' : Hp) : Prop := ∀ b o, H b = some o → (∃ ys, o = .lst ys) ∨ H' b = some o
theorem keep_of {H H' : Hp} (s : Same H H') : Keep H H' := fun b o e => .inr (s b o e)
theorem Keep.trans {H H1 H2 : Hp} (a : Keep H H1) (b : Keep H1 H2) : Keep H H2 := fun c o e => by
  rcases a c o e with h | h
  · exact .inl h
  · exact b c o h
theorem keep_upd {H : Hp} {L : Addr} {xs : List V} (h : H L = some (.lst xs)) (o : HO) : Keep H (upd H L o) := fun b u e => by
  by_cases hb : b = L
  · subst hb; rw [h] at e; exact .inl ⟨xs, (Option.some.inj e).symm⟩
  · exact .inr (by rw [upd_ne hb]; exact e)
mutual
theorem Dp_keep {K : PySem.W.Frag} {H H' : Hp} (e : Keep H H') : ∀ {v : V} {d : PyData}, nolist d = true → Dp K H v d → Dp K H' v d
  | _, _, _, .non => .non
  | _, _, _, .bl b => .bl b
  | _, _, _, .int i => .int i
  | _, _, _, .str x => .str x
  | _, _, h, .lst s a => by simp [nolist] at h
  | _, _, h, .tup s a => .tup (by
      rcases s with (s | ⟨o, s⟩) | s
      · rcases e _ _ s with ⟨_, z⟩ | z
        · cases z
        · exact .inl (.inl z)
      · rcases e _ _ s with ⟨_, z⟩ | z
        · cases z
        · exact .inl (.inr ⟨o, z⟩)
      · exact .inr s) (DpAll_keep e (by simpa [nolist] using h) a)
theorem DpAll_keep {K : PySem.W.Frag} {H H' : Hp} (e : Keep H H') : ∀ {vs : List V} {ds : List PyData}, nolists ds = true → DpAll K H vs ds → DpAll K H' vs ds
  | _, _, _, .nil => .nil
  | _, _, h, .cons a r => by
    simp only [nolists, Bool.and_eq_true] at h
    have h1 := h
    exact .cons (Dp_keep e h1.1 a) (DpAll_keep e h1.2 r)
end
mutual
theorem Tr.nolist : ∀ t : Tr, RT.nolist t.toD = true
  | .leaf t n => rfl
  | .fork t bs => by simp [Tr.toD, RT.nolist, nolists, toDs_nolist bs]
theorem toDs_nolist : ∀ bs : List (List Nat × Tr), nolists (toDs bs) = true
  | [] => rfl
  | (s, t) :: r => by simp [toDs, RT.nolist, nolists, Tr.nolist t, toDs_nolist r]
end
theorem toDs_app : ∀ a b : List (List Nat × Tr), toDs (a ++ b) = toDs a ++ toDs b
  | [], b => rfl
  | (s, t) :: r, b => by simp [toDs, toDs_app r b]
theorem oD_nolist (o : Option Tr) : RT.nolist (oD o) = true := by
  cases o with
  | none => rfl
  | some t => exact t.nolist
end RT

namespace RT
open PySem PySem.Spec PyProof.Rows L2
def topS (i : Nat) : Stmt := PySem.Challenge.pw_radixtrail_k03_text_put_ahead.main.body.getD i (.Pass ⟨0, 0, 0, 0⟩)
abbrev sahead : Stmt := topS 1
abbrev pahead : List Str := ["tree", "beginning"]
theorem cahead : FnScope ["tree", "beginning", "kind", "text", "held"] ["tree", "beginning"] (defScope sahead) := ⟨rfl, rfl, rfl, by decide +kernel, rfl, by decide +kernel, by decide +kernel⟩
abbrev sLcell_at : Stmt := topS 3
abbrev pLcell_at : List Str := ["_law_script", "_law_k"]
theorem cLcell_at : FnScope ["_law_script", "_law_k"] ["_law_script", "_law_k"] (defScope sLcell_at) := ⟨rfl, rfl, rfl, by decide +kernel, rfl, by decide +kernel, by decide +kernel⟩
abbrev sLwhole : Stmt := topS 4
abbrev pLwhole : List Str := ["_law_told"]
theorem cLwhole : FnScope ["_law_told"] ["_law_told"] (defScope sLwhole) := ⟨rfl, rfl, rfl, by decide +kernel, rfl, by decide +kernel, by decide +kernel⟩
abbrev sLsign_by : Stmt := topS 5
abbrev pLsign_by : List Str := ["_law_cell"]
theorem cLsign_by : FnScope ["_law_cell", "_law_some"] ["_law_cell"] (defScope sLsign_by) := ⟨rfl, rfl, rfl, by decide +kernel, rfl, by decide +kernel, by decide +kernel⟩
abbrev sLword_by : Stmt := topS 6
abbrev pLword_by : List Str := ["_law_cell", "_law_size"]
theorem cLword_by : FnScope ["_law_cell", "_law_size", "_law_made", "_law_number", "_law_k"] ["_law_cell", "_law_size"] (defScope sLword_by) := ⟨rfl, rfl, rfl, by decide +kernel, rfl, by decide +kernel, by decide +kernel⟩
abbrev sLnumber_by : Stmt := topS 7
abbrev pLnumber_by : List Str := ["_law_cell"]
theorem cLnumber_by : FnScope ["_law_cell", "_law_size", "_law_number", "_law_mixed", "_law_k"] ["_law_cell"] (defScope sLnumber_by) := ⟨rfl, rfl, rfl, by decide +kernel, rfl, by decide +kernel, by decide +kernel⟩
abbrev sLalike : Stmt := topS 8
abbrev pLalike : List Str := ["_law_told", "_law_due"]
theorem cLalike : FnScope ["_law_told", "_law_due", "_law_k"] ["_law_told", "_law_due"] (defScope sLalike) := ⟨rfl, rfl, rfl, by decide +kernel, rfl, by decide +kernel, by decide +kernel⟩
abbrev sLknot : Stmt := topS 9
abbrev pLknot : List Str := ["_law_script"]
theorem cLknot : FnScope ["_law_script", "_law_word", "_law_number", "_law_way", "_law_leaves", "_law_k"] ["_law_script"] (defScope sLknot) := ⟨rfl, rfl, rfl, by decide +kernel, rfl, by decide +kernel, by decide +kernel⟩
abbrev slaw : Stmt := topS 10
abbrev plaw : List Str := ["_law_script"]
theorem claw : FnScope ["_law_script", "_law_tree", "_law_size", "_law_start", "_law_told"] ["_law_script"] (defScope slaw) := ⟨rfl, rfl, rfl, by decide +kernel, rfl, by decide +kernel, by decide +kernel⟩
end RT
namespace RT
open PySem PySem.Spec PyProof.Rows L2
section
variable {P : Program} {w : World} {K : PySem.W.Frag} {mg : Str → Option Value} {base : Heap} {f g : Addr} {fd gd : FuncData} {k : Nat}
theorem ok_Lcell_at (F : Fun K "_law_cell_at" "_law_cell_at" sLcell_at f fd) (m_len : mg "len" = none) :
    FnOk P w K mg base CX0 1 f fd pLcell_at (spCell K) := by
  refine F.ok cLcell_at (fun vs H Q E h => ?_) (fun cdv A outer s H vs Q E hr h => ?_)
  · obtain ⟨a, ns, k, rfl, _⟩ := h
    rfl
  obtain ⟨a, ns, k, rfl, hS, h0, q⟩ := h
  refine ⟨_, (pss_cons (ps_if (pt_cmpR op_lt (pv 1) (pe_callB call_len_seq (by rfl) m_len (by decide +kernel) (pa_cons (pv 0) pa_nil)) (nomark _)) (pss_one (ps_ret (pe_ix (r := rIxL K) ix_list (pv 0) (pv 1) (fun _ _ => rfl)))) pss_nil)
    (pss_one (ps_ret pe_int))), ?_⟩
  have hl : (ns.map V.int).length = ns.length := List.length_map _
  refine ⟨_, rfl, _, rfl, a, _, rfl, .inl hS, _, _, rfl, rfl, _, rfl, ?_⟩
  refine ite2 (fun c => ?_) (fun c => ?_)
  · have c' : k < (((ns.map V.int).length : Nat) : Int) := of_decide_eq_true c
    rw [hl] at c'
    have hk : k.toNat < ns.length := by omega
    have hv : atI (ns.map V.int) k = some (.int (cell ns k)) := at_of (j := k.toNat) (by omega) (by
      unfold cell; rw [List.getElem?_map, List.getElem?_eq_getElem hk] <;> rfl)
    exact ⟨_, rfl, _, rfl, a, _, _, _, rfl, rfl, hS, hv, q⟩
  · have c' : ¬ k < (((ns.map V.int).length : Nat) : Int) := of_decide_eq_false (Bool.eq_false_iff.mpr c)
    rw [hl] at c'
    have e : cell ns k = 0 := by unfold cell; rw [List.getElem?_eq_none (by omega)] <;> rfl
    rw [e] at q
    exact q
theorem ok_Lsign_by (F : Fun K "_law_sign_by" "_law_sign_by" sLsign_by f fd) :
    FnOk P w K mg base CX0 1 f fd pLsign_by (spSign) := by
  refine F.ok cLsign_by (fun vs H Q E h => ?_) (fun cdv A outer s H vs Q E hr h => ?_)
  · obtain ⟨c, rfl, _⟩ := h
    rfl
  obtain ⟨c, rfl, q⟩ := h
  refine ⟨_, (pss_cons (ps_set (i := 1) cLsign_by.nd rfl (Or.inl rfl) pe_str)
    (pss_cons (ps_set (i := 1) cLsign_by.nd rfl (Or.inl rfl) (pe_op op_add_str (pv 1) pe_str))
    (pss_one (ps_ret (pe_ix ix_str (pv 1) (pe_op op_mod (pv 0) pe_int) (fun _ _ => rfl)))))), ?_⟩
  refine ⟨_, rfl, _, _, rfl, rfl, (by decide +kernel), ?_⟩
  refine ⟨_, rfl, _, rfl, _, _, rfl, rfl, (by show (0 : Int) < 94; decide), _, _, sgn c, rfl, rfl, (by decide +kernel), ?_, q⟩
  have e : ((Str.ofString " !\"#$&'()*+,-./0123456789:;<=>?@ABCDEFGHIJKLMNOPQRSTUVWXYZ[\\]^_`" ++ Str.ofString "abcdefghijklmnopqrstuvwxyz{|}~" : Str)).cps.toList = signTab := by decide +kernel
  rw [e]
  have hz : c % 94 = (((c % 94).toNat : Nat) : Int) := by omega
  have hq := atI_nat (xs := signTab) (sgn_at c)
  rw [← hz] at hq
  exact hq
theorem ok_Lword_by (F : Fun K "_law_word_by" "_law_word_by" sLword_by f fd)
    (G_Lsign_by : Has P w K mg base "_law_sign_by" pLsign_by 1 (spSign)) (m_range : mg "range" = none) :
    FnOk P w K mg base CX0 2 f fd pLword_by (spWord) := by
  refine F.ok cLword_by (fun vs H Q E h => ?_) (fun cdv A outer s H vs Q E hr h => ?_)
  · obtain ⟨c, n, rfl, _⟩ := h
    rfl
  obtain ⟨c, n, rfl, hn0, hn, q⟩ := h
  refine ⟨_, (pss_cons (ps_set (i := 2) cLword_by.nd rfl (Or.inl rfl) pe_str)
    (pss_cons (ps_set (i := 3) cLword_by.nd rfl (Or.inl rfl) (pv 0))
    (pss_cons (ps_for PassesOwn.never rfl (pi_range1 (by rfl) m_range (pa_cons (pv 1) pa_nil)) (pg_name (i := 4) cLword_by.nd rfl (Or.inl rfl)) (pss_cons (ps_set (i := 3) cLword_by.nd rfl (Or.inl rfl) (pe_op op_mod (pe_op op_add (pe_op op_mul (pv 3) pe_int) pe_int) pe_int))
    (pss_one (ps_set (i := 2) cLword_by.nd rfl (Or.inl rfl) (pe_op op_add_str (pv 2) (pe_has G_Lsign_by hr (by omega) (pa_cons (pe_op op_add pe_int (pe_op op_mod (pe_op op_fdiv (pv 3) pe_int) (pe_ix (r := rIxL K) ix_list (pe_lst (pa_cons pe_int (pa_cons pe_int pa_nil))) (pe_op op_mod (pv 0) pe_int) (fun _ _ => rfl)))) pa_nil)))))))
    (pss_one (ps_ret (pv 2)))))), ?_⟩
  refine ⟨_, rfl, _, rfl, n, rfl, by omega, by omega, for_range (lo := 0) (n := n.toNat) (fun i σ H' => ∃ y4, σ = [some (.int c), some (.int n), some (.str (st (wordGo c i).2)), some (.int (wordGo c i).1), y4] ∧ Same H H')
    ⟨none, rfl, Same.refl H⟩ (fun i σ H1 hi h1 => ?_) (fun σ H1 h1 => ?_)⟩
  · obtain ⟨y4, rfl, s1⟩ := h1
    refine ⟨_, rfl, _, _, rfl, rfl, .inr ⟨by decide, by decide⟩, _, _, rfl, rfl, _, _, rfl, rfl, (by show (0 : Int) < 2147483647; decide), ?_⟩
    refine ⟨_, rfl, _, rfl, _, _, rfl, rfl, ⟨by decide, by decide⟩, (by show 2 ≤ sizeLine; decide), fun p hp => ?_⟩
    have hz : c % 2 = 0 ∨ c % 2 = 1 := by omega
    refine ⟨_, rfl, _, _, rfl, rfl, (by show (0 : Int) < 2; decide), p, _, _, .int (if c % 2 = 0 then 2 else 94), rfl, rfl, SqL.of upd_same, ?_, _, _, rfl, rfl, ?_, _, _, rfl, rfl, ?_⟩
    · rcases hz with z | z <;> rw [z] <;> rfl
    · show (0 : Int) < (if c % 2 = 0 then 2 else 94)
      split <;> decide
    refine ⟨_, rfl, _, _, rfl, rfl, ?_, ?_⟩
    · rw [st_len, st_len, wordGo_len]
      exact smallZ (by simp; omega)
    · refine ⟨some (.int (0 + i)), ?_, s1.trans (same_new hp _)⟩
      rw [st_add]
      rfl
  · obtain ⟨y4, rfl, s1⟩ := h1
    exact ⟨_, rfl, q _ s1⟩
theorem ok_Lwhole (F : Fun K "_law_whole" "_law_whole" sLwhole f fd) (m_isinstance : mg "isinstance" = none) (m_int : mg "int" = none) (m_bool : mg "bool" = none) :
    FnOk P w K mg base CX0 1 f fd pLwhole (spWhole K) := by
  refine F.ok cLwhole (fun vs H Q E h => ?_) (fun cdv A outer s H vs Q E hr h => ?_)
  · obtain ⟨v, i, rfl, _⟩ := h
    rfl
  obtain ⟨v, i, rfl, hv, q⟩ := h
  refine ⟨_, (pss_one (ps_ret (pe_and (pe_callB call_isi (by rfl) m_isinstance (by decide +kernel) (pa_cons (pv 0) (pa_cons (pe_bltn rfl m_int (by decide +kernel) (v := .ty "int") rfl) pa_nil))) (pe_one (pe_not (pe_callB call_isi (by rfl) m_isinstance (by decide +kernel) (pa_cons (pv 0) (pa_cons (pe_bltn rfl m_bool (by decide +kernel) (v := .ty "bool") rfl) pa_nil)))))))), ?_⟩
  refine ⟨_, rfl, _, _, _, _, true, rfl, .ty _, tyx_of hv, kit_ty (by simp only [tyN]; decide +kernel), ⟨true, rfl, iteT ?_⟩⟩
  exact ⟨_, rfl, _, _, _, _, false, rfl, .ty _, tyx_of hv, kit_ty (by simp only [tyN]; decide +kernel), ⟨false, rfl, q⟩⟩
theorem ok_Lnumber_by (F : Fun K "_law_number_by" "_law_number_by" sLnumber_by f fd) (m_range : mg "range" = none) :
    FnOk P w K mg base CX0 1 f fd pLnumber_by (spNum) := by
  refine F.ok cLnumber_by (fun vs H Q E h => ?_) (fun cdv A outer s H vs Q E hr h => ?_)
  · obtain ⟨c, rfl, _⟩ := h
    rfl
  obtain ⟨c, rfl, q⟩ := h
  refine ⟨_, (pss_cons (ps_if (pt_cmpR op_gt (pe_op op_mod (pv 0) pe_int) pe_int (nomark _)) (pss_one (ps_ret (pe_op op_sub (pe_op op_mod (pe_op op_fdiv (pv 0) pe_int) pe_int) pe_int))) pss_nil)
    (pss_cons (ps_set (i := 1) cLnumber_by.nd rfl (Or.inl rfl) (pe_ix (r := rIxL K) ix_list (pe_lst (pa_cons pe_int (pa_cons (pe_op op_add pe_int (pe_op op_mod (pe_op op_fdiv (pv 0) pe_int) pe_int)) pa_nil))) (pe_op op_mod (pv 0) pe_int) (fun _ _ => rfl)))
    (pss_cons (ps_set (i := 2) cLnumber_by.nd rfl (Or.inl rfl) pe_int)
    (pss_cons (ps_set (i := 3) cLnumber_by.nd rfl (Or.inl rfl) (pv 0))
    (pss_cons (ps_for PassesOwn.never rfl (pi_range1 (by rfl) m_range (pa_cons (pv 1) pa_nil)) (pg_name (i := 4) cLnumber_by.nd rfl (Or.inl rfl)) (pss_cons (ps_set (i := 3) cLnumber_by.nd rfl (Or.inl rfl) (pe_op op_mod (pe_op op_add (pe_op op_mul (pv 3) pe_int) pe_int) pe_int))
    (pss_one (ps_set (i := 2) cLnumber_by.nd rfl (Or.inl rfl) (pe_op op_add (pe_op op_mul (pv 2) pe_int) (pe_op op_mod (pe_op op_fdiv (pv 3) pe_int) pe_int))))))
    (pss_one (ps_ret (pe_op op_mul (pe_ix (r := rIxL K) ix_list (pe_lst (pa_cons pe_int (pa_cons (pe_un un_neg pe_int) pa_nil))) (pe_op op_mod (pe_op op_fdiv (pv 0) pe_int) pe_int) (fun _ _ => rfl)) (pv 2))))))))), ?_⟩
  refine ⟨_, rfl, _, _, rfl, rfl, (by show (0 : Int) < 5; decide), _, _, rfl, rfl, _, rfl, ite2 (fun z => ?_) (fun z => ?_)⟩
  · have z' : c % 5 > 1 := of_decide_eq_true z
    refine ⟨_, rfl, _, _, rfl, rfl, ⟨by decide, by decide⟩, _, _, rfl, rfl, (by show (0 : Int) < 39; decide), _, _, rfl, rfl, ?_⟩
    have e : numOf c = c / 5 % 39 - 19 := by unfold numOf; rw [if_pos z']
    have q' := q H (Same.refl H)
    rw [e] at q'
    exact q'
  · have z' : ¬ c % 5 > 1 := of_decide_eq_false (Bool.eq_false_iff.mpr z)
    have hz : c % 5 = 0 ∨ c % 5 = 1 := by omega
    refine ⟨_, rfl, _, _, rfl, rfl, ⟨by decide, by decide⟩, _, _, rfl, rfl, (by show (0 : Int) < 60; decide), _, _, rfl, rfl, (by show 2 ≤ sizeLine; decide), fun p hp => ?_⟩
    refine ⟨_, rfl, _, _, rfl, rfl, (by show (0 : Int) < 5; decide), p, _, _, .int (if c % 5 = 0 then 60 else 1 + c / 10 % 60), rfl, rfl, SqL.of upd_same, ?_, ?_⟩
    · rcases hz with z | z <;> rw [z] <;> rfl
    generalize hn : (if c % 5 = 0 then (60 : Int) else 1 + c / 10 % 60) = n
    have hn' : 0 ≤ n ∧ n ≤ 60 := by
      rw [← hn]; split
      · omega
      · have h1 : 0 ≤ c / 10 % 60 := by omega
        have h2 : c / 10 % 60 < 60 := by omega
        omega
    refine ⟨_, rfl, ?_⟩
    refine ⟨_, rfl, n, rfl, by omega, by omega, for_range (lo := 0) (n := n.toNat) (fun i σ H' => ∃ y4, σ = [some (.int c), some (.int n), some (.int (numGo c i).2), some (.int (numGo c i).1), y4] ∧ Same H H')
      ⟨none, rfl, same_new hp _⟩ (fun i σ H1 hi h1 => ?_) (fun σ H1 h1 => ?_)⟩
    · obtain ⟨y4, rfl, s1⟩ := h1
      refine ⟨_, rfl, _, _, rfl, rfl, .inr ⟨by decide, by decide⟩, _, _, rfl, rfl, _, _, rfl, rfl, (by show (0 : Int) < 2147483647; decide), ?_⟩
      refine ⟨_, rfl, _, _, rfl, rfl, .inr ⟨by decide, by decide⟩, _, rfl, _, _, rfl, rfl, ⟨by decide, by decide⟩, _, _, rfl, rfl, (by show (0 : Int) < 10; decide), _, _, rfl, rfl, ?_⟩
      exact ⟨_, rfl, s1⟩
    · obtain ⟨y4, rfl, s1⟩ := h1
      have hz2 : c / 5 % 2 = 0 ∨ c / 5 % 2 = 1 := by omega
      refine ⟨_, rfl, (by show 2 ≤ sizeLine; decide), fun p2 hp2 => ?_⟩
      refine ⟨_, rfl, _, _, rfl, rfl, ⟨by decide, by decide⟩, _, _, rfl, rfl, (by show (0 : Int) < 2; decide), p2, _, _, .int (if c / 5 % 2 = 0 then 1 else -1), rfl, rfl, SqL.of upd_same, ?_, ?_⟩
      · rcases hz2 with z | z <;> rw [z] <;> rfl
      refine ⟨_, rfl, _, _, rfl, rfl, .inl (by split <;> decide), ?_⟩
      have e : numOf c = (if c / 5 % 2 = 0 then 1 else -1) * (numGo c n.toNat).2 := by unfold numOf; rw [if_neg z', hn]
      have q' := q _ (s1.trans (same_new hp2 (.lst [.int 1, .int (-1)])))
      rw [e] at q'
      exact q'
theorem ok_Lalike0 : FnOk P w K mg base CX0 0 f fd pLalike (spAlike K 0) := by
  have no : ∀ vs H Q E, ¬ spAlike K 0 vs H Q E := fun vs H Q E h => by
    obtain ⟨v, u, d, _, _, _, _, h5, _⟩ := h
    have := dep_pos d
    omega
  exact ⟨fun vs H Q E h => absurd h (no vs H Q E), fun A outer s H args us vs Q E _ _ _ _ h => absurd h (no vs H Q E)⟩
theorem ok_Lalike1 {n : Nat} (F : Fun K "_law_alike" "_law_alike" sLalike f fd) (G_Lalike : Has P w K mg base "_law_alike" pLalike (n + 1) (spAlike K n)) (G_Lwhole : Has P w K mg base "_law_whole" pLwhole 1 (spWhole K))
    (m_isinstance : mg "isinstance" = none) (m_str : mg "str" = none) (m_int : mg "int" = none) (m_tuple : mg "tuple" = none) (m_list : mg "list" = none) (m_len : mg "len" = none) (m_range : mg "range" = none) :
    FnOk P w K mg base CX0 (n + 2) f fd pLalike (spAlike K (n + 1)) := by
  refine F.ok cLalike (fun vs H Q E h => ?_) (fun cdv A outer s H vs Q E hr h => ?_)
  · obtain ⟨v, u, d, rfl, _⟩ := h
    rfl
  obtain ⟨v, u, d, rfl, hv, hu, hp, hd, q⟩ := h
  refine ⟨_, (pss_cons (ps_if (pt_cmpR op_isN (pv 1) pe_non (nomark _)) (pss_one (ps_ret (pe_cmpR op_isN (pv 0) pe_non (nomark _)))) pss_nil)
    (pss_cons (ps_if (pt_val (pe_callB call_isi (by rfl) m_isinstance (by decide +kernel) (pa_cons (pv 1) (pa_cons (pe_bltn rfl m_str (by decide +kernel) (v := .ty "str") rfl) pa_nil)))) (pss_one (ps_ret (pe_and (pe_callB call_isi (by rfl) m_isinstance (by decide +kernel) (pa_cons (pv 0) (pa_cons (pe_bltn rfl m_str (by decide +kernel) (v := .ty "str") rfl) pa_nil))) (pe_one (pe_cmpR op_eq (pv 0) (pv 1) (nomark _)))))) pss_nil)
    (pss_cons (ps_if (pt_val (pe_callB call_isi (by rfl) m_isinstance (by decide +kernel) (pa_cons (pv 1) (pa_cons (pe_bltn rfl m_int (by decide +kernel) (v := .ty "int") rfl) pa_nil)))) (pss_one (ps_ret (pe_and (pe_has G_Lwhole hr (by omega) (pa_cons (pv 0) pa_nil)) (pe_one (pe_cmpR op_eq (pv 0) (pv 1) (nomark _)))))) pss_nil)
    (pss_cons (ps_if (PW.pt (pw_and (pt_val (pe_callB call_isi (by rfl) m_isinstance (by decide +kernel) (pa_cons (pv 1) (pa_cons (pe_bltn rfl m_tuple (by decide +kernel) (v := .ty "tuple") rfl) pa_nil)))) (pw_and1 (pt_not (pt_val (pe_callB call_isi (by rfl) m_isinstance (by decide +kernel) (pa_cons (pv 0) (pa_cons (pe_bltn rfl m_tuple (by decide +kernel) (v := .ty "tuple") rfl) pa_nil)))))))) (pss_one (ps_ret pe_bl)) pss_nil)
    (pss_cons (ps_if (PW.pt (pw_and (pt_val (pe_callB call_isi (by rfl) m_isinstance (by decide +kernel) (pa_cons (pv 1) (pa_cons (pe_bltn rfl m_list (by decide +kernel) (v := .ty "list") rfl) pa_nil)))) (pw_and1 (pt_not (pt_val (pe_callB call_isi (by rfl) m_isinstance (by decide +kernel) (pa_cons (pv 0) (pa_cons (pe_bltn rfl m_list (by decide +kernel) (v := .ty "list") rfl) pa_nil)))))))) (pss_one (ps_ret pe_bl)) pss_nil)
    (pss_cons (ps_if (pt_cmpR op_ne (pe_callB call_len_seq (by rfl) m_len (by decide +kernel) (pa_cons (pv 0) pa_nil)) (pe_callB call_len_seq (by rfl) m_len (by decide +kernel) (pa_cons (pv 1) pa_nil)) (nomark _)) (pss_one (ps_ret pe_bl)) pss_nil)
    (pss_cons (ps_for PassesOwn.never rfl (pi_range1 (by rfl) m_range (pa_cons (pe_callB call_len_seq (by rfl) m_len (by decide +kernel) (pa_cons (pv 1) pa_nil)) pa_nil)) (pg_name (i := 2) cLalike.nd rfl (Or.inl rfl)) (pss_one (ps_if (pt_not (pt_val (pe_has G_Lalike hr (by omega) (pa_cons (pe_ix (r := rIx K) ix_seq (pv 0) (pv 2) (fun _ _ => rfl)) (pa_cons (pe_ix (r := rIx K) ix_seq (pv 1) (pv 2) (fun _ _ => rfl)) pa_nil))))) (pss_one (ps_ret pe_bl)) pss_nil)))
    (pss_one (ps_ret pe_bl))))))))), ?_⟩
  cases d with
  | bool b => exact absurd hp (by simp [plain])
  | dict b => exact absurd hp (by simp [plain])
  | none =>
    cases Dp_non hv
    cases Dp_non hu
    exact ⟨_, rfl, rfl, _, rfl, iteT ⟨_, rfl, rfl, q H (Same.refl H)⟩⟩
  | str x =>
    cases Dp_str hv
    cases Dp_str hu
    refine ⟨_, rfl, rfl, _, rfl, iteF ?_⟩
    refine ⟨_, rfl, _, _, _, _, true, rfl, .ty _, tyx_of hu, kit_ty (by simp only [tyN]; decide +kernel), ⟨true, rfl, iteT ?_⟩⟩
    refine ⟨_, rfl, _, _, _, _, true, rfl, .ty _, tyx_of hv, kit_ty (by simp only [tyN]; decide +kernel), ⟨true, rfl, iteT ?_⟩⟩
    refine ⟨_, rfl, _, rfl, rfl, ?_⟩
    rw [decide_eq_true rfl]
    exact q H (Same.refl H)
  | int x =>
    cases Dp_int hv
    cases Dp_int hu
    refine ⟨_, rfl, rfl, _, rfl, iteF ?_⟩
    refine ⟨_, rfl, _, _, _, _, false, rfl, .ty _, tyx_of hu, kit_ty (by simp only [tyN]; decide +kernel), ⟨false, rfl, iteF ?_⟩⟩
    refine ⟨_, rfl, _, _, _, _, true, rfl, .ty _, tyx_of hu, kit_ty (by simp only [tyN]; decide +kernel), ⟨true, rfl, iteT ?_⟩⟩
    refine ⟨_, rfl, _, x, rfl, hv, true, rfl, iteT ?_⟩
    refine ⟨_, rfl, _, rfl, rfl, ?_⟩
    rw [decide_eq_true rfl]
    exact q H (Same.refl H)
  | list ds =>
    obtain ⟨a, xs, rfl, ha, ra⟩ := Dp_lst hv
    obtain ⟨b, ys, rfl, hb, rb⟩ := Dp_lst hu
    have la := DpAll_len ra
    have lb := DpAll_len rb
    have hp' : ds.length ≤ 10000 ∧ plains ds = true := by simpa [plain] using hp
    have hd' : deps ds ≤ n := by simp [dep] at hd; omega
    refine ⟨_, rfl, rfl, _, rfl, iteF ?_⟩
    refine ⟨_, rfl, _, _, _, _, false, rfl, .ty _, tyx_of hu, kit_ty (by simp only [tyN]; decide +kernel), ⟨false, rfl, iteF ?_⟩⟩
    refine ⟨_, rfl, _, _, _, _, false, rfl, .ty _, tyx_of hu, kit_ty (by simp only [tyN]; decide +kernel), ⟨false, rfl, iteF ?_⟩⟩
    refine ⟨_, rfl, _, _, _, _, false, rfl, .ty _, tyx_of hu, kit_ty (by simp only [tyN]; decide +kernel), ⟨false, rfl, iteF (iteF ?_)⟩⟩
    refine ⟨_, rfl, _, _, _, _, true, rfl, .ty _, tyx_of hu, kit_ty (by simp only [tyN]; decide +kernel), ⟨true, rfl, iteT ⟨_, rfl, _, _, _, _, true, rfl, .ty _, tyx_of hv, kit_ty (by simp only [tyN]; decide +kernel), ⟨true, rfl, iteF ?_⟩⟩⟩⟩
    refine ⟨_, rfl, _, _, rfl, .inl ha, _, rfl, _, _, rfl, .inl hb, rfl, _, rfl, iteNS (by rw [la, lb]) ?_⟩
    refine ⟨_, rfl, _, _, rfl, .inl hb, _, rfl, by omega, by omega, for_range (lo := 0) (n := ((ys.length : Nat) : Int).toNat) (fun i σ H' => ∃ y2, σ = [some (.ref a), some (.ref b), y2] ∧ Same H H') ⟨none, rfl, Same.refl H⟩ (fun i σ H1 hi h1 => ?_) (fun σ H1 h1 => ?_)⟩
    · obtain ⟨y2, rfl, s1⟩ := h1
      have hids : i < ds.length := by omega
      obtain ⟨v1, e1, g1⟩ := DpAll_get ra (List.getElem?_eq_getElem hids)
      obtain ⟨v2, e2, g2⟩ := DpAll_get rb (List.getElem?_eq_getElem hids)
      have p1 := plains_get hp'.2 (List.getElem?_eq_getElem hids)
      have p2 : dep ds[i] ≤ n := Nat.le_trans (deps_get (List.getElem?_eq_getElem hids)) hd'
      have ez : (0 : Int) + (i : Int) = ((i : Nat) : Int) := by omega
      refine ⟨_, rfl, _, rfl, .inl ⟨a, xs, _, v1, rfl, rfl, Same.seq s1 ha, by rw [ez]; exact atI_nat e1, ?_⟩⟩
      refine ⟨_, rfl, _, rfl, .inl ⟨b, ys, _, v2, rfl, rfl, Same.seq s1 hb, by rw [ez]; exact atI_nat e2, ?_⟩⟩
      refine ⟨v1, v2, ds[i], rfl, Dp_same s1 g1, Dp_same s1 g2, p1, p2, fun H2 s2 => ⟨_, rfl, iteF ⟨_, rfl, s1.trans s2⟩⟩⟩
    · obtain ⟨y2, rfl, s1⟩ := h1
      exact q _ s1
  | tuple ds =>
    obtain ⟨a, xs, rfl, ha, ra⟩ := Dp_tup hv
    obtain ⟨b, ys, rfl, hb, rb⟩ := Dp_tup hu
    have la := DpAll_len ra
    have lb := DpAll_len rb
    have hp' : ds.length ≤ 10000 ∧ plains ds = true := by simpa [plain] using hp
    have hd' : deps ds ≤ n := by simp [dep] at hd; omega
    refine ⟨_, rfl, rfl, _, rfl, iteF ?_⟩
    refine ⟨_, rfl, _, _, _, _, false, rfl, .ty _, tyx_of hu, kit_ty (by simp only [tyN]; decide +kernel), ⟨false, rfl, iteF ?_⟩⟩
    refine ⟨_, rfl, _, _, _, _, false, rfl, .ty _, tyx_of hu, kit_ty (by simp only [tyN]; decide +kernel), ⟨false, rfl, iteF ?_⟩⟩
    refine ⟨_, rfl, _, _, _, _, true, rfl, .ty _, tyx_of hu, kit_ty (by simp only [tyN]; decide +kernel), ⟨true, rfl, iteT ⟨_, rfl, _, _, _, _, true, rfl, .ty _, tyx_of hv, kit_ty (by simp only [tyN]; decide +kernel), ⟨true, rfl, iteF ?_⟩⟩⟩⟩
    refine ⟨_, rfl, _, _, _, _, false, rfl, .ty _, tyx_of hu, kit_ty (by simp only [tyN]; decide +kernel), ⟨false, rfl, iteF (iteF ?_)⟩⟩
    refine ⟨_, rfl, _, _, rfl, .inr ha, _, rfl, _, _, rfl, .inr hb, rfl, _, rfl, iteNS (by rw [la, lb]) ?_⟩
    refine ⟨_, rfl, _, _, rfl, .inr hb, _, rfl, by omega, by omega, for_range (lo := 0) (n := ((ys.length : Nat) : Int).toNat) (fun i σ H' => ∃ y2, σ = [some (.ref a), some (.ref b), y2] ∧ Same H H') ⟨none, rfl, Same.refl H⟩ (fun i σ H1 hi h1 => ?_) (fun σ H1 h1 => ?_)⟩
    · obtain ⟨y2, rfl, s1⟩ := h1
      have hids : i < ds.length := by omega
      obtain ⟨v1, e1, g1⟩ := DpAll_get ra (List.getElem?_eq_getElem hids)
      obtain ⟨v2, e2, g2⟩ := DpAll_get rb (List.getElem?_eq_getElem hids)
      have p1 := plains_get hp'.2 (List.getElem?_eq_getElem hids)
      have p2 : dep ds[i] ≤ n := Nat.le_trans (deps_get (List.getElem?_eq_getElem hids)) hd'
      have ez : (0 : Int) + (i : Int) = ((i : Nat) : Int) := by omega
      refine ⟨_, rfl, _, rfl, .inr (.inl ⟨a, xs, _, v1, rfl, rfl, sameT s1 ha, by rw [ez]; exact atI_nat e1, ?_⟩)⟩
      refine ⟨_, rfl, _, rfl, .inr (.inl ⟨b, ys, _, v2, rfl, rfl, sameT s1 hb, by rw [ez]; exact atI_nat e2, ?_⟩)⟩
      refine ⟨v1, v2, ds[i], rfl, Dp_same s1 g1, Dp_same s1 g2, p1, p2, fun H2 s2 => ⟨_, rfl, iteF ⟨_, rfl, s1.trans s2⟩⟩⟩
    · obtain ⟨y2, rfl, s1⟩ := h1
      exact q _ s1
theorem has_Lalike (D : DefAt K mg "_law_alike" sLalike f fd) (b : Binds K fd pLalike []) (G_Lwhole : Has P w K mg base "_law_whole" pLwhole 1 (spWhole K)) (m_isinstance : mg "isinstance" = none) (m_str : mg "str" = none) (m_int : mg "int" = none) (m_tuple : mg "tuple" = none) (m_list : mg "list" = none) (m_len : mg "len" = none) (m_range : mg "range" = none) :
    ∀ n, Has P w K mg base "_law_alike" pLalike (n + 1) (spAlike K n)
  | 0 => D.has b (ok_Lalike0.mono (Nat.zero_le _))
  | n + 1 => D.has b (ok_Lalike1 D.1 (has_Lalike D b G_Lwhole m_isinstance m_str m_int m_tuple m_list m_len m_range n) G_Lwhole m_isinstance m_str m_int m_tuple m_list m_len m_range)
theorem ok_ahead (F : Fun K "ahead" "ahead" sahead f fd) :
    FnOk P w K mg base CX0 1 f fd pahead (spAhead K) := by
  refine F.ok cahead (fun vs H Q E h => ?_) (fun cdv A outer s H vs Q E hr h => ?_)
  · obtain ⟨v, o, b, rfl, _⟩ := h
    rfl
  obtain ⟨v, o, b, rfl, hv, hb, ht, q⟩ := h
  refine ⟨_, (pss_cons (ps_if (pt_cmpR op_isN (pv 0) pe_non (nomark _)) (pss_one (ps_ret pe_non)) pss_nil)
    (pss_cons (ps_asg (pv 0) (pg_tup (by rfl) (pgs_cons (pg_name (i := 2) cahead.nd rfl (Or.inl rfl)) (pgs_cons (pg_name (i := 3) cahead.nd rfl (Or.inl rfl)) (pgs_cons (pg_name (i := 4) cahead.nd rfl (Or.inl rfl)) pgs_nil)))))
    (pss_one (ps_ret (pe_tup (pa_cons (pv 2) (pa_cons (pe_op op_add_str (pv 1) (pv 3)) (pa_cons (pv 4) pa_nil)))))))), ?_⟩
  cases o with
  | none =>
    cases Dp_non hv
    exact ⟨_, rfl, rfl, _, rfl, iteT (q .non H (Same.refl H) .non)⟩
  | some t =>
    have hl := ht t rfl
    obtain ⟨p, x, z, rfl, hs, hc⟩ := Dp_tree hv
    refine ⟨_, rfl, rfl, _, rfl, iteF ?_⟩
    refine ⟨_, rfl, p, _, rfl, hs, rfl, _, _, rfl, _, _, rfl, _, _, rfl, rfl, ?_⟩
    refine ⟨_, rfl, _, rfl, _, rfl, _, _, rfl, rfl, ?_, _, rfl, (by show 3 ≤ sizeLine; decide), fun r hr' => ?_⟩
    · rw [st_len, st_len]; exact smallZ (by omega)
    rw [st_add]
    refine q _ _ (same_new hr' _) ?_
    rcases hc with ⟨n, e, rfl, rfl⟩ | ⟨bs, e, rfl, hz⟩
    · rw [e]
      exact Dp_new hr' (.cons (.str _) (.cons (.str _) (.cons (.int _) .nil)))
    · rw [e]
      exact Dp_new hr' (.cons (.str _) (.cons (.str _) (.cons hz .nil)))
def leafAt (ns : List Int) (t : List Nat) (j : Nat) : List Nat × Tr := ([97 + j], .leaf t (numOf (cell ns (3 + (1 + (j : Int))))))
def knotOf (ns : List Int) : Option Tr :=
  if cell ns 0 % 6 = 0 then none else
    if cell ns 0 % 6 = 1 then some (.leaf (word (cell ns 1) (cell ns 2 % 7)) (numOf (cell ns 3))) else
      some (.fork (word (cell ns 1) (cell ns 2 % 7)) (([], .leaf [] (numOf (cell ns 3))) :: (List.range (cell ns 0 % 6 - 1).toNat).map (leafAt ns (word (cell ns 1) (cell ns 2 % 7)))))
def spKnot (K : PySem.W.Frag) : Sp := fun vs H Q _ => ∃ (a : Addr) (ns : List Int), vs = [.ref a] ∧ SqL K H a (ns.map V.int) ∧ gives K H (oD (knotOf ns)) Q
theorem ok_Lknot (F : Fun K "_law_knot" "_law_knot" sLknot f fd)
    (G_Lword_by : Has P w K mg base "_law_word_by" pLword_by 2 (spWord))
    (G_Lnumber_by : Has P w K mg base "_law_number_by" pLnumber_by 1 (spNum))
    (G_Lcell_at : Has P w K mg base "_law_cell_at" pLcell_at 1 (spCell K)) (m_range : mg "range" = none) (m_tuple : mg "tuple" = none) :
    FnOk P w K mg base CX0 3 f fd pLknot (spKnot K) := by
  refine F.ok cLknot (fun vs H Q E h => ?_) (fun cdv A outer s H vs Q E hr h => ?_)
  · obtain ⟨a, ns, rfl, _⟩ := h
    rfl
  obtain ⟨a, ns, rfl, hS, q⟩ := h
  refine ⟨_, (pss_cons (ps_set (i := 1) cLknot.nd rfl (Or.inl rfl) (pe_has G_Lword_by hr (by omega) (pa_cons (pe_has G_Lcell_at hr (by omega) (pa_cons (pv 0) (pa_cons pe_int pa_nil))) (pa_cons (pe_op op_mod (pe_has G_Lcell_at hr (by omega) (pa_cons (pv 0) (pa_cons pe_int pa_nil))) pe_int) pa_nil))))
    (pss_cons (ps_set (i := 2) cLknot.nd rfl (Or.inl rfl) (pe_has G_Lnumber_by hr (by omega) (pa_cons (pe_has G_Lcell_at hr (by omega) (pa_cons (pv 0) (pa_cons pe_int pa_nil))) pa_nil)))
    (pss_cons (ps_set (i := 3) cLknot.nd rfl (Or.inl rfl) (pe_op op_mod (pe_has G_Lcell_at hr (by omega) (pa_cons (pv 0) (pa_cons pe_int pa_nil))) pe_int))
    (pss_cons (ps_if (pt_cmpR op_eq (pv 3) pe_int (nomark _)) (pss_one (ps_ret pe_non)) pss_nil)
    (pss_cons (ps_if (pt_cmpR op_eq (pv 3) pe_int (nomark _)) (pss_one (ps_ret (pe_tup (pa_cons pe_str (pa_cons (pv 1) (pa_cons (pv 2) pa_nil)))))) pss_nil)
    (pss_cons (ps_set (i := 4) cLknot.nd rfl (Or.inl rfl) (pe_lst (pa_cons (pe_tup (pa_cons pe_str (pa_cons (pe_tup (pa_cons pe_str (pa_cons pe_str (pa_cons (pv 2) pa_nil)))) pa_nil))) pa_nil)))
    (pss_cons (ps_for PassesOwn.never rfl (pi_range2 (by rfl) m_range (pa_cons pe_int (pa_cons (pv 3) pa_nil))) (pg_name (i := 5) cLknot.nd rfl (Or.inl rfl)) (pss_one (ps_expr (pe_bm PySem.F.plainAttrs_list PySem.F.slot_list_append PySem.F.type_list_append mt_append (pv 4) (pa_cons (pe_tup (pa_cons (pe_ix (r := rIxL K) ix_list (pe_lst (pa_cons pe_str (pa_cons pe_str (pa_cons pe_str (pa_cons pe_str pa_nil))))) (pe_op op_sub (pv 5) pe_int) (fun _ _ => rfl)) (pa_cons (pe_tup (pa_cons pe_str (pa_cons (pv 1) (pa_cons (pe_has G_Lnumber_by hr (by omega) (pa_cons (pe_has G_Lcell_at hr (by omega) (pa_cons (pv 0) (pa_cons (pe_op op_add pe_int (pv 5)) pa_nil))) pa_nil)) pa_nil)))) pa_nil))) pa_nil)))))
    (pss_one (ps_ret (pe_tup (pa_cons pe_str (pa_cons (pv 1) (pa_cons (pe_callTy call_tuple_of (by rfl) m_tuple (by decide +kernel) (pa_cons (pv 4) pa_nil)) pa_nil))))))))))))), ?_⟩
  have wb : 0 ≤ cell ns 2 % 7 ∧ cell ns 2 % 7 < 7 := by omega
  have vb : 0 ≤ cell ns 0 % 6 ∧ cell ns 0 % 6 < 6 := by omega
  refine ⟨_, rfl, ⟨a, ns, _, rfl, hS, by decide, _, rfl, ⟨a, ns, _, rfl, hS, by decide, _, _, rfl, rfl, (by show (0 : Int) < 7; decide), _, _, rfl, by omega, by omega, fun H1 s1 => ?_⟩⟩⟩
  have hS1 := s1.seq hS
  refine ⟨_, rfl, ⟨a, ns, _, rfl, hS1, by decide, _, rfl, fun H2 s2 => ?_⟩⟩
  have hS2 := s2.seq hS1
  refine ⟨_, rfl, ⟨a, ns, _, rfl, hS2, by decide, _, _, rfl, rfl, (by show (0 : Int) < 6; decide), ?_⟩⟩
  have s12 := s1.trans s2
  refine ⟨_, rfl, rfl, _, rfl, ite2 (fun z => ?_) (fun z => ?_)⟩
  · have z' : cell ns 0 % 6 = 0 := V.int.inj (of_decide_eq_true z)
    refine q _ _ s12 ?_
    unfold knotOf; rw [if_pos z']; exact .non
  have z0 : ¬ cell ns 0 % 6 = 0 := fun e => z (decide_eq_true (congrArg V.int e))
  refine ⟨_, rfl, rfl, _, rfl, ite2 (fun z => ?_) (fun z => ?_)⟩
  · have z' : cell ns 0 % 6 = 1 := V.int.inj (of_decide_eq_true z)
    refine ⟨_, rfl, _, rfl, (by show 3 ≤ sizeLine; decide), fun p hp => q _ _ (s12.trans (same_new hp _)) ?_⟩
    unfold knotOf; rw [if_neg z0, if_pos z']
    exact Dp_new hp (.cons (.str _) (.cons (.str _) (.cons (.int _) .nil)))
  have z1 : ¬ cell ns 0 % 6 = 1 := fun e => z (decide_eq_true (congrArg V.int e))
  have ek : knotOf ns = some (.fork (word (cell ns 1) (cell ns 2 % 7)) (([], .leaf [] (numOf (cell ns 3))) :: (List.range (cell ns 0 % 6 - 1).toNat).map (leafAt ns (word (cell ns 1) (cell ns 2 % 7))))) := by
    unfold knotOf; rw [if_neg z0, if_neg z1]
  generalize hw : word (cell ns 1) (cell ns 2 % 7) = t at *
  obtain ⟨m, hm⟩ : ∃ m, m = cell ns 0 % 6 := ⟨_, rfl⟩
  rw [← hm] at ek vb z0 z1
  generalize hn : numOf (cell ns 3) = n at *
  refine ⟨_, rfl, (by show 3 ≤ sizeLine; decide), fun p1 n1 => ⟨(by show 2 ≤ sizeLine; decide), fun p2 n2 => ⟨(by show 1 ≤ sizeLine; decide), fun L nL => ?_⟩⟩⟩
  have d1 := Dp_new (K := K) n1 (.cons (.str (Str.ofString "leaf")) (.cons (.str (Str.ofString "")) (.cons (.int n) .nil)))
  have d2 := Dp_new (K := K) n2 (.cons (.str (Str.ofString "")) (.cons d1 .nil))
  have sL := (s12.trans (same_new n1 (.tup [.str (Str.ofString "leaf"), .str (Str.ofString ""), .int n]))).trans (same_new n2 (.tup [.str (Str.ofString ""), .ref p1]))
  have LH : H L = none := by
    cases e : H L with
    | none => rfl
    | some o => have := sL L o e; rw [nL] at this; cases this
  refine ⟨_, rfl, 1, cell ns 0 % 6, rfl, by omega, for_range (lo := 1) (n := (cell ns 0 % 6 - 1).toNat) (fun i σ H' => ∃ y5 xs, σ = [some (.ref a), some (.str (st t)), some (.int n), some (.int (cell ns 0 % 6)), some (.ref L), y5] ∧ Same H H' ∧ H' L = some (.lst xs) ∧ DpAll K H' xs (toDs (([], .leaf [] n) :: (List.range i).map (leafAt ns t))))
      ⟨none, _, rfl, sL.trans (same_new nL _), upd_same, .cons (Dp_same (same_new nL _) d2) .nil⟩ (fun i σ H3 hi h3 => ?_) (fun σ H3 h3 => ?_)⟩
  · obtain ⟨y5, xs, rfl, s3, hL, hd⟩ := h3
    refine ⟨_, rfl, .inl ⟨rfl, _, SqL.of hL⟩, ?_⟩
    refine ⟨(by show 4 ≤ sizeLine; decide), fun r nr => ?_⟩
    have hi4 : i < 4 := by omega
    refine ⟨_, rfl, _, _, rfl, rfl, r, _, _, .str (st [97 + i]), rfl, rfl, SqL.of upd_same, ?_, ?_⟩
    · have e1 : (1 : Int) + (i : Int) - 1 = ((i : Nat) : Int) := by omega
      rw [e1]
      match i, hi4 with
      | 0, _ => rfl
      | 1, _ => rfl
      | 2, _ => rfl
      | 3, _ => rfl
    have s4 := s3.trans (same_new nr (.lst [.str (Str.ofString "a"), .str (Str.ofString "b"), .str (Str.ofString "c"), .str (Str.ofString "d")]))
    refine ⟨_, rfl, _, rfl, _, rfl, _, _, rfl, rfl, a, ns, _, rfl, s4.seq hS, by omega, _, rfl, fun H5 s5 => ?_⟩
    refine ⟨(by show 3 ≤ sizeLine; decide), fun q1 m1 => ⟨(by show 2 ≤ sizeLine; decide), fun q2 m2 => ?_⟩⟩
    have g1 := Dp_new (K := K) m1 (.cons (.str (Str.ofString "leaf")) (.cons (.str (st t)) (.cons (.int (numOf (cell ns (3 + (1 + (i : Int)))))) .nil)))
    have g2 := Dp_new (K := K) m2 (.cons (.str (st [97 + i])) (.cons g1 .nil))
    have s6 : Same H3 (upd (upd H5 q1 (.tup [.str (Str.ofString "leaf"), .str (st t), .int (numOf (cell ns (3 + (1 + (i : Int)))))])) q2 (.tup [.str (st [97 + i]), .ref q1])) := (((same_new nr _).trans s5).trans (same_new m1 _)).trans (same_new m2 _)
    have hL6 := s6 _ _ hL
    refine ⟨_, _, _, rfl, rfl, hL6, ?_, ?_⟩
    · have := DpAll_len hd
      rw [this, toDs_map, List.length_map, List.length_cons, List.length_map, List.length_range]
      exact small1000 (by omega)
    · have nLH : ∀ b o, H b = some o → b ≠ L := fun b o e => ne_of_none e LH
      refine ⟨_, xs ++ [.ref q2], rfl, fun b o e => ?_, upd_same, ?_⟩
      · rw [upd_ne (nLH b o e)]
        exact (s3.trans s6) b o e
      · have hk := keep_upd hL6 (.lst (xs ++ [.ref q2]))
        rw [List.range_succ, List.map_append, ← List.cons_append, toDs_app]
        refine DpAll_app (DpAll_keep hk (toDs_nolist _) (DpAll_same s6 hd)) (.cons (Dp_keep hk rfl g2) .nil)
  · obtain ⟨y5, xs, rfl, s3, hL, hd⟩ := h3
    refine ⟨_, rfl, _, rfl, L, xs, rfl, .inl ⟨SqL.of hL, fun l nl => ?_⟩⟩
    refine ⟨(by show 3 ≤ sizeLine; decide), fun r nr => q _ _ ((s3.trans (same_new nl _)).trans (same_new nr _)) ?_⟩
    rw [ek]
    rw [← hm] at hd
    exact Dp_new nr (.cons (.str _) (.cons (.str _) (.cons (Dp_new nl hd) .nil)))
theorem knot_text {ns : List Int} {t : Tr} (h : knotOf ns = some t) : t.text.length ≤ 7 ∧ t.many ≤ 100 ∧ t.deep ≤ 2 := by
  have wb : 0 ≤ cell ns 2 % 7 ∧ cell ns 2 % 7 < 7 := by omega
  have hl : (word (cell ns 1) (cell ns 2 % 7)).length ≤ 7 := by rw [word_len]; omega
  have hm : ∀ j, manys ((List.range j).map (leafAt ns (word (cell ns 1) (cell ns 2 % 7)))) = j := fun j => by
    generalize word (cell ns 1) (cell ns 2 % 7) = t
    induction j with
    | zero => rfl
    | succ j ih =>
      rw [List.range_succ, List.map_append]
      have : ∀ a b : List (List Nat × Tr), manys (a ++ b) = manys a + manys b := fun a b => by
        induction a with
        | nil => simp [manys]
        | cons x r ih => obtain ⟨s, t⟩ := x; simp [manys, ih]; omega
      rw [this, ih]; rfl
  have hd : ∀ l : List Nat, deeps (l.map (leafAt ns (word (cell ns 1) (cell ns 2 % 7)))) ≤ 1 := fun l => by
    induction l with
    | nil => simp [deeps]
    | cons x r ih => simp only [List.map_cons, leafAt, deeps, Tr.deep]; omega
  unfold knotOf at h
  split at h
  · cases h
  · split at h
    · cases h
      exact ⟨hl, by simp [Tr.many], by simp [Tr.deep]⟩
    · cases h
      refine ⟨hl, ?_, ?_⟩
      · simp only [Tr.many, manys, hm]; omega
      · have := hd (List.range (cell ns 0 % 6 - 1).toNat)
        simp only [Tr.deep, deeps]; omega
theorem ok_law (F : Fun K "law" "law" slaw f fd)
    (G_Lknot : Has P w K mg base "_law_knot" pLknot 3 (spKnot K))
    (G_Lword_by : Has P w K mg base "_law_word_by" pLword_by 2 (spWord))
    (G_ahead : Has P w K mg base "ahead" pahead 1 (spAhead K))
    (G_Lcell_at : Has P w K mg base "_law_cell_at" pLcell_at 1 (spCell K))
    (G_Lalike : Has P w K mg base "_law_alike" pLalike 11 (spAlike K 10)) (m_int : mg "int" = none) :
    FnOk P w K mg base CX0 12 f fd plaw (spLaw K) := by
  refine F.ok claw (fun vs H Q E h => ?_) (fun cdv A outer s H vs Q E hr h => ?_)
  · obtain ⟨a, ns, rfl, _⟩ := h
    rfl
  obtain ⟨a, ns, rfl, hS, h63, q⟩ := h
  refine ⟨_, (pss_cons (ps_set (i := 1) claw.nd rfl (Or.inl rfl) (pe_has G_Lknot hr (by omega) (pa_cons (pv 0) pa_nil)))
    (pss_cons (ps_set (i := 2) claw.nd rfl (Or.inl rfl) (pe_ix (r := rIxL K) ix_list (pe_lst (pa_cons (pe_op op_mod (pe_op op_fdiv (pe_has G_Lcell_at hr (by omega) (pa_cons (pv 0) (pa_cons pe_int pa_nil))) pe_int) pe_int) (pa_cons pe_int pa_nil))) (pe_callTy call_int1 (by rfl) m_int (by decide +kernel) (pa_cons (pe_cmpR op_eq (pe_op op_mod (pe_has G_Lcell_at hr (by omega) (pa_cons (pv 0) (pa_cons pe_int pa_nil))) pe_int) pe_int (nomark _)) pa_nil)) (fun _ _ => rfl)))
    (pss_cons (ps_set (i := 3) claw.nd rfl (Or.inl rfl) (pe_has G_Lword_by hr (by omega) (pa_cons (pe_has G_Lcell_at hr (by omega) (pa_cons (pv 0) (pa_cons pe_int pa_nil))) (pa_cons (pv 2) pa_nil))))
    (pss_cons (ps_set (i := 4) claw.nd rfl (Or.inl rfl) (pe_has G_ahead hr (by omega) (pa_cons (pv 1) (pa_cons (pv 3) pa_nil))))
    (pss_cons (ps_if (pt_cmpR op_isN (pv 1) pe_non (nomark _)) (pss_one (ps_ret (pe_cmpR op_isN (pv 4) pe_non (nomark _)))) pss_nil)
    (pss_one (ps_ret (pe_and (pe_has G_Lalike hr (by omega) (pa_cons (pv 4) (pa_cons (pe_tup (pa_cons (pe_ix (r := rIxT K) ix_tup (pv 1) pe_int (fun _ _ => rfl)) (pa_cons (pe_op op_add_str (pv 3) (pe_ix (r := rIxT K) ix_tup (pv 1) pe_int (fun _ _ => rfl))) (pa_cons (pe_ix (r := rIxT K) ix_tup (pv 1) pe_int (fun _ _ => rfl)) pa_nil)))) pa_nil))) (pe_one (pe_has G_Lalike hr (by omega) (pa_cons (pv 1) (pa_cons (pe_has G_Lknot hr (by omega) (pa_cons (pv 0) pa_nil)) pa_nil)))))))))))), ?_⟩
  refine ⟨_, rfl, a, ns, rfl, hS, fun v H1 s1 hv => ?_⟩
  have hS1 := s1.seq hS
  refine ⟨_, rfl, ⟨a, ns, _, rfl, hS1, by decide, _, _, rfl, rfl, ⟨by decide, by decide⟩, _, _, rfl, rfl, (by show (0 : Int) < 7; decide), (by show 2 ≤ sizeLine; decide), fun p np => ?_⟩⟩
  have s2 := s1.trans (same_new np (.lst [.int (cell ns 4 / 4 % 7), .int 30]))
  have hv2 := Dp_same (same_new np (.lst [.int (cell ns 4 / 4 % 7), .int 30])) hv
  have hS2 := s2.seq hS
  refine ⟨_, rfl, ⟨a, ns, _, rfl, hS2, by decide, _, _, rfl, rfl, (by show (0 : Int) < 4; decide), rfl, .inr ⟨_, rfl, p, _, _, .int (if cell ns 4 % 4 = 3 then 30 else cell ns 4 / 4 % 7), rfl, rfl, SqL.of upd_same, ?_, ?_⟩⟩⟩
  · show atI [V.int (cell ns 4 / 4 % 7), V.int 30] (if decide (V.int (cell ns 4 % 4) = V.int 3) = true then 1 else 0) = _
    by_cases c : cell ns 4 % 4 = 3
    · rw [if_pos c, if_pos (decide_eq_true (congrArg V.int c))]; rfl
    · rw [if_neg c, if_neg (fun z => c (V.int.inj (of_decide_eq_true z)))]; rfl
  generalize hm : (if cell ns 4 % 4 = 3 then (30 : Int) else cell ns 4 / 4 % 7) = m
  have mb : 0 ≤ m ∧ m ≤ 30 := by
    rw [← hm]; split
    · omega
    · have : 0 ≤ cell ns 4 / 4 % 7 := by omega
      have : cell ns 4 / 4 % 7 < 7 := by omega
      omega
  refine ⟨_, rfl, ⟨a, ns, _, rfl, hS2, by decide, _, rfl, _, m, rfl, by omega, by omega, fun H3 s3 => ?_⟩⟩
  have hv3 := Dp_same s3 hv2
  have hl3 : (word (cell ns 5) m).length ≤ 30 := by rw [word_len]; omega
  generalize word (cell ns 5) m = b at hl3
  refine ⟨_, rfl, _, rfl, v, knotOf ns, b, rfl, hv3, by omega, fun t ht => by have := knot_text ht; omega, fun u H4 s4 hu => ?_⟩
  have hv4 := Dp_same s4 hv3
  have hS4 := ((s2.trans s3).trans s4).seq hS
  cases ho : knotOf ns with
  | none =>
    rw [ho] at hv4 hu
    cases Dp_non hv4
    cases Dp_non hu
    exact ⟨_, rfl, rfl, _, rfl, iteT ⟨_, rfl, rfl, q _⟩⟩
  | some t =>
    obtain ⟨t1, t2, t3⟩ := knot_text ho
    rw [ho] at hv4 hu
    obtain ⟨r, x, z, rfl, hs, hc⟩ := Dp_tree hv4
    refine ⟨_, rfl, rfl, _, rfl, iteF ?_⟩
    refine ⟨_, rfl, _, rfl, r, _, _, _, rfl, rfl, hs, (rfl : atI [x, V.str (st t.text), z] 0 = some x), ?_⟩
    refine ⟨_, rfl, _, rfl, r, _, _, _, rfl, rfl, hs, (rfl : atI [x, V.str (st t.text), z] 1 = some (V.str (st t.text))), _, _, rfl, rfl, ?_, ?_⟩
    · rw [st_len, st_len]; exact smallZ (by omega)
    rw [st_add]
    refine ⟨_, rfl, r, _, _, _, rfl, rfl, hs, (rfl : atI [x, V.str (st t.text), z] 2 = some z), (by show 3 ≤ sizeLine; decide), fun c nc => ?_⟩
    have hnew : Dp K (upd H4 c (.tup [x, .str (st (b ++ t.text)), z])) (.ref c) ((t.ahd b).toD) := by
      rcases hc with ⟨n, e, rfl, rfl⟩ | ⟨bs, e, rfl, hz⟩
      · rw [e]
        exact Dp_new nc (.cons (.str _) (.cons (.str _) (.cons (.int _) .nil)))
      · rw [e]
        exact Dp_new nc (.cons (.str _) (.cons (.str _) (.cons hz .nil)))
    have am : (t.ahd b).many = t.many ∧ (t.ahd b).deep = t.deep := by cases t <;> exact ⟨rfl, rfl⟩
    have sn := same_new nc (.tup [x, .str (st (b ++ t.text)), z])
    refine ⟨u, .ref c, (t.ahd b).toD, rfl, Dp_same sn hu, hnew, Tr.plain _ (by omega), by have := (t.ahd b).dep_le; omega, fun H5 s5 => ⟨_, rfl, iteT ?_⟩⟩
    have hv5 := Dp_same (sn.trans s5) hv4
    refine ⟨_, rfl, _, rfl, a, ns, rfl, (sn.trans s5).seq hS4, fun y H6 s6 hy => ?_⟩
    rw [ho] at hy
    exact ⟨_, y, t.toD, rfl, Dp_same s6 hv5, hy, Tr.plain _ (by omega), by have := t.dep_le; omega, fun H7 s7 => q _⟩
end
end RT
namespace RT
open PySem PySem.Spec PyProof.Rows L2
theorem all_ok {l : PySem.W.OpenLaw} {w : World} {K : PySem.W.Frag} {mg : Str → Option Value} {fa f1 f3 f4 f5 f6 f7 f8 f9 f10 : Addr} (hfa : mg "law" = some (.ref fa))
    (h1 : ∃ fd, DefAt K mg "ahead" sahead f1 fd)
    (h3 : ∃ fd, DefAt K mg "_law_cell_at" sLcell_at f3 fd)
    (h4 : ∃ fd, DefAt K mg "_law_whole" sLwhole f4 fd)
    (h5 : ∃ fd, DefAt K mg "_law_sign_by" sLsign_by f5 fd)
    (h6 : ∃ fd, DefAt K mg "_law_word_by" sLword_by f6 fd)
    (h7 : ∃ fd, DefAt K mg "_law_number_by" sLnumber_by f7 fd)
    (h8 : ∃ fd, DefAt K mg "_law_alike" sLalike f8 fd)
    (h9 : ∃ fd, DefAt K mg "_law_knot" sLknot f9 fd)
    (h10 : ∃ fd, DefAt K mg "law" slaw f10 fd)
    (m_len : mg "len" = none)
    (m_isinstance : mg "isinstance" = none)
    (m_int : mg "int" = none)
    (m_bool : mg "bool" = none)
    (m_range : mg "range" = none)
    (m_str : mg "str" = none)
    (m_tuple : mg "tuple" = none)
    (m_list : mg "list" = none)
    : ∃ fd : FuncData, (∀ (s : Shared) (v : Value), BindsTo s fd ⟨[v], []⟩ [("_law_script", v)]) ∧ ∀ base : Heap, K.In base → base.Ns mainGlobals mg → FnOk l.prog w K mg base CX0 12 fa fd ["_law_script"] (spLaw K) := by
  obtain ⟨fd1, D1⟩ := h1
  obtain ⟨fd3, D3⟩ := h3
  obtain ⟨fd4, D4⟩ := h4
  obtain ⟨fd5, D5⟩ := h5
  obtain ⟨fd6, D6⟩ := h6
  obtain ⟨fd7, D7⟩ := h7
  obtain ⟨fd8, D8⟩ := h8
  obtain ⟨fd9, D9⟩ := h9
  obtain ⟨fd10, D10⟩ := h10
  have e := hfa.symm.trans D10.2
  cases e
  have bahead := D1.1.binds (ps := pahead) fun _ _ _ _ _ _ us hl => match us, hl with | [_, _], _ => rfl
  have Dahead := D1
  have bLcell_at := D3.1.binds (ps := pLcell_at) fun _ _ _ _ _ _ us hl => match us, hl with | [_, _], _ => rfl
  have DLcell_at := D3
  have bLwhole := D4.1.binds (ps := pLwhole) fun _ _ _ _ _ _ us hl => match us, hl with | [_], _ => rfl
  have DLwhole := D4
  have bLsign_by := D5.1.binds (ps := pLsign_by) fun _ _ _ _ _ _ us hl => match us, hl with | [_], _ => rfl
  have DLsign_by := D5
  have bLword_by := D6.1.binds (ps := pLword_by) fun _ _ _ _ _ _ us hl => match us, hl with | [_, _], _ => rfl
  have DLword_by := D6
  have bLnumber_by := D7.1.binds (ps := pLnumber_by) fun _ _ _ _ _ _ us hl => match us, hl with | [_], _ => rfl
  have DLnumber_by := D7
  have bLalike := D8.1.binds (ps := pLalike) fun _ _ _ _ _ _ us hl => match us, hl with | [_, _], _ => rfl
  have DLalike := D8
  have bLknot := D9.1.binds (ps := pLknot) fun _ _ _ _ _ _ us hl => match us, hl with | [_], _ => rfl
  have DLknot := D9
  have blaw := D10.1.binds (ps := plaw) fun _ _ _ _ _ _ us hl => match us, hl with | [_], _ => rfl
  have Dlaw := D10
  have bx := D10.1.ex
  refine ⟨fd10, ?_, fun base _ _ => ?_⟩
  · obtain ⟨oc, od, kV, doc, pm, an, cdv, ct, osl, rfl, _⟩ := bx
    exact fun s v => .of_eq rfl
  · clear bx
    have H_Lsign_by : Has l.prog w K mg base "_law_sign_by" pLsign_by 1 (spSign) := DLsign_by.has bLsign_by (ok_Lsign_by DLsign_by.1  )
    have H_Lword_by : Has l.prog w K mg base "_law_word_by" pLword_by 2 (spWord) := DLword_by.has bLword_by (ok_Lword_by DLword_by.1 H_Lsign_by m_range)
    have H_Lnumber_by : Has l.prog w K mg base "_law_number_by" pLnumber_by 1 (spNum) := DLnumber_by.has bLnumber_by (ok_Lnumber_by DLnumber_by.1  m_range)
    have H_Lcell_at : Has l.prog w K mg base "_law_cell_at" pLcell_at 1 (spCell K) := DLcell_at.has bLcell_at (ok_Lcell_at DLcell_at.1  m_len)
    have H_Lknot : Has l.prog w K mg base "_law_knot" pLknot 3 (spKnot K) := DLknot.has bLknot (ok_Lknot DLknot.1 H_Lword_by H_Lnumber_by H_Lcell_at m_range m_tuple)
    have H_ahead : Has l.prog w K mg base "ahead" pahead 1 (spAhead K) := Dahead.has bahead (ok_ahead Dahead.1  )
    have H_Lwhole : Has l.prog w K mg base "_law_whole" pLwhole 1 (spWhole K) := DLwhole.has bLwhole (ok_Lwhole DLwhole.1  m_isinstance m_int m_bool)
    have H_Lalike : Has l.prog w K mg base "_law_alike" pLalike 11 (spAlike K 10) := has_Lalike DLalike bLalike H_Lwhole m_isinstance m_str m_int m_tuple m_list m_len m_range 10
    exact ok_law Dlaw.1 H_Lknot H_Lword_by H_ahead H_Lcell_at H_Lalike m_int
end RT
open PySem PySem.W PyProof.Rows
set_option maxHeartbeats 0 in
theorem PySem.Challenge.cw_radixtrail_k03_text_put_ahead_holds : PySem.Challenge.rw_radixtrail_k03_text_put_ahead.Holds := by
  w_on; o_law; k_head; (case hw => w_witness2)
  k_fill
  refine L2.walk_of (l := PySem.Challenge.rw_radixtrail_k03_text_put_ahead) (n := 63) (k := 12) (x := "_law_script") (CX := fun _ => L2.CX0) (sp := fun w => RT.spLaw _) rfl (by decide) rfl ⟨rfl, by decide, by decide⟩ (fun w h Y => PySem.W.kIn_of Y) ?F (fun _ _ a ns hl _ hS => ⟨a, ns, rfl, hS, hl, fun _ => rfl⟩) (fun _ _ _ _ _ h => h)
  case F =>
    intro w mg fa h KX G hmg
    refine' RT.all_ok (l := PySem.Challenge.rw_radixtrail_k03_text_put_ahead) (w := w) (mg := mg) hmg (RT.defAt KX G ?a1 ?l1 ?c1 ?k1)  (RT.defAt KX G ?a3 ?l3 ?c3 ?k3)  (RT.defAt KX G ?a4 ?l4 ?c4 ?k4)  (RT.defAt KX G ?a5 ?l5 ?c5 ?k5)  (RT.defAt KX G ?a6 ?l6 ?c6 ?k6)  (RT.defAt KX G ?a7 ?l7 ?c7 ?k7)  (RT.defAt KX G ?a8 ?l8 ?c8 ?k8)  (RT.defAt KX G ?a9 ?l9 ?c9 ?k9)  (RT.defAt KX G ?a10 ?l10 ?c10 ?k10)
      (PySem.W.mg_none_of KX G ?z0)  (PySem.W.mg_none_of KX G ?z1)  (PySem.W.mg_none_of KX G ?z2)  (PySem.W.mg_none_of KX G ?z3)  (PySem.W.mg_none_of KX G ?z4)  (PySem.W.mg_none_of KX G ?z5)  (PySem.W.mg_none_of KX G ?z6)  (PySem.W.mg_none_of KX G ?z7)
    (case a1 => k_is)
    (case l1 => k_is)
    (case c1 => k_is)
    (case k1 => k_is)
    (case a3 => k_is)
    (case l3 => k_is)
    (case c3 => k_is)
    (case k3 => k_is)
    (case a4 => k_is)
    (case l4 => k_is)
    (case c4 => k_is)
    (case k4 => k_is)
    (case a5 => k_is)
    (case l5 => k_is)
    (case c5 => k_is)
    (case k5 => k_is)
    (case a6 => k_is)
    (case l6 => k_is)
    (case c6 => k_is)
    (case k6 => k_is)
    (case a7 => k_is)
    (case l7 => k_is)
    (case c7 => k_is)
    (case k7 => k_is)
    (case a8 => k_is)
    (case l8 => k_is)
    (case c8 => k_is)
    (case k8 => k_is)
    (case a9 => k_is)
    (case l9 => k_is)
    (case c9 => k_is)
    (case k9 => k_is)
    (case a10 => k_is)
    (case l10 => k_is)
    (case c10 => k_is)
    (case k10 => k_is)
    (case z0 => k_is)
    (case z1 => k_is)
    (case z2 => k_is)
    (case z3 => k_is)
    (case z4 => k_is)
    (case z5 => k_is)
    (case z6 => k_is)
    (case z7 => k_is)

