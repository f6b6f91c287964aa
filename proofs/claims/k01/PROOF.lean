import PyProof.Rows.All
import Wide.All
import OpenK.AllK
import Wide.FinOn
import HandS.ForMost
import HandS.Walk
import KE.GoesNew
import HandS.IsInst
import HandS.Codes
import PySem.Challenge.RW_radixtrail_k01_words_in_common
set_option Elab.async false
set_option linter.all false
set_option maxRecDepth 100000
set_option maxHeartbeats 4000000
/-! zip of two texts, walked by a tuple target -/
namespace RT
open PySem PySem.Spec PyProof.Rows L2
/-- the signs of two texts, in new pairs -/
def Itzs (x y : Str) : It :=
  ⟨fun i _ => i < x.cps.size ∧ i < y.cps.size,
    fun i H v H' => ∃ T c d, v = .ref T ∧ H T = none ∧ H' = upd H T (.tup [.str ⟨#[c]⟩, .str ⟨#[d]⟩]) ∧ x.cps[i]? = some c ∧ y.cps[i]? = some d,
    fun i _ => i = min x.cps.size y.cps.size⟩
theorem sub5 {N : Addr} (b : Addr) (hb : b ∈ [N + 4, N + 3, N, N + 1]) : b ∈ [N + 4, N + 2, N + 3, N, N + 1] := by
  simp only [List.mem_cons, List.not_mem_nil, or_false] at hb ⊢
  rcases hb with h | h | h | h <;> simp [h]
theorem turn_zipS {P : Program} {w : World} {K : PySem.W.Frag} {elts : List Expr} {kk : Nat} {tpos : Pos} {x y : Str} {tx ty : Tok} {N : Addr} :
    Turn P w K (.Tuple elts kk tpos) (Itzs x y) [N + 4, N + 2, N + 3, N, N + 1] (N + 4)
      (fun i h => (IsZip h (N + 4) (N + 2) (N + 3) .none ∧ IsTupOf2 h (N + 2) (.ref N) (.ref (N + 1)) ∧ (∃ a1 a2, IsTupOf2 h (N + 3) a1 a2) ∧ h.IsStrIter N (strIterType x) x tx i ∧ h.IsStrIter (N + 1) (strIterType y) y ty i)) where
  mem := by simp
  obj := fun i h stt c hc => by
    obtain ⟨gZ, gI, ⟨a1, a2, gO⟩, ⟨oA, eA, _, dA⟩, ⟨oB, eB, _, dB⟩⟩ := stt
    have five : c = N + 4 ∨ c = N + 2 ∨ c = N + 3 ∨ c = N ∨ c = N + 1 := by simpa using hc
    rcases five with rfl | rfl | rfl | rfl | rfl
    · exact ⟨_, gZ, fun _ q => nomatch q⟩
    · exact ⟨_, gI, fun _ q => nomatch q⟩
    · exact ⟨_, gO, fun _ q => nomatch q⟩
    · exact ⟨oA, eA, fun _ q => by rw [dA] at q; cases q⟩
    · exact ⟨oB, eB, fun _ q => by rw [dB] at q; cases q⟩
  keep := fun i h h' st k => by
    obtain ⟨hz, hTI, ⟨a1, a2, hTO⟩, ⟨o1, e1, r1⟩, ⟨o2, e2, r2⟩⟩ := st
    exact ⟨k (N + 4) (by simp) _ hz, k (N + 2) (by simp) _ hTI, ⟨a1, a2, k (N + 3) (by simp) _ hTO⟩, ⟨o1, k N (by simp) _ e1, r1⟩, ⟨o2, k (N + 1) (by simp) _ e2, r2⟩⟩
  item := by
    intro X eP eW eK calm i pins s σ H E I hf st hg
    subst eP eW eK
    have hh := I.ok.hd calm
    have G := GoesN.zip2 (A := X.A) (elts := elts) (x1 := kk) (pos := tpos) (zip_sep2 (N := N) (fp1 := []) (fp2 := []) (by simp) (by simp)) (Draws.text (prog := X.prog) (w := X.w) (A := X.A.in1) hh N x tx) (Draws.text (prog := X.prog) (w := X.w) (A := X.A.in1) hh (N + 1) y ty)
    have hlt : i < min x.cps.size y.cps.size := by have := hg.1; have := hg.2; omega
    refine thn (G.goes i s (fun v s2 => ∃ x1 H', Inv X pins σ H' s2 ∧ RelV x1 v ∧ (Itzs x y).yld i H x1 H' ∧ _ ∧ ∀ b ∈ [N + 4, N + 2, N + 3, N, N + 1], H' b = none) E hlt st fun v h' tk hY st' hk htk => ?_) fun r s1 ⟨v, hr, q⟩ => ⟨v, hr, thn q fun _ s2 z => z⟩
    obtain ⟨T, u1, u2, rfl, hT, ⟨c, t1, hc1, rfl⟩, ⟨d, t2, hd1, rfl⟩, hTup⟩ := hY
    have new : ObjOk X.prog X.w (upd H T (.tup [.str ⟨#[c]⟩, .str ⟨#[d]⟩])) h' T (.tup [.str ⟨#[c]⟩, .str ⟨#[d]⟩]) :=
      ⟨by show 2 ≤ sizeLine; decide, [.str ⟨#[c]⟩ t1, .str ⟨#[d]⟩ t2], .cons ⟨_, rfl⟩ (.cons ⟨_, rfl⟩ .nil), hTup⟩
    have I1 : Inv X pins σ (upd H T (.tup [.str ⟨#[c]⟩, .str ⟨#[d]⟩])) { s with heap := h', toks := tk } :=
      I.turnedNew (ch := [N + 4, N + 2, N + 3, N, N + 1]) (fun b o hb q => hk b o (fun z => hb (sub5 b z)) q) hf hT new
    refine ⟨.ref T, _, I1, rfl, ⟨T, c, d, rfl, I.hok.fresh hT, rfl, hc1, hd1⟩, st', fun b hb => ?_⟩
    have hlt : b < s.heap.objs.size := by
      obtain ⟨gZ, gI, ⟨a1, a2, gO⟩, ⟨oA, eA, _⟩, ⟨oB, eB, _⟩⟩ := st
      have five : b = N + 4 ∨ b = N + 2 ∨ b = N + 3 ∨ b = N ∨ b = N + 1 := by simpa using hb
      rcases five with rfl | rfl | rfl | rfl | rfl
      · exact Heap.lt_size gZ
      · exact Heap.lt_size gI
      · exact Heap.lt_size gO
      · exact Heap.lt_size eA
      · exact Heap.lt_size eB
    rw [upd_ne (Nat.ne_of_lt (Nat.lt_of_lt_of_le hlt hT))]
    exact (hf b hb).1
  done := by
    intro X eP eW eK calm i pins s σ H E I hf st hg
    subst eP eW eK
    have hh := I.ok.hd calm
    have G := GoesN.zip2 (A := X.A) (elts := elts) (x1 := kk) (pos := tpos) (zip_sep2 (N := N) (fp1 := []) (fp2 := []) (by simp) (by simp)) (Draws.text (prog := X.prog) (w := X.w) (A := X.A.in1) hh N x tx) (Draws.text (prog := X.prog) (w := X.w) (A := X.A.in1) hh (N + 1) y ty)
    have hi : i = min x.cps.size y.cps.size := hg
    subst hi
    exact G.stops s _ E st fun h' tk hk htk => I.turnedL (ch := [N + 4, N + 2, N + 3, N, N + 1]) (fun b o hb q => hk b o (fun z => hb (sub5 b z)) q) hf
  self := fun _ _ _ _ _ stt q => wpAny_pyIter_zip stt.1 q
def iZipS (ta : TA) : TI := fun σ H R => ta σ H fun vs H1 => ∃ x y, vs = [.str x, .str y] ∧ R (Itzs x y) H1
theorem pi_zipS {X : Cx} {e e2 : Expr} {ta : TA} {p pos tpos : Pos} {elts : List Expr} {kk : Nat} (hg : Gl X "zip") (hm : X.mg "zip" = none) (ha : PA X [e, e2] ta)
    (noStar : starEach [e, e2] X.env = (false, eval e X.env) :: starEach [e2] X.env := by rfl)
    (noStar2 : (backTo pos (starEach [e2] X.env)).any (·.1) = false := by rfl) :
    PI X (.Tuple elts kk tpos) (.Call (.Name "zip" p) [e, e2] [] pos) (iZipS ta) := by
  constructor
  intro pins s σ H R I hw
  refine Call_ (ld_blt I hg hm PyProof.Rows.boot_zip ?_)
  refine PyProof.Rows.callWith_type1 (thn (ha.run pos pins s σ H _ I hw) fun us s1 told => ?_) noStar noStar2
  obtain ⟨vs, H1, I1, r1, q1⟩ := told
  obtain ⟨x, y, ex, q⟩ := q1
  subst ex
  cases r1 with
  | cons r rr =>
    cases rr with
    | cons r' rr =>
      cases rr
      obtain ⟨tx, rfl⟩ := r
      obtain ⟨ty, rfl⟩ := r'
      refine zip_begins2 (begins_text x tx) (begins_text y ty) trivial trivial fun h' hz hTI hTO h1 h2 hsz hk => wpAny_pyIter_zip hz ?_
      have J := I1.kept (t' := s1.toks) hk
      refine ⟨s1.heap.objs.size + 4, [s1.heap.objs.size + 4, s1.heap.objs.size + 2, s1.heap.objs.size + 3, s1.heap.objs.size, s1.heap.objs.size + 1], _, _, H1, rfl, J, turn_zipS (tx := tx) (ty := ty), ⟨hz, hTI, ⟨_, _, hTO⟩, ⟨_, h1, rfl, rfl⟩, ⟨_, h2, rfl, rfl⟩⟩, fun c hc => ?_, q⟩
      have up : ∀ k : Nat, s1.heap.objs.size ≤ s1.heap.objs.size + k := fun k => Nat.le_add_right _ k
      have new : s1.heap.objs.size ≤ c := by
        have five : c = s1.heap.objs.size + 4 ∨ c = s1.heap.objs.size + 2 ∨ c = s1.heap.objs.size + 3 ∨ c = s1.heap.objs.size ∨ c = s1.heap.objs.size + 1 := by simpa using hc
        rcases five with rfl | rfl | rfl | rfl | rfl
        · exact up 4
        · exact up 2
        · exact up 3
        · exact Nat.le_refl _
        · exact up 1
      exact I1.fpOk new (I1.hok.fresh new)
end RT

/-! texts as lists of signs -/
namespace RT
open PySem PySem.Spec PyProof.Rows L2
abbrev st (l : List Nat) : Str := ⟨l.toArray⟩
theorem st_inj {a b : List Nat} (h : st a = st b) : a = b := by
  have := congrArg (fun z => z.cps.toList) h
  simpa using this
theorem st_iff {a b : List Nat} : (V.str (st a) = V.str (st b)) ↔ a = b := ⟨fun h => st_inj (V.str.inj h), fun h => by rw [h]⟩
theorem st_len (a : List Nat) : (st a).length = a.length := by
  show a.toArray.size = a.length
  simp
theorem st_of (z : Str) : z = st z.cps.toList := by
  cases z; simp [st]
theorem st_add (a b : List Nat) : st a ++ st b = st (a ++ b) := by
  show (⟨a.toArray ++ b.toArray⟩ : Str) = ⟨(a ++ b).toArray⟩
  simp
theorem cut_from (a : List Nat) (i : Nat) : cutS (st a) (some (i : Int)) none = st (a.drop i) := by
  show (⟨_⟩ : Str) = ⟨_⟩
  rw [st_len, HT.sIx_nat, HT.sIx_none]
  congr 2
  show ((a.drop (min i a.length)).take (a.length - min i a.length)) = a.drop i
  by_cases h : i ≤ a.length
  · rw [Nat.min_eq_left h, List.take_of_length_le (by simp)]
  · rw [Nat.min_eq_right (by omega)]; simp; omega
theorem cut_to (a : List Nat) (i : Nat) : cutS (st a) none (some (i : Int)) = st (a.take i) := by
  show (⟨_⟩ : Str) = ⟨_⟩
  rw [st_len, HT.sIx_nat, HT.sIx_none]
  congr 2
  show ((a.drop 0).take (min i a.length - 0)) = a.take i
  rw [List.drop_zero, Nat.sub_zero]
  by_cases h : i ≤ a.length
  · rw [Nat.min_eq_left h]
  · rw [Nat.min_eq_right (by omega), List.take_length, List.take_of_length_le (by omega)]
theorem cut_mid (a : List Nat) (i j : Nat) : cutS (st a) (some (i : Int)) (some (j : Int)) = st ((a.drop i).take (j - i)) := by
  show (⟨_⟩ : Str) = ⟨_⟩
  rw [st_len, HT.sIx_nat, HT.sIx_nat]
  congr 2
  show ((a.drop (min i a.length)).take (min j a.length - min i a.length)) = (a.drop i).take (j - i)
  by_cases h : i ≤ a.length
  · rw [Nat.min_eq_left h]
    by_cases h2 : j ≤ a.length
    · rw [Nat.min_eq_left h2]
    · rw [Nat.min_eq_right (by omega : a.length ≤ j), List.take_of_length_le (by simp), List.take_of_length_le (by simp; omega)]
  · rw [Nat.min_eq_right (by omega : a.length ≤ i), List.drop_of_length_le (l := a) (i := a.length) (Nat.le_refl _), List.drop_of_length_le (l := a) (i := i) (by omega)]; simp
/-! ### the longest text with which two begin -/
def lcp : List Nat → List Nat → Nat
  | a :: r, b :: s => if a = b then lcp r s + 1 else 0
  | _, _ => 0
theorem lcp_le1 : ∀ a b : List Nat, lcp a b ≤ a.length
  | [], b => by simp [lcp]
  | a :: r, [] => by simp [lcp]
  | a :: r, b :: s => by
    unfold lcp
    split
    · have := lcp_le1 r s; simp; omega
    · simp
theorem lcp_comm : ∀ a b : List Nat, lcp a b = lcp b a
  | [], [] => rfl
  | [], b :: s => rfl
  | a :: r, [] => rfl
  | a :: r, b :: s => by
    unfold lcp
    by_cases h : a = b
    · subst h; simp [lcp_comm r s]
    · rw [if_neg h, if_neg (fun q => h (Eq.symm q))]
theorem lcp_le2 (a b : List Nat) : lcp a b ≤ b.length := by rw [lcp_comm]; exact lcp_le1 b a
theorem lcp_take : ∀ a b : List Nat, a.take (lcp a b) = b.take (lcp a b)
  | [], [] => rfl
  | [], b :: s => rfl
  | a :: r, [] => rfl
  | a :: r, b :: s => by
    unfold lcp
    by_cases h : a = b
    · subst h; simp [lcp_take r s]
    · simp [h]
theorem lcp_of : ∀ {a b : List Nat} {i : Nat}, a.take i = b.take i → i ≤ a.length → i ≤ b.length → (a.length ≤ i ∨ b.length ≤ i ∨ a[i]? ≠ b[i]?) → lcp a b = i
  | [], b, i, _, h1, _, _ => by simp at h1; subst h1; rfl
  | a :: r, [], i, _, _, h2, _ => by simp at h2; subst h2; rfl
  | a :: r, b :: s, 0, _, _, _, h => by
    have : a ≠ b := by
      intro e; subst e
      rcases h with h | h | h
      · simp at h
      · simp at h
      · simp at h
    unfold lcp; simp [this]
  | a :: r, b :: s, i + 1, h, h1, h2, h3 => by
    simp only [List.take_succ_cons, List.cons.injEq] at h
    obtain ⟨e, h⟩ := h
    subst e
    unfold lcp
    simp only [if_true]
    rw [lcp_of (i := i) h (by simpa using h1) (by simpa using h2) (by simpa using h3)]
theorem take_grow {a b : List Nat} {i : Nat} {c : Nat} (h : a.take i = b.take i) (h1 : a[i]? = some c) (h2 : b[i]? = some c) : a.take (i + 1) = b.take (i + 1) := by
  rw [List.take_add_one, List.take_add_one, h, h1, h2]
/-! ### startswith -/
theorem starts (a b : List Nat) : Txt.startswith (st a) (st b) = decide (b <+: a) := by
  unfold Txt.startswith
  unfold Builtin.Str.subAt
  rw [st_len, st_len]
  have e0 : (a.toArray.extract 0 (0 + b.length) == b.toArray) = (a.take b.length == b) := by simp
  show (decide (0 + b.length ≤ a.length) && (a.toArray.extract 0 (0 + b.length) == b.toArray)) = _
  rw [e0, Nat.zero_add]
  by_cases h : b <+: a
  · have e : a.take b.length = b := (List.prefix_iff_eq_take.mp h).symm
    rw [decide_eq_true h, decide_eq_true h.length_le, e]
    simp
  · rw [decide_eq_false h, Bool.and_eq_false_iff]
    refine .inr (beq_eq_false_iff_ne.mpr fun e => h ?_)
    have e' : a.take b.length = b := by simpa using e
    exact List.prefix_iff_eq_take.mpr e'.symm
/-! ### what the script's cells make -/
def cell (ns : List Int) (k : Int) : Int := (ns[k.toNat]?).getD 0
def signTab : List Nat := ((List.range 95).map (fun k => 32 + k)).filter fun c => c != 37
theorem signTab_len : signTab.length = 94 := by decide
def sgn (c : Int) : Nat := signTab.getD (c % 94).toNat 0
def lcg (n : Int) : Int := (n * 48271 + 11) % 2147483647
def wordGo (c : Int) : Nat → Int × List Nat
  | 0 => (c, [])
  | k + 1 => (lcg (wordGo c k).1, (wordGo c k).2 ++ [sgn (65 + lcg (wordGo c k).1 / 7 % (if c % 2 = 0 then 2 else 94))])
def word (c : Int) (n : Int) : List Nat := (wordGo c n.toNat).2
theorem wordGo_len (c : Int) : ∀ k, (wordGo c k).2.length = k
  | 0 => rfl
  | k + 1 => by simp [wordGo, wordGo_len c k]
theorem word_len (c n : Int) : (word c n).length = n.toNat := wordGo_len c _
theorem sgn_at (c : Int) : signTab[(c % 94).toNat]? = some (sgn c) := by
  have h : (c % 94).toNat < signTab.length := by rw [signTab_len]; omega
  unfold sgn
  rw [List.getD_eq_getElem?_getD, List.getElem?_eq_getElem h]
  rfl
theorem sgn_mem (c : Int) : sgn c ∈ signTab := List.mem_of_getElem? (sgn_at c)
theorem wordGo_mem (c : Int) : ∀ k, ∀ x ∈ (wordGo c k).2, x ∈ signTab
  | 0, x, h => by simp [wordGo] at h
  | k + 1, x, h => by
    simp only [wordGo, List.mem_append, List.mem_singleton] at h
    rcases h with h | h
    · exact wordGo_mem c k x h
    · rw [h]; exact sgn_mem _
theorem word_mem (c n : Int) : ∀ x ∈ word c n, x ∈ signTab := wordGo_mem c _
end RT

namespace RT
open PySem PySem.Spec PyProof.Rows L2
/-- a def of the top that lets no exception out -/
structure Has (P : Program) (w : World) (K : PySem.W.Frag) (mg : Str → Option Value) (base : Heap) (x : Str) (ps : List Str) (k : Nat) (sp : Sp) : Prop where
  ex : ∃ (f : Addr) (fd : FuncData), FnOk P w K mg base CX0 k f fd ps sp ∧ Binds K fd ps [] ∧ PySem.W.keepIn K (.ref f) = true ∧ mg x = some (.ref f)
theorem Has.mono {P : Program} {w : World} {K : PySem.W.Frag} {mg : Str → Option Value} {base : Heap} {x : Str} {ps : List Str} {j k : Nat} {sp : Sp} (h : Has P w K mg base x ps j sp) (hl : j ≤ k) : Has P w K mg base x ps k sp := by
  obtain ⟨f, fd, G, b, kp, m⟩ := h.ex
  exact ⟨f, fd, G.mono hl, b, kp, m⟩
section
variable {X : Cx} {x : Str} {ps : List Str} {k j : Nat} {sp : Sp} {e : Expr} {es : List Expr} {t : TA} {p pos : Pos}
theorem pe_has (h : Has X.prog X.w X.K X.mg X.base x ps k sp) (hr : Room j X.A) (hl : k ≤ j) (ha : PA X (e :: es) t) (hg : Gl X x := by rfl)
    (noDebug : (x == ("__debug__" : Str)) = false := by decide)
    (noStar : starEach (e :: es) X.env = (false, eval e X.env) :: starEach es X.env := by rfl)
    (noStars : (backTo pos (starEach es X.env)).any (·.1) = false := by rfl) :
    PE X (.Call (.Name x p) (e :: es) [] pos) (tCall sp [] E0 t) := by
  obtain ⟨f, fd, G, b, kp, m⟩ := h.ex
  exact pe_call G (hr.mono hl) hg m kp b .nil pass0 ha noDebug noStar noStars
end
theorem same_new {H : Hp} {p : Addr} (free : H p = none) (o : HO) : Same H (upd H p o) := fun b u there => (upd_ne (ne_of_none there free)).trans there
theorem smallZ {n : Nat} (h : n ≤ 100000) : n ≤ sizeLine := Nat.le_trans h (by decide)
/-! ### promises -/
def spCell (K : PySem.W.Frag) : Sp := fun vs H Q _ => ∃ (a : Addr) (ns : List Int) (k : Int), vs = [.ref a, .int k] ∧ SqL K H a (ns.map V.int) ∧ 0 ≤ k ∧ Q (.int (cell ns k)) H
def spSign : Sp := fun vs H Q _ => ∃ c : Int, vs = [.int c] ∧ Q (.str (st [sgn c])) H
def spWord : Sp := fun vs H Q _ => ∃ c n : Int, vs = [.int c, .int n] ∧ -1000 ≤ n ∧ n ≤ 1000 ∧ ∀ H', Same H H' → Q (.str (st (word c n))) H'
def spSame : Sp := fun vs H Q _ => ∃ a b : List Nat, vs = [.str (st a), .str (st b)] ∧ a.length ≤ 1000 ∧ b.length ≤ 1000 ∧ Q (.int (lcp a b : Nat)) H
def spCommon : Sp := fun vs H Q _ => ∃ a b : List Nat, vs = [.str (st a), .str (st b)] ∧ a.length ≤ 1000 ∧ b.length ≤ 1000 ∧ ∀ H', Same H H' → Q (.str (st (a.take (lcp a b)))) H'
def spRest : Sp := fun vs H Q _ => ∃ a b : List Nat, vs = [.str (st a), .str (st b)] ∧ a.length ≤ 1000 ∧ b.length ≤ 1000 ∧ Q (if b <+: a then .str (st (a.drop b.length)) else .non) H
/-- what law(script) promises -/
def spLaw (K : PySem.W.Frag) : Sp := fun vs H Q _ =>
  ∃ (a : Addr) (ns : List Int), vs = [.ref a] ∧ SqL K H a (ns.map V.int) ∧
    ns.length ≤ 63 ∧ ∀ H', Q (.bl true) H'
abbrev psCell : List Str := ["_law_script", "_law_k"]
abbrev psWord : List Str := ["_law_cell", "_law_size"]
end RT
namespace RT
open PySem PySem.Spec PyProof.Rows L2
/-- a def of the top as it stands -/
def DefAt (K : PySem.W.Frag) (mg : Str → Option Value) (x : Str) (s : Stmt) (f : Addr) (fd : FuncData) : Prop := Fun K x x s f fd ∧ mg x = some (.ref f)
theorem defAt {K : PySem.W.Frag} {h : Heap} {mg : Str → Option Value} {x : Str} {s : Stmt} {f : Addr} {od an : Option Addr} {sl : Array (Option Value)} {oc kV dc pm cd ct : Value} (X : K.In h) (G : h.Ns mainGlobals mg)
    (a : PySem.W.nsIn K mainGlobals x = some (some (.ref f))) (l : K.lookup f = some ⟨oc, od, .func (PySem.W.fnOf x x (defArgs s) (defBody s) (defScope s) .none kV dc pm an cd ct), sl⟩) (c : PySem.W.codeIn K cd x = true) (k : PySem.W.keepIn K (.ref f) = true) :
    ∃ fd, DefAt K mg x s f fd := ⟨_, fun_mk (st := s) l c k, PySem.W.mg_of X G a⟩
theorem DefAt.has {P : Program} {w : World} {K : PySem.W.Frag} {mg : Str → Option Value} {base : Heap} {x : Str} {s : Stmt} {f : Addr} {fd : FuncData} {ps : List Str} {k : Nat} {sp : Sp} (D : DefAt K mg x s f fd) (b : Binds K fd ps []) (F : FnOk P w K mg base CX0 k f fd ps sp) : Has P w K mg base x ps k sp :=
  ⟨f, fd, F, b, D.1.kp, D.2⟩
end RT

namespace RT
open PySem PySem.Spec PyProof.Rows L2
def topS (i : Nat) : Stmt := PySem.Challenge.pw_radixtrail_k01_words_in_common.main.body.getD i (.Pass ⟨0, 0, 0, 0⟩)
abbrev scommon : Stmt := topS 1
abbrev pcommon : List Str := ["one", "other"]
theorem ccommon : FnScope ["one", "other", "many", "sign", "other_sign"] ["one", "other"] (defScope scommon) := ⟨rfl, rfl, rfl, by decide +kernel, rfl, by decide +kernel, by decide +kernel⟩
abbrev srest : Stmt := topS 2
abbrev prest : List Str := ["name", "beginning"]
theorem crest : FnScope ["name", "beginning"] ["name", "beginning"] (defScope srest) := ⟨rfl, rfl, rfl, by decide +kernel, rfl, by decide +kernel, by decide +kernel⟩
abbrev sLcell_at : Stmt := topS 4
abbrev pLcell_at : List Str := ["_law_script", "_law_k"]
theorem cLcell_at : FnScope ["_law_script", "_law_k"] ["_law_script", "_law_k"] (defScope sLcell_at) := ⟨rfl, rfl, rfl, by decide +kernel, rfl, by decide +kernel, by decide +kernel⟩
abbrev sLsign_by : Stmt := topS 5
abbrev pLsign_by : List Str := ["_law_cell"]
theorem cLsign_by : FnScope ["_law_cell", "_law_some"] ["_law_cell"] (defScope sLsign_by) := ⟨rfl, rfl, rfl, by decide +kernel, rfl, by decide +kernel, by decide +kernel⟩
abbrev sLword_by : Stmt := topS 6
abbrev pLword_by : List Str := ["_law_cell", "_law_size"]
theorem cLword_by : FnScope ["_law_cell", "_law_size", "_law_made", "_law_number", "_law_k"] ["_law_cell", "_law_size"] (defScope sLword_by) := ⟨rfl, rfl, rfl, by decide +kernel, rfl, by decide +kernel, by decide +kernel⟩
abbrev sLsame : Stmt := topS 7
abbrev pLsame : List Str := ["_law_one", "_law_other"]
theorem cLsame : FnScope ["_law_one", "_law_other", "_law_at"] ["_law_one", "_law_other"] (defScope sLsame) := ⟨rfl, rfl, rfl, by decide +kernel, rfl, by decide +kernel, by decide +kernel⟩
abbrev slaw : Stmt := topS 8
abbrev plaw : List Str := ["_law_script"]
theorem claw : FnScope ["_law_script", "_law_size", "_law_start", "_law_one", "_law_other", "_law_due", "_law_told"] ["_law_script"] (defScope slaw) := ⟨rfl, rfl, rfl, by decide +kernel, rfl, by decide +kernel, by decide +kernel⟩
end RT
namespace RT
open PySem PySem.Spec PyProof.Rows L2
section
variable {P : Program} {w : World} {K : PySem.W.Frag} {mg : Str → Option Value} {base : Heap} {f g : Addr} {fd gd : FuncData} {k : Nat}
theorem ok_Lcell_at (F : Fun K "_law_cell_at" "_law_cell_at" sLcell_at f fd) (m_len : mg "len" = none) :
    FnOk P w K mg base CX0 1 f fd pLcell_at (spCell K) := by
  refine F.ok cLcell_at (fun vs H Q E h => ?_) (fun cdv A outer s H vs Q E hr h => ?_)
  · obtain ⟨a, ns, k, rfl, _⟩ := h
    rfl
  obtain ⟨a, ns, k, rfl, hS, h0, q⟩ := h
  refine ⟨_, (pss_cons (ps_if (pt_cmpR op_lt (pv 1) (pe_callB call_len_seq (by rfl) m_len (by decide +kernel) (pa_cons (pv 0) pa_nil)) (nomark _)) (pss_one (ps_ret (pe_ix (r := rIxL K) ix_list (pv 0) (pv 1) (fun _ _ => rfl)))) pss_nil)
    (pss_one (ps_ret pe_int))), ?_⟩
  have hl : (ns.map V.int).length = ns.length := List.length_map _
  refine ⟨_, rfl, _, rfl, a, _, rfl, .inl hS, _, _, rfl, rfl, _, rfl, ?_⟩
  refine ite2 (fun c => ?_) (fun c => ?_)
  · have c' : k < (((ns.map V.int).length : Nat) : Int) := of_decide_eq_true c
    rw [hl] at c'
    have hk : k.toNat < ns.length := by omega
    have hv : atI (ns.map V.int) k = some (.int (cell ns k)) := at_of (j := k.toNat) (by omega) (by
      unfold cell; rw [List.getElem?_map, List.getElem?_eq_getElem hk] <;> rfl)
    exact ⟨_, rfl, _, rfl, a, _, _, _, rfl, rfl, hS, hv, q⟩
  · have c' : ¬ k < (((ns.map V.int).length : Nat) : Int) := of_decide_eq_false (Bool.eq_false_iff.mpr c)
    rw [hl] at c'
    have e : cell ns k = 0 := by unfold cell; rw [List.getElem?_eq_none (by omega)] <;> rfl
    rw [e] at q
    exact q
theorem ok_Lsign_by (F : Fun K "_law_sign_by" "_law_sign_by" sLsign_by f fd) :
    FnOk P w K mg base CX0 1 f fd pLsign_by (spSign) := by
  refine F.ok cLsign_by (fun vs H Q E h => ?_) (fun cdv A outer s H vs Q E hr h => ?_)
  · obtain ⟨c, rfl, _⟩ := h
    rfl
  obtain ⟨c, rfl, q⟩ := h
  refine ⟨_, (pss_cons (ps_set (i := 1) cLsign_by.nd rfl (Or.inl rfl) pe_str)
    (pss_cons (ps_set (i := 1) cLsign_by.nd rfl (Or.inl rfl) (pe_op op_add_str (pv 1) pe_str))
    (pss_one (ps_ret (pe_ix ix_str (pv 1) (pe_op op_mod (pv 0) pe_int) (fun _ _ => rfl)))))), ?_⟩
  refine ⟨_, rfl, _, _, rfl, rfl, (by decide +kernel), ?_⟩
  refine ⟨_, rfl, _, rfl, _, _, rfl, rfl, (by show (0 : Int) < 94; decide), _, _, sgn c, rfl, rfl, (by decide +kernel), ?_, q⟩
  have e : ((Str.ofString " !\"#$&'()*+,-./0123456789:;<=>?@ABCDEFGHIJKLMNOPQRSTUVWXYZ[\\]^_`" ++ Str.ofString "abcdefghijklmnopqrstuvwxyz{|}~" : Str)).cps.toList = signTab := by decide +kernel
  rw [e]
  have hz : c % 94 = (((c % 94).toNat : Nat) : Int) := by omega
  have hq := atI_nat (xs := signTab) (sgn_at c)
  rw [← hz] at hq
  exact hq
theorem ok_Lword_by (F : Fun K "_law_word_by" "_law_word_by" sLword_by f fd)
    (G_Lsign_by : Has P w K mg base "_law_sign_by" pLsign_by 1 (spSign)) (m_range : mg "range" = none) :
    FnOk P w K mg base CX0 2 f fd pLword_by (spWord) := by
  refine F.ok cLword_by (fun vs H Q E h => ?_) (fun cdv A outer s H vs Q E hr h => ?_)
  · obtain ⟨c, n, rfl, _⟩ := h
    rfl
  obtain ⟨c, n, rfl, hn0, hn, q⟩ := h
  refine ⟨_, (pss_cons (ps_set (i := 2) cLword_by.nd rfl (Or.inl rfl) pe_str)
    (pss_cons (ps_set (i := 3) cLword_by.nd rfl (Or.inl rfl) (pv 0))
    (pss_cons (ps_for PassesOwn.never rfl (pi_range1 (by rfl) m_range (pa_cons (pv 1) pa_nil)) (pg_name (i := 4) cLword_by.nd rfl (Or.inl rfl)) (pss_cons (ps_set (i := 3) cLword_by.nd rfl (Or.inl rfl) (pe_op op_mod (pe_op op_add (pe_op op_mul (pv 3) pe_int) pe_int) pe_int))
    (pss_one (ps_set (i := 2) cLword_by.nd rfl (Or.inl rfl) (pe_op op_add_str (pv 2) (pe_has G_Lsign_by hr (by omega) (pa_cons (pe_op op_add pe_int (pe_op op_mod (pe_op op_fdiv (pv 3) pe_int) (pe_ix (r := rIxL K) ix_list (pe_lst (pa_cons pe_int (pa_cons pe_int pa_nil))) (pe_op op_mod (pv 0) pe_int) (fun _ _ => rfl)))) pa_nil)))))))
    (pss_one (ps_ret (pv 2)))))), ?_⟩
  refine ⟨_, rfl, _, rfl, n, rfl, by omega, by omega, for_range (lo := 0) (n := n.toNat) (fun i σ H' => ∃ y4, σ = [some (.int c), some (.int n), some (.str (st (wordGo c i).2)), some (.int (wordGo c i).1), y4] ∧ Same H H')
    ⟨none, rfl, Same.refl H⟩ (fun i σ H1 hi h1 => ?_) (fun σ H1 h1 => ?_)⟩
  · obtain ⟨y4, rfl, s1⟩ := h1
    refine ⟨_, rfl, _, _, rfl, rfl, .inr ⟨by decide, by decide⟩, _, _, rfl, rfl, _, _, rfl, rfl, (by show (0 : Int) < 2147483647; decide), ?_⟩
    refine ⟨_, rfl, _, rfl, _, _, rfl, rfl, ⟨by decide, by decide⟩, (by show 2 ≤ sizeLine; decide), fun p hp => ?_⟩
    have hz : c % 2 = 0 ∨ c % 2 = 1 := by omega
    refine ⟨_, rfl, _, _, rfl, rfl, (by show (0 : Int) < 2; decide), p, _, _, .int (if c % 2 = 0 then 2 else 94), rfl, rfl, SqL.of upd_same, ?_, _, _, rfl, rfl, ?_, _, _, rfl, rfl, ?_⟩
    · rcases hz with z | z <;> rw [z] <;> rfl
    · show (0 : Int) < (if c % 2 = 0 then 2 else 94)
      split <;> decide
    refine ⟨_, rfl, _, _, rfl, rfl, ?_, ?_⟩
    · rw [st_len, st_len, wordGo_len]
      exact smallZ (by simp; omega)
    · refine ⟨some (.int (0 + i)), ?_, s1.trans (same_new hp _)⟩
      rw [st_add]
      rfl
  · obtain ⟨y4, rfl, s1⟩ := h1
    exact ⟨_, rfl, q _ s1⟩
theorem ok_Lsame (F : Fun K "_law_same" "_law_same" sLsame f fd) (m_len : mg "len" = none) :
    FnOk P w K mg base CX0 1 f fd pLsame (spSame) := by
  refine F.ok cLsame (fun vs H Q E h => ?_) (fun cdv A outer s H vs Q E hr h => ?_)
  · obtain ⟨a, b, rfl, _⟩ := h
    rfl
  obtain ⟨a, b, rfl, ha, hb, q⟩ := h
  refine ⟨_, (pss_cons (ps_set (i := 2) cLsame.nd rfl (Or.inl rfl) pe_int)
    (pss_cons (ps_while PassesOwn.never (PW.pt (pw_and (pt_cmpR op_lt (pv 2) (pe_callB call_len_str (by rfl) m_len (by decide +kernel) (pa_cons (pv 0) pa_nil)) (nomark _)) (pw_and (pt_cmpR op_lt (pv 2) (pe_callB call_len_str (by rfl) m_len (by decide +kernel) (pa_cons (pv 1) pa_nil)) (nomark _)) (pw_and1 (pt_cmpR op_eq (pe_ix ix_str (pv 0) (pv 2) (fun _ _ => rfl)) (pe_ix ix_str (pv 1) (pv 2) (fun _ _ => rfl)) (nomark _)))))) (pss_one (ps_set (i := 2) cLsame.nd rfl (Or.inl rfl) (pe_op op_add (pv 2) pe_int))))
    (pss_one (ps_ret (pv 2))))), ?_⟩
  have hza : (st a).length ≤ sizeLine := by rw [st_len]; exact smallZ (by omega)
  have hzb : (st b).length ≤ sizeLine := by rw [st_len]; exact smallZ (by omega)
  refine ⟨fun m σ H' => ∃ i : Nat, m = a.length - i ∧ i ≤ a.length ∧ i ≤ b.length ∧ a.take i = b.take i ∧ σ = [some (.str (st a)), some (.str (st b)), some (.int i)] ∧ H' = H, ⟨_, 0, rfl, by omega, by omega, rfl, rfl, rfl⟩, ?_⟩
  rintro m σ H1 ⟨i, rfl, h1, h2, h3, rfl, rfl⟩
  refine ⟨_, rfl, _, rfl, _, rfl, hza, _, _, rfl, rfl, _, rfl, ?_⟩
  refine ite2 (fun c => ?_) (fun c => ?_)
  · have c' : (i : Int) < (((st a).length : Nat) : Int) := of_decide_eq_true c
    rw [st_len] at c'
    have hi : i < a.length := by omega
    refine ⟨_, rfl, _, rfl, _, rfl, hzb, _, _, rfl, rfl, _, rfl, ?_⟩
    refine ite2 (fun c => ?_) (fun c => ?_)
    · have c' : (i : Int) < (((st b).length : Nat) : Int) := of_decide_eq_true c
      rw [st_len] at c'
      have hj : i < b.length := by omega
      refine ⟨_, rfl, _, rfl, _, _, a[i], rfl, rfl, hza, atI_nat (j := i) (List.getElem?_eq_getElem hi), _, rfl, _, rfl, _, _, b[i], rfl, rfl, hzb, atI_nat (j := i) (List.getElem?_eq_getElem hj), rfl, _, rfl, ?_⟩
      refine ite2 (fun c => ?_) (fun c => ?_)
      · have c' : V.str (st [a[i]]) = V.str (st [b[i]]) := of_decide_eq_true c
        have e : a[i] = b[i] := by have := st_iff.mp c'; simpa using this
        refine ⟨fun σ' H' => ∃ i' : Nat, i' = i + 1 ∧ a.take i' = b.take i' ∧ σ' = [some (.str (st a)), some (.str (st b)), some (.int i')] ∧ H' = H1, ?_, ?_⟩
        · rintro σ' H' ⟨i', rfl, g1, rfl, rfl⟩
          exact ⟨_, by omega, i + 1, rfl, by omega, by omega, g1, rfl, rfl⟩
        · refine ⟨_, rfl, _, _, rfl, rfl, i + 1, rfl, ?_, rfl, rfl⟩
          exact take_grow h3 (List.getElem?_eq_getElem hi) (by rw [List.getElem?_eq_getElem hj, e])
      · have c' : ¬ V.str (st [a[i]]) = V.str (st [b[i]]) := of_decide_eq_false (Bool.eq_false_iff.mpr c)
        have e : lcp a b = i := lcp_of h3 h1 h2 (.inr (.inr fun z => c' (by rw [List.getElem?_eq_getElem hi, List.getElem?_eq_getElem hj] at z; rw [Option.some.inj z])))
        refine ⟨_, rfl, ?_⟩
        rw [← e]; exact q
    · have c' : ¬ (i : Int) < (((st b).length : Nat) : Int) := of_decide_eq_false (Bool.eq_false_iff.mpr c)
      rw [st_len] at c'
      have e : lcp a b = i := lcp_of h3 h1 h2 (.inr (.inl (by omega)))
      refine iteF ⟨_, rfl, ?_⟩
      rw [← e]; exact q
  · have c' : ¬ (i : Int) < (((st a).length : Nat) : Int) := of_decide_eq_false (Bool.eq_false_iff.mpr c)
    rw [st_len] at c'
    have e : lcp a b = i := lcp_of h3 h1 h2 (.inl (by omega))
    refine iteF ⟨_, rfl, ?_⟩
    rw [← e]; exact q
theorem ok_common (F : Fun K "common" "common" scommon f fd) (m_zip : mg "zip" = none) :
    FnOk P w K mg base CX0 1 f fd pcommon (spCommon) := by
  refine F.ok ccommon (fun vs H Q E h => ?_) (fun cdv A outer s H vs Q E hr h => ?_)
  · obtain ⟨a, b, rfl, _⟩ := h
    rfl
  obtain ⟨a, b, rfl, ha, hb, q⟩ := h
  refine ⟨_, (pss_cons (ps_set (i := 2) ccommon.nd rfl (Or.inl rfl) pe_int)
    (pss_cons (ps_for PassesOwn.never rfl (pi_zipS (by rfl) m_zip (pa_cons (pv 0) (pa_cons (pv 1) pa_nil))) (pg_tup (by rfl) (pgs_cons (pg_name (i := 3) ccommon.nd rfl (Or.inl rfl)) (pgs_cons (pg_name (i := 4) ccommon.nd rfl (Or.inl rfl)) pgs_nil))) (pss_cons (ps_if (pt_cmpR op_ne (pv 3) (pv 4) (nomark _)) (pss_one ps_break) pss_nil)
    (pss_one (ps_aug (i := 2) ccommon.nd rfl (.inl rfl) pe_int ip_add))))
    (pss_one (ps_ret (pe_slice sl_str (pv 0) po_none (po_some (pv 2))))))), ?_⟩
  have hza : (st a).length ≤ sizeLine := by rw [st_len]; exact smallZ (by omega)
  have fin : ∀ (i : Nat) y3 y4 H', Same H H' → lcp a b = i → tRet (tSl rSlS (tVar 0) tNoPart (tPart (tVar 2))) { nx := fun x H' => Q V.non H', rt := Q } [some (.str (st a)), some (.str (st b)), some (.int i), y3, y4] H' := fun i y3 y4 H' s1 e => by
    subst e
    refine ⟨_, rfl, _, rfl, _, rfl, _, rfl, hza, ?_⟩
    rw [cut_to]
    exact q H' s1
  refine ⟨_, rfl, _, rfl, st a, st b, rfl, fun i m σ H' => ∃ y3 y4, m = a.length - i ∧ i ≤ a.length ∧ i ≤ b.length ∧ a.take i = b.take i ∧ σ = [some (.str (st a)), some (.str (st b)), some (.int i), y3, y4] ∧ Same H H', ⟨_, none, none, rfl, by omega, by omega, rfl, rfl, Same.refl H⟩, ?_⟩
  rintro i m σ H1 ⟨y3, y4, rfl, h1, h2, h3, rfl, s1⟩
  by_cases hi : i = min a.length b.length
  · have hst : i = min (st a).cps.size (st b).cps.size := by simpa using hi
    exact .inl ⟨hst, fin i y3 y4 H1 s1 (lcp_of h3 h1 h2 (by omega))⟩
  · have hia : i < a.length := by omega
    have hib : i < b.length := by omega
    refine .inr ⟨⟨by simpa using hia, by simpa using hib⟩, fun σ' H' => ∃ y3 y4, a.take (i + 1) = b.take (i + 1) ∧ σ' = [some (.str (st a)), some (.str (st b)), some (.int ((i + 1 : Nat) : Int)), y3, y4] ∧ Same H H', fun σ' H' hN => ?_, fun x H' hy => ?_⟩
    · obtain ⟨z3, z4, g1, rfl, g2⟩ := hN
      exact ⟨_, by omega, z3, z4, rfl, by omega, by omega, g1, rfl, g2⟩
    · obtain ⟨T, c, d, rfl, nT, rfl, hc, hd⟩ := hy
      have hc' : a[i]? = some c := by simpa using hc
      have hd' : b[i]? = some d := by simpa using hd
      refine ⟨T, [.str ⟨#[c]⟩, .str ⟨#[d]⟩], rfl, .inl (.inl upd_same), rfl, .str ⟨#[c]⟩, [.str ⟨#[d]⟩], rfl, .str ⟨#[d]⟩, [], rfl, rfl, ?_⟩
      refine ⟨_, rfl, _, rfl, rfl, _, rfl, ?_⟩
      refine ite2 (fun z => ?_) (fun z => ?_)
      · have z' : ¬ V.str (st [c]) = V.str (st [d]) := fun e => by rw [show (V.str ⟨#[c]⟩ = V.str ⟨#[d]⟩) from e] at z; simp at z
        have e : lcp a b = i := lcp_of h3 h1 h2 (.inr (.inr fun e => z' (by rw [hc', hd'] at e; rw [Option.some.inj e])))
        exact fin i _ _ _ (s1.trans (same_new nT _)) e
      · have z' : V.str (st [c]) = V.str (st [d]) := by
          refine Decidable.byContradiction fun e => z ?_
          show (!decide (V.str (st [c]) = V.str (st [d]))) = true
          rw [decide_eq_false e]; rfl
        have e : c = d := by have := st_iff.mp z'; simpa using this
        subst e
        refine ⟨_, rfl, _, _, rfl, rfl, some (.str ⟨#[c]⟩), some (.str ⟨#[c]⟩), take_grow h3 hc' hd', ?_, s1.trans (same_new nT _)⟩
        rfl
theorem ok_rest (F : Fun K "rest" "rest" srest f fd) (m_len : mg "len" = none) :
    FnOk P w K mg base CX0 1 f fd prest (spRest) := by
  refine F.ok crest (fun vs H Q E h => ?_) (fun cdv A outer s H vs Q E hr h => ?_)
  · obtain ⟨a, b, rfl, _⟩ := h
    rfl
  obtain ⟨a, b, rfl, ha, hb, q⟩ := h
  refine ⟨_, (pss_cons (ps_if (pt_not (pt_val (pe_m1 PySem.F.slot_str_startswith PySem.F.type_str_startswith mt_startswith (pv 0) (pv 1)))) (pss_one (ps_ret pe_non)) pss_nil)
    (pss_one (ps_ret (pe_slice sl_str (pv 0) (po_some (pe_callB call_len_str (by rfl) m_len (by decide +kernel) (pa_cons (pv 1) pa_nil))) po_none)))), ?_⟩
  have hza : (st a).length ≤ sizeLine := by rw [st_len]; exact smallZ (by omega)
  have hzb : (st b).length ≤ sizeLine := by rw [st_len]; exact smallZ (by omega)
  refine ⟨_, rfl, ⟨_, rfl⟩, _, rfl, _, _, rfl, rfl, _, rfl, ?_⟩
  show if (!Txt.startswith (st a) (st b)) = true then _ else _
  rw [starts]
  by_cases c : b <+: a
  · rw [if_pos c] at q
    rw [decide_eq_true c]
    refine iteF ?_
    refine ⟨_, rfl, _, rfl, _, rfl, hzb, _, rfl, _, rfl, hza, ?_⟩
    rw [st_len, cut_from]
    exact q
  · rw [if_neg c] at q
    rw [decide_eq_false c]
    exact iteT q
theorem ok_law (F : Fun K "law" "law" slaw f fd)
    (G_Lword_by : Has P w K mg base "_law_word_by" pLword_by 2 (spWord))
    (G_rest : Has P w K mg base "rest" prest 1 (spRest))
    (G_Lcell_at : Has P w K mg base "_law_cell_at" pLcell_at 1 (spCell K))
    (G_common : Has P w K mg base "common" pcommon 1 (spCommon))
    (G_Lsame : Has P w K mg base "_law_same" pLsame 1 (spSame)) (m_len : mg "len" = none) (m_isinstance : mg "isinstance" = none) (m_str : mg "str" = none) :
    FnOk P w K mg base CX0 3 f fd plaw (spLaw K) := by
  refine F.ok claw (fun vs H Q E h => ?_) (fun cdv A outer s H vs Q E hr h => ?_)
  · obtain ⟨a, ns, rfl, _⟩ := h
    rfl
  obtain ⟨a, ns, rfl, hS, h63, q⟩ := h
  refine ⟨_, (pss_cons (ps_set (i := 1) claw.nd rfl (Or.inl rfl) (pe_op op_mod (pe_has G_Lcell_at hr (by omega) (pa_cons (pv 0) (pa_cons pe_int pa_nil))) pe_int))
    (C8.pss_cut (ps_if (pt_cmpR op_eq (pe_op op_mod (pe_op op_fdiv (pe_has G_Lcell_at hr (by omega) (pa_cons (pv 0) (pa_cons pe_int pa_nil))) pe_int) pe_int) pe_int (nomark _)) (pss_one (ps_set (i := 1) claw.nd rfl (Or.inl rfl) (pe_op op_mod (pe_op op_fdiv (pe_has G_Lcell_at hr (by omega) (pa_cons (pv 0) (pa_cons pe_int pa_nil))) pe_int) pe_int))) pss_nil)
    (pss_cons (ps_set (i := 2) claw.nd rfl (Or.inl rfl) (pe_has G_Lword_by hr (by omega) (pa_cons (pe_has G_Lcell_at hr (by omega) (pa_cons (pv 0) (pa_cons pe_int pa_nil))) (pa_cons (pv 1) pa_nil))))
    (pss_cons (ps_set (i := 3) claw.nd rfl (Or.inl rfl) (pe_op op_add_str (pv 2) (pe_has G_Lword_by hr (by omega) (pa_cons (pe_op op_fdiv (pe_has G_Lcell_at hr (by omega) (pa_cons (pv 0) (pa_cons pe_int pa_nil))) pe_int) (pa_cons (pe_op op_mod (pe_has G_Lcell_at hr (by omega) (pa_cons (pv 0) (pa_cons pe_int pa_nil))) pe_int) pa_nil)))))
    (pss_cons (ps_set (i := 4) claw.nd rfl (Or.inl rfl) (pe_op op_add_str (pv 2) (pe_has G_Lword_by hr (by omega) (pa_cons (pe_op op_fdiv (pe_has G_Lcell_at hr (by omega) (pa_cons (pv 0) (pa_cons pe_int pa_nil))) pe_int) (pa_cons (pe_op op_mod (pe_has G_Lcell_at hr (by omega) (pa_cons (pv 0) (pa_cons pe_int pa_nil))) pe_int) pa_nil)))))
    (C8.pss_cut (ps_if (pt_cmpR op_eq (pe_op op_mod (pe_has G_Lcell_at hr (by omega) (pa_cons (pv 0) (pa_cons pe_int pa_nil))) pe_int) pe_int (nomark _)) (pss_one (ps_set (i := 4) claw.nd rfl (Or.inl rfl) (pe_slice sl_str (pv 3) po_none (po_some (pe_op op_mod (pe_op op_fdiv (pe_has G_Lcell_at hr (by omega) (pa_cons (pv 0) (pa_cons pe_int pa_nil))) pe_int) (pe_op op_add (pe_callB call_len_str (by rfl) m_len (by decide +kernel) (pa_cons (pv 3) pa_nil)) pe_int)))))) pss_nil)
    (pss_cons (ps_set (i := 5) claw.nd rfl (Or.inl rfl) (pe_slice sl_str (pv 3) po_none (po_some (pe_has G_Lsame hr (by omega) (pa_cons (pv 3) (pa_cons (pv 4) pa_nil))))))
    (C8.pss_cut (ps_for PassesOwn.never rfl (pi_list (pe_lst (pa_cons (pe_has G_common hr (by omega) (pa_cons (pv 3) (pa_cons (pv 4) pa_nil))) (pa_cons (pe_has G_common hr (by omega) (pa_cons (pv 4) (pa_cons (pv 3) pa_nil))) pa_nil)))) (pg_name (i := 6) claw.nd rfl (Or.inl rfl)) (pss_one (ps_if (PW.pt (pw_or (pt_not (pt_val (pe_callB call_isi (by rfl) m_isinstance (by decide +kernel) (pa_cons (pv 6) (pa_cons (pe_bltn rfl m_str (by decide +kernel) (v := .ty "str") rfl) pa_nil))))) (pw_or1 (pt_cmpR op_ne (pv 6) (pv 5) (nomark _))))) (pss_one (ps_ret pe_bl)) pss_nil)))
    (pss_cons (ps_set (i := 6) claw.nd rfl (Or.inl rfl) (pe_has G_rest hr (by omega) (pa_cons (pv 3) (pa_cons (pv 5) pa_nil))))
    (pss_cons (ps_if (PW.pt (pw_or (pt_not (pt_val (pe_callB call_isi (by rfl) m_isinstance (by decide +kernel) (pa_cons (pv 6) (pa_cons (pe_bltn rfl m_str (by decide +kernel) (v := .ty "str") rfl) pa_nil))))) (pw_or1 (pt_cmpR op_ne (pv 6) (pe_slice sl_str (pv 3) (po_some (pe_callB call_len_str (by rfl) m_len (by decide +kernel) (pa_cons (pv 5) pa_nil))) po_none) (nomark _))))) (pss_one (ps_ret pe_bl)) pss_nil)
    (pss_cons (ps_set (i := 6) claw.nd rfl (Or.inl rfl) (pe_has G_rest hr (by omega) (pa_cons (pv 3) (pa_cons (pv 4) pa_nil))))
    (pss_cons (ps_if (pt_cmpR op_eq (pe_callB call_len_str (by rfl) m_len (by decide +kernel) (pa_cons (pv 5) pa_nil)) (pe_callB call_len_str (by rfl) m_len (by decide +kernel) (pa_cons (pv 4) pa_nil)) (nomark _)) (pss_one (ps_ret (pe_and (pe_callB call_isi (by rfl) m_isinstance (by decide +kernel) (pa_cons (pv 6) (pa_cons (pe_bltn rfl m_str (by decide +kernel) (v := .ty "str") rfl) pa_nil))) (pe_one (pe_cmpR op_eq (pe_op op_add_str (pv 4) (pv 6)) (pv 3) (nomark _)))))) pss_nil)
    (pss_one (ps_ret (pe_cmpR op_isN (pv 6) pe_non (nomark _)))))))))))))))), ?_⟩
  have cl : ∀ (H : Hp) (k : Int) (Q : VK) (h0 : 0 ≤ k) (hS : SqL K H a (ns.map V.int)), Q (.int (cell ns k)) H → spCell K [.ref a, .int k] H Q E0 := fun H k Q h0 hS q => ⟨a, ns, k, rfl, hS, h0, q⟩
  have e0 : ∀ {A B : Prop} {b : Bool}, (b = true → A) → (b = false → B) → if b = true then A else B := fun {A B b} h1 h2 => by cases b with | true => exact iteT (h1 rfl) | false => exact iteF (h2 rfl)
  refine ⟨_, rfl, ⟨a, ns, _, rfl, hS, by decide, _, _, rfl, rfl, (by show (0 : Int) < 6; decide), ?_⟩⟩
  -- the size
  refine ⟨fun σ' H' => ∃ n : Int, 0 ≤ n ∧ n < 200 ∧ σ' = [some (.ref a), some (.int n), none, none, none, none, none] ∧ H' = H, ?_, ?_⟩
  · refine ⟨_, rfl, ⟨a, ns, _, rfl, hS, by decide, _, _, rfl, rfl, ⟨by decide, by decide⟩, _, _, rfl, rfl, (by show (0 : Int) < 4; decide), rfl, _, rfl, e0 (fun _ => ?_) (fun _ => ?_)⟩⟩
    · refine ⟨_, rfl, ⟨a, ns, _, rfl, hS, by decide, _, _, rfl, rfl, ⟨by decide, by decide⟩, _, _, rfl, rfl, (by show (0 : Int) < 200; decide), ?_⟩⟩
      exact ⟨_, by omega, by omega, rfl, rfl⟩
    · exact ⟨_, by omega, by omega, rfl, rfl⟩
  rintro σ' H' ⟨n, hn0, hn, rfl, rfl⟩
  refine ⟨_, rfl, ⟨a, ns, _, rfl, hS, by decide, _, rfl, _, n, rfl, by omega, by omega, fun H1 s1 => ?_⟩⟩
  have hS1 := s1.seq hS
  have wb : ∀ c : Int, 0 ≤ c % 7 ∧ c % 7 < 7 := fun c => by omega
  have wl : ∀ c d : Int, (word d (c % 7)).length ≤ 7 := fun c d => by rw [word_len]; have := wb c; omega
  -- one
  refine ⟨_, rfl, _, rfl, ⟨a, ns, _, rfl, hS1, by decide, _, _, rfl, rfl, ⟨by decide, by decide⟩, _, rfl, ⟨a, ns, _, rfl, hS1, by decide, _, _, rfl, rfl, (by show (0 : Int) < 7; decide), _, _, rfl, by have := wb (cell ns 2); omega, by have := wb (cell ns 2); omega, fun H2 s2 => ?_⟩⟩⟩
  have hS2 := s2.seq hS1
  generalize hst : word (cell ns 1) n = start0
  have lst0 : start0.length ≤ 200 := by rw [← hst, word_len]; omega
  refine ⟨_, _, rfl, rfl, ?_, ?_⟩
  · rw [st_len, st_len]; have := wl (cell ns 2) (cell ns 2 / 7); exact smallZ (by omega)
  rw [st_add]
  generalize hone : start0 ++ word (cell ns 2 / 7) (cell ns 2 % 7) = one
  have lone : one.length ≤ 300 := by rw [← hone, List.length_append]; have := wl (cell ns 2) (cell ns 2 / 7); omega
  refine ⟨_, rfl, _, rfl, ⟨a, ns, _, rfl, hS2, by decide, _, _, rfl, rfl, ⟨by decide, by decide⟩, _, rfl, ⟨a, ns, _, rfl, hS2, by decide, _, _, rfl, rfl, (by show (0 : Int) < 7; decide), _, _, rfl, by have := wb (cell ns 3); omega, by have := wb (cell ns 3); omega, fun H3 s3 => ?_⟩⟩⟩
  have hS3 := s3.seq hS2
  refine ⟨_, _, rfl, rfl, ?_, ?_⟩
  · rw [st_len, st_len]; have := wl (cell ns 3) (cell ns 3 / 7); exact smallZ (by omega)
  rw [st_add]
  generalize hot : start0 ++ word (cell ns 3 / 7) (cell ns 3 % 7) = other
  have lot : other.length ≤ 300 := by rw [← hot, List.length_append]; have := wl (cell ns 3) (cell ns 3 / 7); omega
  -- other
  have z1 : (st one).length ≤ sizeLine := by rw [st_len]; exact smallZ (by omega)
  refine ⟨fun σ' H' => ∃ other : List Nat, other.length ≤ 300 ∧ σ' = [some (.ref a), some (.int n), some (.str (st start0)), some (.str (st one)), some (.str (st other)), none, none] ∧ H' = H3, ?_, ?_⟩
  · refine ⟨_, rfl, ⟨a, ns, _, rfl, hS3, by decide, _, _, rfl, rfl, (by show (0 : Int) < 6; decide), rfl, _, rfl, e0 (fun _ => ?_) (fun _ => ?_)⟩⟩
    · refine ⟨_, rfl, _, rfl, ⟨a, ns, _, rfl, hS3, by decide, _, _, rfl, rfl, ⟨by decide, by decide⟩, _, rfl, _, rfl, z1, _, _, rfl, rfl, _, _, rfl, rfl, ?_, _, rfl, _, rfl, z1, ?_⟩⟩
      · show (0 : Int) < ((st one).length : Int) + 1
        omega
      · have hp : 0 ≤ cell ns 4 / 6 % (((st one).length : Int) + 1) := Int.emod_nonneg _ (by omega)
        rw [show cell ns 4 / 6 % (((st one).length : Int) + 1) = (((cell ns 4 / 6 % (((st one).length : Int) + 1)).toNat : Nat) : Int) from (Int.toNat_of_nonneg hp).symm, cut_to]
        exact ⟨_, by rw [List.length_take]; omega, rfl, rfl⟩
    · exact ⟨other, lot, rfl, rfl⟩
  rintro σ' H' ⟨oth, lo, rfl, rfl⟩
  have z2 : (st oth).length ≤ sizeLine := by rw [st_len]; exact smallZ (by omega)
  -- due
  refine ⟨_, rfl, _, rfl, _, rfl, one, oth, rfl, by omega, by omega, _, rfl, _, rfl, z1, ?_⟩
  rw [cut_to]
  generalize hdue : one.take (lcp one oth) = due
  have hdp : due <+: one := by rw [← hdue]; exact List.take_prefix _ _
  have ldu : due.length = lcp one oth := by rw [← hdue, List.length_take]; have := lcp_le1 one oth; omega
  have ldu' : due.length ≤ 300 := by have := lcp_le1 one oth; omega
  have z3 : (st due).length ≤ sizeLine := by rw [st_len]; exact smallZ (by omega)
  have hdue2 : oth.take (lcp oth one) = due := by rw [← hdue, lcp_take one oth, lcp_comm]
  -- the loop over both tellings
  refine ⟨fun σ' H' => ∃ y6, σ' = [some (.ref a), some (.int n), some (.str (st start0)), some (.str (st one)), some (.str (st oth)), some (.str (st due)), y6], ?_, ?_⟩
  · refine ⟨_, rfl, _, rfl, one, oth, rfl, by omega, by omega, fun H4 s4 => ⟨_, rfl, _, rfl, oth, one, rfl, by omega, by omega, fun H5 s5 => ?_⟩⟩
    rw [hdue, hdue2]
    refine ⟨(by show 2 ≤ sizeLine; decide), fun l nl => ⟨l, rfl, ⟨_, SqL.of upd_same⟩, for_list (xs := [.str (st due), .str (st due)]) (fun _ σ' H' => H' l = some (.lst [.str (st due), .str (st due)]) ∧ ∃ y6, σ' = [some (.ref a), some (.int n), some (.str (st start0)), some (.str (st one)), some (.str (st oth)), some (.str (st due)), y6])
      ⟨upd_same, none, rfl⟩ (fun _ _ _ _ h => SqL.of h.1) (fun i x σ' H' hx h => ?_) (fun σ' H' h => h.2)⟩⟩
    obtain ⟨hl, y6, rfl⟩ := h
    have ex : x = .str (st due) := by
      have hm := List.mem_of_getElem? hx
      simpa using hm
    subst ex
    refine ⟨_, rfl, _, _, .type "str", .type "str", true, rfl, .ty _, .base (.str _), kit_ty (by decide +kernel), _, rfl, ?_⟩
    refine iteF ⟨_, rfl, _, rfl, rfl, _, rfl, ?_⟩
    refine iteNS rfl ⟨hl, _, rfl⟩
  rintro σ' H' ⟨y6, rfl⟩
  -- rest(one, due)
  refine ⟨_, rfl, _, rfl, one, due, rfl, by omega, by omega, ?_⟩
  rw [if_pos hdp]
  refine ⟨_, rfl, _, _, .type "str", .type "str", true, rfl, .ty _, .base (.str _), kit_ty (by decide +kernel), _, rfl, ?_⟩
  refine iteF ⟨_, rfl, _, rfl, _, rfl, _, rfl, z3, _, rfl, _, rfl, z1, ?_⟩
  rw [st_len, cut_from]
  refine ⟨rfl, _, rfl, iteNS rfl ?_⟩
  -- rest(one, oth)
  refine ⟨_, rfl, _, rfl, one, oth, rfl, by omega, by omega, ?_⟩
  refine ⟨_, rfl, _, rfl, z3, _, rfl, _, rfl, z2, rfl, _, rfl, ?_⟩
  rw [st_len, st_len]
  have hpre : oth <+: one ↔ due.length = oth.length := by
    constructor
    · intro h
      rw [ldu]
      have h2 := List.prefix_iff_eq_take.mp h
      exact lcp_of (by rw [List.take_length]; exact h2.symm) h.length_le (Nat.le_refl _) (.inr (.inl (Nat.le_refl _)))
    · intro h
      have h2 := lcp_take one oth
      rw [← ldu, h, List.take_length] at h2
      exact List.prefix_iff_eq_take.mpr h2.symm
  refine e0 (fun c => ?_) (fun c => ?_)
  · have c' : V.int ((due.length : Nat) : Int) = V.int ((oth.length : Nat) : Int) := of_decide_eq_true c
    have c2 : oth <+: one := hpre.mpr (by have := V.int.inj c'; omega)
    rw [if_pos c2]
    refine ⟨_, rfl, _, _, .type "str", .type "str", true, rfl, .ty _, .base (.str _), kit_ty (by decide +kernel), _, rfl, iteT ?_⟩
    refine ⟨_, rfl, _, rfl, _, _, rfl, rfl, ?_, _, rfl, rfl, ?_⟩
    · rw [st_len, st_len, List.length_drop]; exact smallZ (by omega)
    rw [st_add]
    have e : oth ++ one.drop oth.length = one := by
      obtain ⟨t, rfl⟩ := c2
      simp
    rw [e, decide_eq_true rfl]
    exact q _
  · have c' : ¬ V.int ((due.length : Nat) : Int) = V.int ((oth.length : Nat) : Int) := of_decide_eq_false c
    have c2 : ¬ oth <+: one := fun z => c' (by rw [hpre.mp z])
    rw [if_neg c2]
    refine ⟨_, rfl, rfl, ?_⟩
    exact q _
end
end RT
namespace RT
open PySem PySem.Spec PyProof.Rows L2
theorem all_ok {l : PySem.W.OpenLaw} {w : World} {K : PySem.W.Frag} {mg : Str → Option Value} {fa f1 f2 f4 f5 f6 f7 f8 : Addr} (hfa : mg "law" = some (.ref fa))
    (h1 : ∃ fd, DefAt K mg "common" scommon f1 fd)
    (h2 : ∃ fd, DefAt K mg "rest" srest f2 fd)
    (h4 : ∃ fd, DefAt K mg "_law_cell_at" sLcell_at f4 fd)
    (h5 : ∃ fd, DefAt K mg "_law_sign_by" sLsign_by f5 fd)
    (h6 : ∃ fd, DefAt K mg "_law_word_by" sLword_by f6 fd)
    (h7 : ∃ fd, DefAt K mg "_law_same" sLsame f7 fd)
    (h8 : ∃ fd, DefAt K mg "law" slaw f8 fd)
    (m_zip : mg "zip" = none)
    (m_len : mg "len" = none)
    (m_range : mg "range" = none)
    (m_isinstance : mg "isinstance" = none)
    (m_str : mg "str" = none)
    : ∃ fd : FuncData, (∀ (s : Shared) (v : Value), BindsTo s fd ⟨[v], []⟩ [("_law_script", v)]) ∧ ∀ base : Heap, K.In base → base.Ns mainGlobals mg → FnOk l.prog w K mg base CX0 3 fa fd ["_law_script"] (spLaw K) := by
  obtain ⟨fd1, D1⟩ := h1
  obtain ⟨fd2, D2⟩ := h2
  obtain ⟨fd4, D4⟩ := h4
  obtain ⟨fd5, D5⟩ := h5
  obtain ⟨fd6, D6⟩ := h6
  obtain ⟨fd7, D7⟩ := h7
  obtain ⟨fd8, D8⟩ := h8
  have e := hfa.symm.trans D8.2
  cases e
  have bcommon := D1.1.binds (ps := pcommon) fun _ _ _ _ _ _ us hl => match us, hl with | [_, _], _ => rfl
  have Dcommon := D1
  have brest := D2.1.binds (ps := prest) fun _ _ _ _ _ _ us hl => match us, hl with | [_, _], _ => rfl
  have Drest := D2
  have bLcell_at := D4.1.binds (ps := pLcell_at) fun _ _ _ _ _ _ us hl => match us, hl with | [_, _], _ => rfl
  have DLcell_at := D4
  have bLsign_by := D5.1.binds (ps := pLsign_by) fun _ _ _ _ _ _ us hl => match us, hl with | [_], _ => rfl
  have DLsign_by := D5
  have bLword_by := D6.1.binds (ps := pLword_by) fun _ _ _ _ _ _ us hl => match us, hl with | [_, _], _ => rfl
  have DLword_by := D6
  have bLsame := D7.1.binds (ps := pLsame) fun _ _ _ _ _ _ us hl => match us, hl with | [_, _], _ => rfl
  have DLsame := D7
  have blaw := D8.1.binds (ps := plaw) fun _ _ _ _ _ _ us hl => match us, hl with | [_], _ => rfl
  have Dlaw := D8
  have bx := D8.1.ex
  refine ⟨fd8, ?_, fun base _ _ => ?_⟩
  · obtain ⟨oc, od, kV, doc, pm, an, cdv, ct, osl, rfl, _⟩ := bx
    exact fun s v => .of_eq rfl
  · clear bx
    have H_Lsign_by : Has l.prog w K mg base "_law_sign_by" pLsign_by 1 (spSign) := DLsign_by.has bLsign_by (ok_Lsign_by DLsign_by.1  )
    have H_Lword_by : Has l.prog w K mg base "_law_word_by" pLword_by 2 (spWord) := DLword_by.has bLword_by (ok_Lword_by DLword_by.1 H_Lsign_by m_range)
    have H_rest : Has l.prog w K mg base "rest" prest 1 (spRest) := Drest.has brest (ok_rest Drest.1  m_len)
    have H_Lcell_at : Has l.prog w K mg base "_law_cell_at" pLcell_at 1 (spCell K) := DLcell_at.has bLcell_at (ok_Lcell_at DLcell_at.1  m_len)
    have H_common : Has l.prog w K mg base "common" pcommon 1 (spCommon) := Dcommon.has bcommon (ok_common Dcommon.1  m_zip)
    have H_Lsame : Has l.prog w K mg base "_law_same" pLsame 1 (spSame) := DLsame.has bLsame (ok_Lsame DLsame.1  m_len)
    exact ok_law Dlaw.1 H_Lword_by H_rest H_Lcell_at H_common H_Lsame m_len m_isinstance m_str
end RT
open PySem PySem.W PyProof.Rows
set_option maxHeartbeats 0 in
theorem PySem.Challenge.cw_radixtrail_k01_words_in_common_holds : PySem.Challenge.rw_radixtrail_k01_words_in_common.Holds := by
  w_on; o_law; k_head; (case hw => w_witness2)
  k_fill
  refine L2.walk_of (l := PySem.Challenge.rw_radixtrail_k01_words_in_common) (n := 63) (k := 3) (x := "_law_script") (CX := fun _ => L2.CX0) (sp := fun w => RT.spLaw _) rfl (by decide) rfl ⟨rfl, by decide, by decide⟩ (fun w h Y => PySem.W.kIn_of Y) ?F (fun _ _ a ns hl _ hS => ⟨a, ns, rfl, hS, hl, fun _ => rfl⟩) (fun _ _ _ _ _ h => h)
  case F =>
    intro w mg fa h KX G hmg
    refine' RT.all_ok (l := PySem.Challenge.rw_radixtrail_k01_words_in_common) (w := w) (mg := mg) hmg (RT.defAt KX G ?a1 ?l1 ?c1 ?k1)  (RT.defAt KX G ?a2 ?l2 ?c2 ?k2)  (RT.defAt KX G ?a4 ?l4 ?c4 ?k4)  (RT.defAt KX G ?a5 ?l5 ?c5 ?k5)  (RT.defAt KX G ?a6 ?l6 ?c6 ?k6)  (RT.defAt KX G ?a7 ?l7 ?c7 ?k7)  (RT.defAt KX G ?a8 ?l8 ?c8 ?k8)
      (PySem.W.mg_none_of KX G ?z0)  (PySem.W.mg_none_of KX G ?z1)  (PySem.W.mg_none_of KX G ?z2)  (PySem.W.mg_none_of KX G ?z3)  (PySem.W.mg_none_of KX G ?z4)
    (case a1 => k_is)
    (case l1 => k_is)
    (case c1 => k_is)
    (case k1 => k_is)
    (case a2 => k_is)
    (case l2 => k_is)
    (case c2 => k_is)
    (case k2 => k_is)
    (case a4 => k_is)
    (case l4 => k_is)
    (case c4 => k_is)
    (case k4 => k_is)
    (case a5 => k_is)
    (case l5 => k_is)
    (case c5 => k_is)
    (case k5 => k_is)
    (case a6 => k_is)
    (case l6 => k_is)
    (case c6 => k_is)
    (case k6 => k_is)
    (case a7 => k_is)
    (case l7 => k_is)
    (case c7 => k_is)
    (case k7 => k_is)
    (case a8 => k_is)
    (case l8 => k_is)
    (case c8 => k_is)
    (case k8 => k_is)
    (case z0 => k_is)
    (case z1 => k_is)
    (case z2 => k_is)
    (case z3 => k_is)
    (case z4 => k_is)

