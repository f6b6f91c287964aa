import PyProof.Rows.All
import Wide.All
import OpenK.AllK
import Wide.FinOn
import HandS.TryMany
import HandS.ExcIs
import HandS.ForMost
import HandS.Walk
import KE.GoesNew
import HandS.IsInst
import HandS.Codes
import KE.SortData
import HandS.Strs
import HandS.SetKeys
import HandS.Text
import HandS.ForExc
import HandS.RaiseMore
import HandS.FStr
import HandS.CallRecv
import HandS.TryOnly
import HandS.More
import HandS.ExcInit
import HandS.HotCalls
import KE.KDictCopyH
import HandS.Dict
import PyProof.NeKinds
import HandS.Style
import HandS.Iter
import HandS.Conv
import HandS.WordsDict
import HandS.Small
import HandS.List
import PySem.Challenge.RW_radixtrail_k12_whole_deeds
set_option Elab.async false
set_option linter.all false
set_option maxRecDepth 100000
set_option maxHeartbeats 4000000
/-! several clauses 'except C as n', of one name -/
namespace RT
open PySem PySem.Spec PyProof.Rows L2
abbrev Cls1 : Type := Value × (Addr → Value → Option Addr → TS)
/-- what they wish, one behind the other -/
def wAll (K : PySem.W.Frag) (i : Nat) (Wout : WX) (D : Ends) : List Cls1 → WX
  | [] => Wout
  | p :: r => wAs K p.1 i p.2 (wAll K i Wout D r) D
inductive AsOk (X : Cx) (n : Str) : List ExceptHandler → List Cls1 → Prop
  | none : AsOk X n [] []
  | more {x : Str} {p : Cls1} {b : Stmt} {rest : List Stmt} {p1 p2 : Pos} {hs : List ExceptHandler} {l : List Cls1} (named : Names X x p.1)
      (does : ∀ (a : Addr) (oe : Obj) (cls : Value) (d : Option Addr) (pn : List (Addr × Obj)), Zc cls d oe → (∃ vs, oe.data = .fields vs) → PSs (X.suite a ((a, oe) :: pn)) (b :: rest) (p.2 a cls d)) (r : AsOk X n hs l) :
      AsOk X n (.ExceptHandler (some (.Name x p1)) (some n) (b :: rest) p2 :: hs) (p :: l)
section
variable {X : Cx} {n : Str} {i : Nat} {body : List Stmt} {h0 : ExceptHandler} {hds : List ExceptHandler} {l : List Cls1} {pos : Pos} {tb : WX → TS} {Wout : WX}
theorem ps_try_all (stk : X.stack = X.env :: X.outer) (frm : X.env.frame = some X.env.locals) (nd : X.N.Nodup) (at_ : X.N[i]? = some n) (loc : X.env.kindOf n = some .local) (tk : Takes X Wout)
    (hb : ∀ (W : WX) (pn : List (Addr × Obj)) (xe : Value → Shared → Prop), Takes (X.tr pn xe) W → PassesOwn (model X.prog X.w) X.A X.env xe → PSs (X.tr pn xe) body (tb W)) (cl : AsOk X n (h0 :: hds) l) :
    PS X (.Try body (h0 :: hds) [] [] pos) (fun D σ H => tb (wAll X.K i Wout D l) D σ H) := by
  refine ⟨fun pins s σ H D I h => wpAny_Try_except ?_⟩
  have ok := I.ok
  have frs' : X.A.frames = some (X.env :: X.outer) := ok.frames.trans (by rw [stk])
  have isL : Loc X.env.scope n := .inl loc
  let caught : Value → Shared → Prop := fun e s1 => wpAny (model X.prog X.w) X.A (noteFrame e X.env) (fun _ s2 => wpAny (model X.prog X.w) X.A (setFlight e none) (fun _ s3 =>
    wpAny (model X.prog X.w) X.A (handleBy e X.env (h0 :: hds)) (SP X pins D) X.xe s3) X.xe s2) X.xe s1
  have run := (hb (wAll X.K i Wout D l) (X.pn ++ pins) caught (fun u s' got => ?c) PassesOwn.looking).run [] s σ H D (I.toTry _) h
  case c =>
    obtain ⟨a, B, sI, pins', σ', H', cls, d, rfl, J0, nb, up, sky, na, os, ag, w⟩ := got
    have J : Inv X pins σ' H' sI := J0.ofTry ok
    have over : Sky B (X.env :: X.outer) a (Zc cls d) X.env.locals s'.heap := by rw [← stk]; exact sky
    refine (Sky.land Zc.steady frs' frm over fun h3 f3 up3 => ?_ : wpAny (model X.prog X.w) X.A (noteFrame (.ref a) X.env) _ _ _)
    have J3 : Inv X pins σ' H' { s' with heap := h3 } := J.landed nb f3.1 (up.trans up3) os ag
    obtain ⟨o3, v3, at3, z3, dt3⟩ := f3.there
    have off : a ∉ frs (X.env :: X.outer) := fun m => by
      obtain ⟨_, o', e', nf⟩ := f3.2.2.1.mem m
      exact nf _ (by rw [at3] at e'; cases e'; exact dt3)
    have offL : a ≠ X.env.locals := fun z => off (List.mem_filterMap.mpr ⟨X.env, List.mem_cons_self, by rw [frm, z]⟩)
    have offF : a ∉ X.fs := fun m => by
      obtain ⟨e, he, q⟩ := List.mem_filterMap.mp m
      exact off (List.mem_filterMap.mpr ⟨e, List.mem_cons_of_mem _ he, q⟩)
    have S3 := J3.suite at3 dt3 na offL offF
    have all : ∀ {hs : List ExceptHandler} {l' : List Cls1}, AsOk X n hs l' → wAll X.K i Wout D l' cls d σ' H' → wpAny (model X.prog X.w) X.A (handleBy (.ref a) X.env hs) (SP X pins D) X.xe { s' with heap := h3 } := by
      intro hs l' k
      induction k with
      | none =>
        intro w
        obtain ⟨k1, k2, k3, oe, vs, T, oT, ts', he, hz, hd, h1, hr⟩ := id f3
        have last : wpAny (model X.prog X.w) X.A (setFlight (.ref a) X.env.frame) (fun _ s4 => wpAny (model X.prog X.w) X.A (throw (.ref a) : Sem Flow) (SP X pins D) X.xe s4) X.xe { s' with heap := h3 } := by
          rw [frm]
          exact HandSPX.setFlight_upZ f3 fun h4 hh4 up4 => wpAny_throw (tk _ _ ⟨a, B, sI, pins, σ', H', cls, d, rfl, J, nb, (up.trans up3).trans up4, .inr (.inr (by rw [stk]; exact hh4)), na, os, ag, w⟩)
        refine wpAny_handleBy_nil ?_
        unfold PySem.passOn
        refine wpAny_bind (wpAny_field he hd h1 ?_)
        rw [if_neg (by simp : ¬ ((Value.ref T == Value.none) = true))]
        first
          | exact wpAny_bind (wpAny_pure (wpAny_bind last))
          | exact wpAny_bind last
      | @more x p b rest p1 p2 hs2 l2 named does r ih =>
        intro w
        obtain ⟨yes, is, on, other⟩ := w
        have LT : PySem.W.Looks (model X.prog X.w) h3 (typeOf (.ref a)) cls := fun A Q E s k q => wpAny_typeOf_ref (k _ _ at3) (by rw [z3.1]; exact q)
        have LM := PySem.W.exm_one (M := model X.prog X.w) J3.kIn LT is
        have look : ∀ {Q : Value → Shared → Prop} {E : Value → Shared → Prop}, Q p.1 { s' with heap := h3 } → wpAny (model X.prog X.w) (X.A.mark (some (.ref a))) (eval (.Name x p1) X.env) Q E { s' with heap := h3 } := fun {Q E} q => by
          rcases named with ⟨hg, dbg, hm | ⟨hm, hv, hnn⟩⟩
          · exact ld_glob (X := X.suite a ((a, o3) :: (X.pn ++ pins))) S3 hg hm q dbg
          · exact ld_blt (X := X.suite a ((a, o3) :: (X.pn ++ pins))) S3 hg hm hv q hnn dbg
        refine wpAny_handleBy_cons (codeAny_handlers_test (look (LM.here ?_))) (by intro q; cases q)
        cases yes with
        | false => exact (ih (other rfl) : wpAny _ X.A (handleBy (.ref a) X.env hs2) _ _ _)
        | true =>
          refine codeAny_handlers_suite_as (HandSPX.lands_againZ f3 fun h4 f4 up4 => ?_)
          have J4 : Inv X pins σ' H' { s' with heap := h4 } := J.landed nb f4.1 ((up.trans up3).trans up4) os ag
          obtain ⟨o4, v4, at4, z4, dt4⟩ := f4.there
          refine store_ok (X := X.suite a ((a, o4) :: (X.pn ++ pins))) (v := .ref a) (J4.suite at4 dt4 na offL offF) nd at_ isL rfl (fun s5 S5 => ?_) (.inr loc)
          refine wpAny_mono ((does a o4 cls d (X.pn ++ pins) z4 ⟨_, dt4⟩).run [] s5 _ H' _ S5 (on rfl a na)) (fun f s6 sp => ?_) (fun _ _ z => z.elim)
          have gone : ∀ {σ6 : L2.St} {H6 : Hp} {Q : Shared → Prop}, Inv (X.suite a ((a, o4) :: (X.pn ++ pins))) [] σ6 H6 s6 → (∀ s7, Inv X pins (σ6.set i none) H6 s7 → Q s7) →
              wpAny (model X.prog X.w) X.A (do bindName X.env n .none; unbindBehindTheSuite X.env n p2) (fun _ s7 => Q s7) X.xe s6 := fun S6 hq => gone_ok (S6.unsuite ok) nd at_ loc hq
          match f, sp with
          | .next, ⟨_, _, S6, q6⟩ => exact gone S6 fun s7 J7 => ⟨_, _, J7, q6⟩
          | .brk, ⟨_, _, S6, q6⟩ => exact gone S6 fun s7 J7 => ⟨_, _, J7, q6⟩
          | .cont, ⟨_, _, S6, q6⟩ => exact gone S6 fun s7 J7 => ⟨_, _, J7, q6⟩
          | .ret _, ⟨_, _, _, S6, r6, q6⟩ => exact gone S6 fun s7 J7 => ⟨_, _, _, J7, r6, q6⟩
    exact all cl w
  refine wpAny_mono run (fun f s1 sp => ?_) (fun e s1 he => he)
  match f, sp with
  | .next, ⟨σ', H', J', q⟩ => exact wpAny_execs_nil ⟨σ', H', J'.ofTry ok, q⟩
  | .brk, ⟨σ', H', J', q⟩ => exact ⟨σ', H', J'.ofTry ok, q⟩
  | .cont, ⟨σ', H', J', q⟩ => exact ⟨σ', H', J'.ofTry ok, q⟩
  | .ret _, ⟨v, σ', H', J', r, q⟩ => exact ⟨v, σ', H', J'.ofTry ok, r, q⟩
end
end RT

/-! the same; the suite learns that the exception is no thing of the module -/
namespace RT
open PySem PySem.Spec PyProof.Rows L2
inductive AsOkB (X : Cx) (n : Str) : List ExceptHandler → List Cls1 → Prop
  | none : AsOkB X n [] []
  | more {x : Str} {p : Cls1} {b : Stmt} {rest : List Stmt} {p1 p2 : Pos} {hs : List ExceptHandler} {l : List Cls1} (named : Names X x p.1)
      (does : ∀ (a : Addr) (oe : Obj) (cls : Value) (d : Option Addr) (pn : List (Addr × Obj)), Zc cls d oe → (∃ vs, oe.data = .fields vs) → X.base.get? a = none → PSs (X.suite a ((a, oe) :: pn)) (b :: rest) (p.2 a cls d)) (r : AsOkB X n hs l) :
      AsOkB X n (.ExceptHandler (some (.Name x p1)) (some n) (b :: rest) p2 :: hs) (p :: l)
section
variable {X : Cx} {n : Str} {i : Nat} {body : List Stmt} {h0 : ExceptHandler} {hds : List ExceptHandler} {l : List Cls1} {pos : Pos} {tb : WX → TS} {Wout : WX}
theorem ps_try_allB (stk : X.stack = X.env :: X.outer) (frm : X.env.frame = some X.env.locals) (nd : X.N.Nodup) (at_ : X.N[i]? = some n) (loc : X.env.kindOf n = some .local) (tk : Takes X Wout)
    (hb : ∀ (W : WX) (pn : List (Addr × Obj)) (xe : Value → Shared → Prop), Takes (X.tr pn xe) W → PassesOwn (model X.prog X.w) X.A X.env xe → PSs (X.tr pn xe) body (tb W)) (cl : AsOkB X n (h0 :: hds) l) :
    PS X (.Try body (h0 :: hds) [] [] pos) (fun D σ H => tb (wAll X.K i Wout D l) D σ H) := by
  refine ⟨fun pins s σ H D I h => wpAny_Try_except ?_⟩
  have ok := I.ok
  have frs' : X.A.frames = some (X.env :: X.outer) := ok.frames.trans (by rw [stk])
  have isL : Loc X.env.scope n := .inl loc
  let caught : Value → Shared → Prop := fun e s1 => wpAny (model X.prog X.w) X.A (noteFrame e X.env) (fun _ s2 => wpAny (model X.prog X.w) X.A (setFlight e none) (fun _ s3 =>
    wpAny (model X.prog X.w) X.A (handleBy e X.env (h0 :: hds)) (SP X pins D) X.xe s3) X.xe s2) X.xe s1
  have run := (hb (wAll X.K i Wout D l) (X.pn ++ pins) caught (fun u s' got => ?c) PassesOwn.looking).run [] s σ H D (I.toTry _) h
  case c =>
    obtain ⟨a, B, sI, pins', σ', H', cls, d, rfl, J0, nb, up, sky, na, os, ag, w⟩ := got
    have J : Inv X pins σ' H' sI := J0.ofTry ok
    have over : Sky B (X.env :: X.outer) a (Zc cls d) X.env.locals s'.heap := by rw [← stk]; exact sky
    refine (Sky.land Zc.steady frs' frm over fun h3 f3 up3 => ?_ : wpAny (model X.prog X.w) X.A (noteFrame (.ref a) X.env) _ _ _)
    have J3 : Inv X pins σ' H' { s' with heap := h3 } := J.landed nb f3.1 (up.trans up3) os ag
    obtain ⟨o3, v3, at3, z3, dt3⟩ := f3.there
    have off : a ∉ frs (X.env :: X.outer) := fun m => by
      obtain ⟨_, o', e', nf⟩ := f3.2.2.1.mem m
      exact nf _ (by rw [at3] at e'; cases e'; exact dt3)
    have offL : a ≠ X.env.locals := fun z => off (List.mem_filterMap.mpr ⟨X.env, List.mem_cons_self, by rw [frm, z]⟩)
    have offF : a ∉ X.fs := fun m => by
      obtain ⟨e, he, q⟩ := List.mem_filterMap.mp m
      exact off (List.mem_filterMap.mpr ⟨e, List.mem_cons_of_mem _ he, q⟩)
    have S3 := J3.suite at3 dt3 na offL offF
    have bn : X.base.get? a = none := by
      cases e : X.base.get? a with
      | none => rfl
      | some o =>
        have z := nb a o (J.bs a o e).1 (by rw [stk]; exact off)
        rw [f3.2.1] at z
        cases z
    have all : ∀ {hs : List ExceptHandler} {l' : List Cls1}, AsOkB X n hs l' → wAll X.K i Wout D l' cls d σ' H' → wpAny (model X.prog X.w) X.A (handleBy (.ref a) X.env hs) (SP X pins D) X.xe { s' with heap := h3 } := by
      intro hs l' k
      induction k with
      | none =>
        intro w
        obtain ⟨k1, k2, k3, oe, vs, T, oT, ts', he, hz, hd, h1, hr⟩ := id f3
        have last : wpAny (model X.prog X.w) X.A (setFlight (.ref a) X.env.frame) (fun _ s4 => wpAny (model X.prog X.w) X.A (throw (.ref a) : Sem Flow) (SP X pins D) X.xe s4) X.xe { s' with heap := h3 } := by
          rw [frm]
          exact HandSPX.setFlight_upZ f3 fun h4 hh4 up4 => wpAny_throw (tk _ _ ⟨a, B, sI, pins, σ', H', cls, d, rfl, J, nb, (up.trans up3).trans up4, .inr (.inr (by rw [stk]; exact hh4)), na, os, ag, w⟩)
        refine wpAny_handleBy_nil ?_
        unfold PySem.passOn
        refine wpAny_bind (wpAny_field he hd h1 ?_)
        rw [if_neg (by simp : ¬ ((Value.ref T == Value.none) = true))]
        first
          | exact wpAny_bind (wpAny_pure (wpAny_bind last))
          | exact wpAny_bind last
      | @more x p b rest p1 p2 hs2 l2 named does r ih =>
        intro w
        obtain ⟨yes, is, on, other⟩ := w
        have LT : PySem.W.Looks (model X.prog X.w) h3 (typeOf (.ref a)) cls := fun A Q E s k q => wpAny_typeOf_ref (k _ _ at3) (by rw [z3.1]; exact q)
        have LM := PySem.W.exm_one (M := model X.prog X.w) J3.kIn LT is
        have look : ∀ {Q : Value → Shared → Prop} {E : Value → Shared → Prop}, Q p.1 { s' with heap := h3 } → wpAny (model X.prog X.w) (X.A.mark (some (.ref a))) (eval (.Name x p1) X.env) Q E { s' with heap := h3 } := fun {Q E} q => by
          rcases named with ⟨hg, dbg, hm | ⟨hm, hv, hnn⟩⟩
          · exact ld_glob (X := X.suite a ((a, o3) :: (X.pn ++ pins))) S3 hg hm q dbg
          · exact ld_blt (X := X.suite a ((a, o3) :: (X.pn ++ pins))) S3 hg hm hv q hnn dbg
        refine wpAny_handleBy_cons (codeAny_handlers_test (look (LM.here ?_))) (by intro q; cases q)
        cases yes with
        | false => exact (ih (other rfl) : wpAny _ X.A (handleBy (.ref a) X.env hs2) _ _ _)
        | true =>
          refine codeAny_handlers_suite_as (HandSPX.lands_againZ f3 fun h4 f4 up4 => ?_)
          have J4 : Inv X pins σ' H' { s' with heap := h4 } := J.landed nb f4.1 ((up.trans up3).trans up4) os ag
          obtain ⟨o4, v4, at4, z4, dt4⟩ := f4.there
          refine store_ok (X := X.suite a ((a, o4) :: (X.pn ++ pins))) (v := .ref a) (J4.suite at4 dt4 na offL offF) nd at_ isL rfl (fun s5 S5 => ?_) (.inr loc)
          refine wpAny_mono ((does a o4 cls d (X.pn ++ pins) z4 ⟨_, dt4⟩ bn).run [] s5 _ H' _ S5 (on rfl a na)) (fun f s6 sp => ?_) (fun _ _ z => z.elim)
          have gone : ∀ {σ6 : L2.St} {H6 : Hp} {Q : Shared → Prop}, Inv (X.suite a ((a, o4) :: (X.pn ++ pins))) [] σ6 H6 s6 → (∀ s7, Inv X pins (σ6.set i none) H6 s7 → Q s7) →
              wpAny (model X.prog X.w) X.A (do bindName X.env n .none; unbindBehindTheSuite X.env n p2) (fun _ s7 => Q s7) X.xe s6 := fun S6 hq => gone_ok (S6.unsuite ok) nd at_ loc hq
          match f, sp with
          | .next, ⟨_, _, S6, q6⟩ => exact gone S6 fun s7 J7 => ⟨_, _, J7, q6⟩
          | .brk, ⟨_, _, S6, q6⟩ => exact gone S6 fun s7 J7 => ⟨_, _, J7, q6⟩
          | .cont, ⟨_, _, S6, q6⟩ => exact gone S6 fun s7 J7 => ⟨_, _, J7, q6⟩
          | .ret _, ⟨_, _, _, S6, r6, q6⟩ => exact gone S6 fun s7 J7 => ⟨_, _, _, J7, r6, q6⟩
    exact all cl w
  refine wpAny_mono run (fun f s1 sp => ?_) (fun e s1 he => he)
  match f, sp with
  | .next, ⟨σ', H', J', q⟩ => exact wpAny_execs_nil ⟨σ', H', J'.ofTry ok, q⟩
  | .brk, ⟨σ', H', J', q⟩ => exact ⟨σ', H', J'.ofTry ok, q⟩
  | .cont, ⟨σ', H', J', q⟩ => exact ⟨σ', H', J'.ofTry ok, q⟩
  | .ret _, ⟨v, σ', H', J', r, q⟩ => exact ⟨v, σ', H', J'.ofTry ok, r, q⟩
end
end RT

/-! zip of two texts, walked by a tuple target -/
namespace RT
open PySem PySem.Spec PyProof.Rows L2
/-- the signs of two texts, in new pairs -/
def Itzs (x y : Str) : It :=
  ⟨fun i _ => i < x.cps.size ∧ i < y.cps.size,
    fun i H v H' => ∃ T c d, v = .ref T ∧ H T = none ∧ H' = upd H T (.tup [.str ⟨#[c]⟩, .str ⟨#[d]⟩]) ∧ x.cps[i]? = some c ∧ y.cps[i]? = some d,
    fun i _ => i = min x.cps.size y.cps.size⟩
theorem sub5 {N : Addr} (b : Addr) (hb : b ∈ [N + 4, N + 3, N, N + 1]) : b ∈ [N + 4, N + 2, N + 3, N, N + 1] := by
  simp only [List.mem_cons, List.not_mem_nil, or_false] at hb ⊢
  rcases hb with h | h | h | h <;> simp [h]
theorem turn_zipS {P : Program} {w : World} {K : PySem.W.Frag} {elts : List Expr} {kk : Nat} {tpos : Pos} {x y : Str} {tx ty : Tok} {N : Addr} :
    Turn P w K (.Tuple elts kk tpos) (Itzs x y) [N + 4, N + 2, N + 3, N, N + 1] (N + 4)
      (fun i h => (IsZip h (N + 4) (N + 2) (N + 3) .none ∧ IsTupOf2 h (N + 2) (.ref N) (.ref (N + 1)) ∧ (∃ a1 a2, IsTupOf2 h (N + 3) a1 a2) ∧ h.IsStrIter N (strIterType x) x tx i ∧ h.IsStrIter (N + 1) (strIterType y) y ty i)) where
  mem := by simp
  obj := fun i h stt c hc => by
    obtain ⟨gZ, gI, ⟨a1, a2, gO⟩, ⟨oA, eA, _, dA⟩, ⟨oB, eB, _, dB⟩⟩ := stt
    have five : c = N + 4 ∨ c = N + 2 ∨ c = N + 3 ∨ c = N ∨ c = N + 1 := by simpa using hc
    rcases five with rfl | rfl | rfl | rfl | rfl
    · exact ⟨_, gZ, fun _ q => nomatch q⟩
    · exact ⟨_, gI, fun _ q => nomatch q⟩
    · exact ⟨_, gO, fun _ q => nomatch q⟩
    · exact ⟨oA, eA, fun _ q => by rw [dA] at q; cases q⟩
    · exact ⟨oB, eB, fun _ q => by rw [dB] at q; cases q⟩
  keep := fun i h h' st k => by
    obtain ⟨hz, hTI, ⟨a1, a2, hTO⟩, ⟨o1, e1, r1⟩, ⟨o2, e2, r2⟩⟩ := st
    exact ⟨k (N + 4) (by simp) _ hz, k (N + 2) (by simp) _ hTI, ⟨a1, a2, k (N + 3) (by simp) _ hTO⟩, ⟨o1, k N (by simp) _ e1, r1⟩, ⟨o2, k (N + 1) (by simp) _ e2, r2⟩⟩
  item := by
    intro X eP eW eK calm i pins s σ H E I hf st hg
    subst eP eW eK
    have hh := I.ok.hd calm
    have G := GoesN.zip2 (A := X.A) (elts := elts) (x1 := kk) (pos := tpos) (zip_sep2 (N := N) (fp1 := []) (fp2 := []) (by simp) (by simp)) (Draws.text (prog := X.prog) (w := X.w) (A := X.A.in1) hh N x tx) (Draws.text (prog := X.prog) (w := X.w) (A := X.A.in1) hh (N + 1) y ty)
    have hlt : i < min x.cps.size y.cps.size := by have := hg.1; have := hg.2; omega
    refine thn (G.goes i s (fun v s2 => ∃ x1 H', Inv X pins σ H' s2 ∧ RelV x1 v ∧ (Itzs x y).yld i H x1 H' ∧ _ ∧ ∀ b ∈ [N + 4, N + 2, N + 3, N, N + 1], H' b = none) E hlt st fun v h' tk hY st' hk htk => ?_) fun r s1 ⟨v, hr, q⟩ => ⟨v, hr, thn q fun _ s2 z => z⟩
    obtain ⟨T, u1, u2, rfl, hT, ⟨c, t1, hc1, rfl⟩, ⟨d, t2, hd1, rfl⟩, hTup⟩ := hY
    have new : ObjOk X.prog X.w (upd H T (.tup [.str ⟨#[c]⟩, .str ⟨#[d]⟩])) h' T (.tup [.str ⟨#[c]⟩, .str ⟨#[d]⟩]) :=
      ⟨by show 2 ≤ sizeLine; decide, [.str ⟨#[c]⟩ t1, .str ⟨#[d]⟩ t2], .cons ⟨_, rfl⟩ (.cons ⟨_, rfl⟩ .nil), hTup⟩
    have I1 : Inv X pins σ (upd H T (.tup [.str ⟨#[c]⟩, .str ⟨#[d]⟩])) { s with heap := h', toks := tk } :=
      I.turnedNew (ch := [N + 4, N + 2, N + 3, N, N + 1]) (fun b o hb q => hk b o (fun z => hb (sub5 b z)) q) hf hT new
    refine ⟨.ref T, _, I1, rfl, ⟨T, c, d, rfl, I.hok.fresh hT, rfl, hc1, hd1⟩, st', fun b hb => ?_⟩
    have hlt : b < s.heap.objs.size := by
      obtain ⟨gZ, gI, ⟨a1, a2, gO⟩, ⟨oA, eA, _⟩, ⟨oB, eB, _⟩⟩ := st
      have five : b = N + 4 ∨ b = N + 2 ∨ b = N + 3 ∨ b = N ∨ b = N + 1 := by simpa using hb
      rcases five with rfl | rfl | rfl | rfl | rfl
      · exact Heap.lt_size gZ
      · exact Heap.lt_size gI
      · exact Heap.lt_size gO
      · exact Heap.lt_size eA
      · exact Heap.lt_size eB
    rw [upd_ne (Nat.ne_of_lt (Nat.lt_of_lt_of_le hlt hT))]
    exact (hf b hb).1
  done := by
    intro X eP eW eK calm i pins s σ H E I hf st hg
    subst eP eW eK
    have hh := I.ok.hd calm
    have G := GoesN.zip2 (A := X.A) (elts := elts) (x1 := kk) (pos := tpos) (zip_sep2 (N := N) (fp1 := []) (fp2 := []) (by simp) (by simp)) (Draws.text (prog := X.prog) (w := X.w) (A := X.A.in1) hh N x tx) (Draws.text (prog := X.prog) (w := X.w) (A := X.A.in1) hh (N + 1) y ty)
    have hi : i = min x.cps.size y.cps.size := hg
    subst hi
    exact G.stops s _ E st fun h' tk hk htk => I.turnedL (ch := [N + 4, N + 2, N + 3, N, N + 1]) (fun b o hb q => hk b o (fun z => hb (sub5 b z)) q) hf
  self := fun _ _ _ _ _ stt q => wpAny_pyIter_zip stt.1 q
def iZipS (ta : TA) : TI := fun σ H R => ta σ H fun vs H1 => ∃ x y, vs = [.str x, .str y] ∧ R (Itzs x y) H1
theorem pi_zipS {X : Cx} {e e2 : Expr} {ta : TA} {p pos tpos : Pos} {elts : List Expr} {kk : Nat} (hg : Gl X "zip") (hm : X.mg "zip" = none) (ha : PA X [e, e2] ta)
    (noStar : starEach [e, e2] X.env = (false, eval e X.env) :: starEach [e2] X.env := by rfl)
    (noStar2 : (backTo pos (starEach [e2] X.env)).any (·.1) = false := by rfl) :
    PI X (.Tuple elts kk tpos) (.Call (.Name "zip" p) [e, e2] [] pos) (iZipS ta) := by
  constructor
  intro pins s σ H R I hw
  refine Call_ (ld_blt I hg hm PyProof.Rows.boot_zip ?_)
  refine PyProof.Rows.callWith_type1 (thn (ha.run pos pins s σ H _ I hw) fun us s1 told => ?_) noStar noStar2
  obtain ⟨vs, H1, I1, r1, q1⟩ := told
  obtain ⟨x, y, ex, q⟩ := q1
  subst ex
  cases r1 with
  | cons r rr =>
    cases rr with
    | cons r' rr =>
      cases rr
      obtain ⟨tx, rfl⟩ := r
      obtain ⟨ty, rfl⟩ := r'
      refine zip_begins2 (begins_text x tx) (begins_text y ty) trivial trivial fun h' hz hTI hTO h1 h2 hsz hk => wpAny_pyIter_zip hz ?_
      have J := I1.kept (t' := s1.toks) hk
      refine ⟨s1.heap.objs.size + 4, [s1.heap.objs.size + 4, s1.heap.objs.size + 2, s1.heap.objs.size + 3, s1.heap.objs.size, s1.heap.objs.size + 1], _, _, H1, rfl, J, turn_zipS (tx := tx) (ty := ty), ⟨hz, hTI, ⟨_, _, hTO⟩, ⟨_, h1, rfl, rfl⟩, ⟨_, h2, rfl, rfl⟩⟩, fun c hc => ?_, q⟩
      have up : ∀ k : Nat, s1.heap.objs.size ≤ s1.heap.objs.size + k := fun k => Nat.le_add_right _ k
      have new : s1.heap.objs.size ≤ c := by
        have five : c = s1.heap.objs.size + 4 ∨ c = s1.heap.objs.size + 2 ∨ c = s1.heap.objs.size + 3 ∨ c = s1.heap.objs.size ∨ c = s1.heap.objs.size + 1 := by simpa using hc
        rcases five with rfl | rfl | rfl | rfl | rfl
        · exact up 4
        · exact up 2
        · exact up 3
        · exact Nat.le_refl _
        · exact up 1
      exact I1.fpOk new (I1.hok.fresh new)
end RT

/-! texts as lists of signs -/
namespace RT
open PySem PySem.Spec PyProof.Rows L2
abbrev st (l : List Nat) : Str := ⟨l.toArray⟩
theorem st_inj {a b : List Nat} (h : st a = st b) : a = b := by
  have := congrArg (fun z => z.cps.toList) h
  simpa using this
theorem st_iff {a b : List Nat} : (V.str (st a) = V.str (st b)) ↔ a = b := ⟨fun h => st_inj (V.str.inj h), fun h => by rw [h]⟩
theorem st_len (a : List Nat) : (st a).length = a.length := by
  show a.toArray.size = a.length
  simp
theorem st_of (z : Str) : z = st z.cps.toList := by
  cases z; simp [st]
theorem st_add (a b : List Nat) : st a ++ st b = st (a ++ b) := by
  show (⟨a.toArray ++ b.toArray⟩ : Str) = ⟨(a ++ b).toArray⟩
  simp
theorem cut_from (a : List Nat) (i : Nat) : cutS (st a) (some (i : Int)) none = st (a.drop i) := by
  show (⟨_⟩ : Str) = ⟨_⟩
  rw [st_len, HT.sIx_nat, HT.sIx_none]
  congr 2
  show ((a.drop (min i a.length)).take (a.length - min i a.length)) = a.drop i
  by_cases h : i ≤ a.length
  · rw [Nat.min_eq_left h, List.take_of_length_le (by simp)]
  · rw [Nat.min_eq_right (by omega)]; simp; omega
theorem cut_to (a : List Nat) (i : Nat) : cutS (st a) none (some (i : Int)) = st (a.take i) := by
  show (⟨_⟩ : Str) = ⟨_⟩
  rw [st_len, HT.sIx_nat, HT.sIx_none]
  congr 2
  show ((a.drop 0).take (min i a.length - 0)) = a.take i
  rw [List.drop_zero, Nat.sub_zero]
  by_cases h : i ≤ a.length
  · rw [Nat.min_eq_left h]
  · rw [Nat.min_eq_right (by omega), List.take_length, List.take_of_length_le (by omega)]
theorem cut_mid (a : List Nat) (i j : Nat) : cutS (st a) (some (i : Int)) (some (j : Int)) = st ((a.drop i).take (j - i)) := by
  show (⟨_⟩ : Str) = ⟨_⟩
  rw [st_len, HT.sIx_nat, HT.sIx_nat]
  congr 2
  show ((a.drop (min i a.length)).take (min j a.length - min i a.length)) = (a.drop i).take (j - i)
  by_cases h : i ≤ a.length
  · rw [Nat.min_eq_left h]
    by_cases h2 : j ≤ a.length
    · rw [Nat.min_eq_left h2]
    · rw [Nat.min_eq_right (by omega : a.length ≤ j), List.take_of_length_le (by simp), List.take_of_length_le (by simp; omega)]
  · rw [Nat.min_eq_right (by omega : a.length ≤ i), List.drop_of_length_le (l := a) (i := a.length) (Nat.le_refl _), List.drop_of_length_le (l := a) (i := i) (by omega)]; simp
/-! ### the longest text with which two begin -/
def lcp : List Nat → List Nat → Nat
  | a :: r, b :: s => if a = b then lcp r s + 1 else 0
  | _, _ => 0
theorem lcp_le1 : ∀ a b : List Nat, lcp a b ≤ a.length
  | [], b => by simp [lcp]
  | a :: r, [] => by simp [lcp]
  | a :: r, b :: s => by
    unfold lcp
    split
    · have := lcp_le1 r s; simp; omega
    · simp
theorem lcp_comm : ∀ a b : List Nat, lcp a b = lcp b a
  | [], [] => rfl
  | [], b :: s => rfl
  | a :: r, [] => rfl
  | a :: r, b :: s => by
    unfold lcp
    by_cases h : a = b
    · subst h; simp [lcp_comm r s]
    · rw [if_neg h, if_neg (fun q => h (Eq.symm q))]
theorem lcp_le2 (a b : List Nat) : lcp a b ≤ b.length := by rw [lcp_comm]; exact lcp_le1 b a
theorem lcp_take : ∀ a b : List Nat, a.take (lcp a b) = b.take (lcp a b)
  | [], [] => rfl
  | [], b :: s => rfl
  | a :: r, [] => rfl
  | a :: r, b :: s => by
    unfold lcp
    by_cases h : a = b
    · subst h; simp [lcp_take r s]
    · simp [h]
theorem lcp_of : ∀ {a b : List Nat} {i : Nat}, a.take i = b.take i → i ≤ a.length → i ≤ b.length → (a.length ≤ i ∨ b.length ≤ i ∨ a[i]? ≠ b[i]?) → lcp a b = i
  | [], b, i, _, h1, _, _ => by simp at h1; subst h1; rfl
  | a :: r, [], i, _, _, h2, _ => by simp at h2; subst h2; rfl
  | a :: r, b :: s, 0, _, _, _, h => by
    have : a ≠ b := by
      intro e; subst e
      rcases h with h | h | h
      · simp at h
      · simp at h
      · simp at h
    unfold lcp; simp [this]
  | a :: r, b :: s, i + 1, h, h1, h2, h3 => by
    simp only [List.take_succ_cons, List.cons.injEq] at h
    obtain ⟨e, h⟩ := h
    subst e
    unfold lcp
    simp only [if_true]
    rw [lcp_of (i := i) h (by simpa using h1) (by simpa using h2) (by simpa using h3)]
theorem take_grow {a b : List Nat} {i : Nat} {c : Nat} (h : a.take i = b.take i) (h1 : a[i]? = some c) (h2 : b[i]? = some c) : a.take (i + 1) = b.take (i + 1) := by
  rw [List.take_add_one, List.take_add_one, h, h1, h2]
/-! ### startswith -/
theorem starts (a b : List Nat) : Txt.startswith (st a) (st b) = decide (b <+: a) := by
  unfold Txt.startswith
  unfold Builtin.Str.subAt
  rw [st_len, st_len]
  have e0 : (a.toArray.extract 0 (0 + b.length) == b.toArray) = (a.take b.length == b) := by simp
  show (decide (0 + b.length ≤ a.length) && (a.toArray.extract 0 (0 + b.length) == b.toArray)) = _
  rw [e0, Nat.zero_add]
  by_cases h : b <+: a
  · have e : a.take b.length = b := (List.prefix_iff_eq_take.mp h).symm
    rw [decide_eq_true h, decide_eq_true h.length_le, e]
    simp
  · rw [decide_eq_false h, Bool.and_eq_false_iff]
    refine .inr (beq_eq_false_iff_ne.mpr fun e => h ?_)
    have e' : a.take b.length = b := by simpa using e
    exact List.prefix_iff_eq_take.mpr e'.symm
/-! ### what the script's cells make -/
def cell (ns : List Int) (k : Int) : Int := (ns[k.toNat]?).getD 0
def signTab : List Nat := ((List.range 95).map (fun k => 32 + k)).filter fun c => c != 37
theorem signTab_len : signTab.length = 94 := by decide
def sgn (c : Int) : Nat := signTab.getD (c % 94).toNat 0
def lcg (n : Int) : Int := (n * 48271 + 11) % 2147483647
def wordGo (c : Int) : Nat → Int × List Nat
  | 0 => (c, [])
  | k + 1 => (lcg (wordGo c k).1, (wordGo c k).2 ++ [sgn (65 + lcg (wordGo c k).1 / 7 % (if c % 2 = 0 then 2 else 94))])
def word (c : Int) (n : Int) : List Nat := (wordGo c n.toNat).2
theorem wordGo_len (c : Int) : ∀ k, (wordGo c k).2.length = k
  | 0 => rfl
  | k + 1 => by simp [wordGo, wordGo_len c k]
theorem word_len (c n : Int) : (word c n).length = n.toNat := wordGo_len c _
theorem sgn_at (c : Int) : signTab[(c % 94).toNat]? = some (sgn c) := by
  have h : (c % 94).toNat < signTab.length := by rw [signTab_len]; omega
  unfold sgn
  rw [List.getD_eq_getElem?_getD, List.getElem?_eq_getElem h]
  rfl
theorem sgn_mem (c : Int) : sgn c ∈ signTab := List.mem_of_getElem? (sgn_at c)
theorem wordGo_mem (c : Int) : ∀ k, ∀ x ∈ (wordGo c k).2, x ∈ signTab
  | 0, x, h => by simp [wordGo] at h
  | k + 1, x, h => by
    simp only [wordGo, List.mem_append, List.mem_singleton] at h
    rcases h with h | h
    · exact wordGo_mem c k x h
    · rw [h]; exact sgn_mem _
theorem word_mem (c n : Int) : ∀ x ∈ word c n, x ∈ signTab := wordGo_mem c _
end RT

namespace RT
open PySem PySem.Spec PyProof.Rows L2
/-- a def of the top that lets no exception out -/
structure Has (P : Program) (w : World) (K : PySem.W.Frag) (mg : Str → Option Value) (base : Heap) (x : Str) (ps : List Str) (k : Nat) (sp : Sp) : Prop where
  ex : ∃ (f : Addr) (fd : FuncData), FnOk P w K mg base CX0 k f fd ps sp ∧ Binds K fd ps [] ∧ PySem.W.keepIn K (.ref f) = true ∧ mg x = some (.ref f)
theorem Has.mono {P : Program} {w : World} {K : PySem.W.Frag} {mg : Str → Option Value} {base : Heap} {x : Str} {ps : List Str} {j k : Nat} {sp : Sp} (h : Has P w K mg base x ps j sp) (hl : j ≤ k) : Has P w K mg base x ps k sp := by
  obtain ⟨f, fd, G, b, kp, m⟩ := h.ex
  exact ⟨f, fd, G.mono hl, b, kp, m⟩
section
variable {X : Cx} {x : Str} {ps : List Str} {k j : Nat} {sp : Sp} {e : Expr} {es : List Expr} {t : TA} {p pos : Pos}
theorem pe_has (h : Has X.prog X.w X.K X.mg X.base x ps k sp) (hr : Room j X.A) (hl : k ≤ j) (ha : PA X (e :: es) t) (hg : Gl X x := by rfl)
    (noDebug : (x == ("__debug__" : Str)) = false := by decide)
    (noStar : starEach (e :: es) X.env = (false, eval e X.env) :: starEach es X.env := by rfl)
    (noStars : (backTo pos (starEach es X.env)).any (·.1) = false := by rfl) :
    PE X (.Call (.Name x p) (e :: es) [] pos) (tCall sp [] E0 t) := by
  obtain ⟨f, fd, G, b, kp, m⟩ := h.ex
  exact pe_call G (hr.mono hl) hg m kp b .nil pass0 ha noDebug noStar noStars
end
theorem same_new {H : Hp} {p : Addr} (free : H p = none) (o : HO) : Same H (upd H p o) := fun b u there => (upd_ne (ne_of_none there free)).trans there
theorem smallZ {n : Nat} (h : n ≤ 100000) : n ≤ sizeLine := Nat.le_trans h (by decide)
/-! ### promises -/
def spCell (K : PySem.W.Frag) : Sp := fun vs H Q _ => ∃ (a : Addr) (ns : List Int) (k : Int), vs = [.ref a, .int k] ∧ SqL K H a (ns.map V.int) ∧ 0 ≤ k ∧ Q (.int (cell ns k)) H
def spSign : Sp := fun vs H Q _ => ∃ c : Int, vs = [.int c] ∧ Q (.str (st [sgn c])) H
def spWord : Sp := fun vs H Q _ => ∃ c n : Int, vs = [.int c, .int n] ∧ -1000 ≤ n ∧ n ≤ 1000 ∧ ∀ H', Same H H' → Q (.str (st (word c n))) H'
def spSame : Sp := fun vs H Q _ => ∃ a b : List Nat, vs = [.str (st a), .str (st b)] ∧ a.length ≤ 1000 ∧ b.length ≤ 1000 ∧ Q (.int (lcp a b : Nat)) H
def spCommon : Sp := fun vs H Q _ => ∃ a b : List Nat, vs = [.str (st a), .str (st b)] ∧ a.length ≤ 1000 ∧ b.length ≤ 1000 ∧ ∀ H', Same H H' → Q (.str (st (a.take (lcp a b)))) H'
def spRest : Sp := fun vs H Q _ => ∃ a b : List Nat, vs = [.str (st a), .str (st b)] ∧ a.length ≤ 1000 ∧ b.length ≤ 1000 ∧ Q (if b <+: a then .str (st (a.drop b.length)) else .non) H
/-- what law(script) promises -/
def spLaw (K : PySem.W.Frag) : Sp := fun vs H Q _ =>
  ∃ (a : Addr) (ns : List Int), vs = [.ref a] ∧ SqL K H a (ns.map V.int) ∧
    ns.length ≤ 63 ∧ ∀ H', Q (.bl true) H'
abbrev psCell : List Str := ["_law_script", "_law_k"]
abbrev psWord : List Str := ["_law_cell", "_law_size"]
end RT
namespace RT
open PySem PySem.Spec PyProof.Rows L2
/-- a def of the top as it stands -/
def DefAt (K : PySem.W.Frag) (mg : Str → Option Value) (x : Str) (s : Stmt) (f : Addr) (fd : FuncData) : Prop := Fun K x x s f fd ∧ mg x = some (.ref f)
theorem defAt {K : PySem.W.Frag} {h : Heap} {mg : Str → Option Value} {x : Str} {s : Stmt} {f : Addr} {od an : Option Addr} {sl : Array (Option Value)} {oc kV dc pm cd ct : Value} (X : K.In h) (G : h.Ns mainGlobals mg)
    (a : PySem.W.nsIn K mainGlobals x = some (some (.ref f))) (l : K.lookup f = some ⟨oc, od, .func (PySem.W.fnOf x x (defArgs s) (defBody s) (defScope s) .none kV dc pm an cd ct), sl⟩) (c : PySem.W.codeIn K cd x = true) (k : PySem.W.keepIn K (.ref f) = true) :
    ∃ fd, DefAt K mg x s f fd := ⟨_, fun_mk (st := s) l c k, PySem.W.mg_of X G a⟩
theorem DefAt.has {P : Program} {w : World} {K : PySem.W.Frag} {mg : Str → Option Value} {base : Heap} {x : Str} {s : Stmt} {f : Addr} {fd : FuncData} {ps : List Str} {k : Nat} {sp : Sp} (D : DefAt K mg x s f fd) (b : Binds K fd ps []) (F : FnOk P w K mg base CX0 k f fd ps sp) : Has P w K mg base x ps k sp :=
  ⟨f, fd, F, b, D.1.kp, D.2⟩
end RT

/-! trees, data in the heap -/
namespace RT
open PySem PySem.Spec PyProof.Rows L2
inductive Tr where
  | leaf (t : List Nat) (n : Int)
  | fork (t : List Nat) (bs : List (List Nat × Tr))
mutual
def Tr.toD : Tr → PyData
  | .leaf t n => .tuple [.str (Str.ofString "leaf"), .str (st t), .int n]
  | .fork t bs => .tuple [.str (Str.ofString "fork"), .str (st t), .tuple (toDs bs)]
def toDs : List (List Nat × Tr) → List PyData
  | [] => []
  | (s, t) :: r => .tuple [.str (st s), t.toD] :: toDs r
end
/-- a tree, or None -/
def oD : Option Tr → PyData
  | none => .none
  | some t => t.toD
theorem toDs_map : ∀ bs : List (List Nat × Tr), toDs bs = bs.map fun b => PyData.tuple [.str (st b.1), b.2.toD]
  | [] => rfl
  | (s, t) :: r => by simp [toDs, toDs_map r]
/-! ### data that stands -/
theorem sameT {K : PySem.W.Frag} {H H' : Hp} {a : Addr} {xs : List V} (e : Same H H') (h : SqT K H a xs) : SqT K H' a xs := by
  rcases h with (h | ⟨o, h⟩) | h
  · exact .inl (.inl (e _ _ h))
  · exact .inl (.inr ⟨o, e _ _ h⟩)
  · exact .inr h
mutual
theorem Dp_same {K : PySem.W.Frag} {H H' : Hp} (e : Same H H') : ∀ {v : V} {d : PyData}, Dp K H v d → Dp K H' v d
  | _, _, .non => .non
  | _, _, .bl b => .bl b
  | _, _, .int i => .int i
  | _, _, .str x => .str x
  | _, _, .lst s a => .lst (e.seq s) (DpAll_same e a)
  | _, _, .tup s a => .tup (sameT e s) (DpAll_same e a)
theorem DpAll_same {K : PySem.W.Frag} {H H' : Hp} (e : Same H H') : ∀ {vs : List V} {ds : List PyData}, DpAll K H vs ds → DpAll K H' vs ds
  | _, _, .nil => .nil
  | _, _, .cons a r => .cons (Dp_same e a) (DpAll_same e r)
end
section
variable {K : PySem.W.Frag} {H H' : Hp} {v : V} {vs ws : List V} {d : PyData} {ds es : List PyData}
theorem Dp_non (h : Dp K H v .none) : v = .non := by cases h; rfl
theorem Dp_int {i : Int} (h : Dp K H v (.int i)) : v = .int i := by cases h; rfl
theorem Dp_str {x : Str} (h : Dp K H v (.str x)) : v = .str x := by cases h; rfl
theorem Dp_tup (h : Dp K H v (.tuple ds)) : ∃ a xs, v = .ref a ∧ SqT K H a xs ∧ DpAll K H xs ds := by
  cases h with
  | tup s r => exact ⟨_, _, rfl, s, r⟩
theorem Dp_lst (h : Dp K H v (.list ds)) : ∃ a xs, v = .ref a ∧ SqL K H a xs ∧ DpAll K H xs ds := by
  cases h with
  | lst s r => exact ⟨_, _, rfl, s, r⟩
theorem DpAll_len : ∀ {vs : List V} {ds : List PyData}, DpAll K H vs ds → vs.length = ds.length
  | _, _, .nil => rfl
  | _, _, .cons _ r => congrArg (· + 1) (DpAll_len r)
theorem DpAll_get : ∀ {vs : List V} {ds : List PyData} {i : Nat} {d : PyData}, DpAll K H vs ds → ds[i]? = some d → ∃ v, vs[i]? = some v ∧ Dp K H v d
  | _, _, _, _, .nil, h => by simp at h
  | _, _, 0, _, .cons a r, h => ⟨_, rfl, by have := Option.some.inj h; rw [← this]; exact a⟩
  | _, _, i + 1, _, .cons a r, h => DpAll_get (i := i) r (by simpa using h)
theorem DpAll_get' : ∀ {vs : List V} {ds : List PyData} {i : Nat} {v : V}, DpAll K H vs ds → vs[i]? = some v → ∃ d, ds[i]? = some d ∧ Dp K H v d
  | _, _, _, _, .nil, h => by simp at h
  | _, _, 0, _, .cons a r, h => ⟨_, rfl, by have := Option.some.inj h; rw [← this]; exact a⟩
  | _, _, i + 1, _, .cons a r, h => DpAll_get' (i := i) r (by simpa using h)
theorem DpAll_app : ∀ {vs : List V} {ds : List PyData}, DpAll K H vs ds → DpAll K H ws es → DpAll K H (vs ++ ws) (ds ++ es)
  | _, _, .nil, h => h
  | _, _, .cons a r, h => .cons a (DpAll_app r h)
theorem DpAll_cons (h : DpAll K H vs (d :: ds)) : ∃ x xs, vs = x :: xs ∧ Dp K H x d ∧ DpAll K H xs ds := by
  cases h with
  | cons a r => exact ⟨_, _, rfl, a, r⟩
theorem DpAll_nil (h : DpAll K H vs []) : vs = [] := by cases h; rfl
/-- a tuple of three, looked into -/
theorem Dp_three {a b c : PyData} (h : Dp K H v (.tuple [a, b, c])) : ∃ p x y z, v = .ref p ∧ SqT K H p [x, y, z] ∧ Dp K H x a ∧ Dp K H y b ∧ Dp K H z c := by
  obtain ⟨p, xs, rfl, hs, r⟩ := Dp_tup h
  obtain ⟨x, _, rfl, ha, r⟩ := DpAll_cons r
  obtain ⟨y, _, rfl, hb, r⟩ := DpAll_cons r
  obtain ⟨z, _, rfl, hc, r⟩ := DpAll_cons r
  cases DpAll_nil r
  exact ⟨p, x, y, z, rfl, hs, ha, hb, hc⟩
theorem Dp_two {a b : PyData} (h : Dp K H v (.tuple [a, b])) : ∃ p x y, v = .ref p ∧ SqT K H p [x, y] ∧ Dp K H x a ∧ Dp K H y b := by
  obtain ⟨p, xs, rfl, hs, r⟩ := Dp_tup h
  obtain ⟨x, _, rfl, ha, r⟩ := DpAll_cons r
  obtain ⟨y, _, rfl, hb, r⟩ := DpAll_cons r
  cases DpAll_nil r
  exact ⟨p, x, y, rfl, hs, ha, hb⟩
/-! ### types -/
def tyN : PyData → String
  | .none => "NoneType"
  | .bool _ => "bool"
  | .int _ => "int"
  | .str _ => "str"
  | .list _ => "list"
  | .tuple _ => "tuple"
  | .dict _ => "dict"
theorem tyx_of (h : Dp K H v d) : TyX K H v (.type (tyN d)) := by
  cases h with
  | non => exact .base .non
  | bl b => exact .base (.bl b)
  | int i => exact .base (.int i)
  | str x => exact .base (.str x)
  | lst s _ =>
    rcases s with (s | ⟨o, s⟩) | ⟨o, its, n, hk, hc, _⟩
    · exact .base (.lst s)
    · exact .base (.frz s)
    · exact .kList hk hc
  | tup s _ =>
    rcases s with (s | ⟨o, s⟩) | ⟨o, its, n, hk, hc, _⟩
    · exact .base (.tup s)
    · exact .fTuple s
    · exact .kTuple hk hc
/-- isinstance(x, T) of such data -/
theorem isi_of {T : String} {b : Bool} {Q : VK} (h : Dp K H v d) (e : kitB (tyN d) T = some b) (q : Q (.bl b) H) : rIsi K [v, .ty T] H Q :=
  ⟨v, .ty T, .type (tyN d), .type T, b, rfl, .ty T, tyx_of h, kit_ty e, q⟩
end
/-! ### data without truth values -/
mutual
def plain : PyData → Bool
  | .none => true
  | .int _ => true
  | .str _ => true
  | .list xs => decide (xs.length ≤ 10000) && plains xs
  | .tuple xs => decide (xs.length ≤ 10000) && plains xs
  | _ => false
def plains : List PyData → Bool
  | [] => true
  | x :: r => plain x && plains r
end
mutual
def dep : PyData → Nat
  | .list xs => deps xs + 1
  | .tuple xs => deps xs + 1
  | _ => 1
def deps : List PyData → Nat
  | [] => 0
  | x :: r => max (dep x) (deps r)
end
theorem plains_get : ∀ {ds : List PyData} {i : Nat} {d : PyData}, plains ds = true → ds[i]? = some d → plain d = true
  | [], _, _, _, h => by simp at h
  | x :: r, 0, d, h, e => by simp [plains] at h e; rw [← e]; exact h.1
  | x :: r, i + 1, d, h, e => by simp [plains] at h; exact plains_get (i := i) h.2 (by simpa using e)
theorem deps_get : ∀ {ds : List PyData} {i : Nat} {d : PyData}, ds[i]? = some d → dep d ≤ deps ds
  | [], _, _, h => by simp at h
  | x :: r, 0, d, e => by simp at e; subst e; exact Nat.le_max_left _ _
  | x :: r, i + 1, d, e => Nat.le_trans (deps_get (i := i) (by simpa using e)) (Nat.le_max_right _ _)
theorem dep_pos (d : PyData) : 1 ≤ dep d := by cases d <;> simp [dep]
mutual
def Tr.many : Tr → Nat
  | .leaf _ _ => 1
  | .fork _ bs => manys bs + 1
def manys : List (List Nat × Tr) → Nat
  | [] => 0
  | (_, t) :: r => t.many + manys r
end
theorem Tr.many_pos (t : Tr) : 1 ≤ t.many := by cases t <;> simp [Tr.many]
theorem manys_len : ∀ bs : List (List Nat × Tr), bs.length ≤ manys bs
  | [] => by simp
  | (s, t) :: r => by have := manys_len r; have := t.many_pos; simp [manys]; omega
mutual
theorem Tr.plain : ∀ t : Tr, t.many ≤ 10000 → RT.plain t.toD = true
  | .leaf t n, _ => by simp [Tr.toD, RT.plain, plains]
  | .fork t bs, h => by
    have h1 := manys_len bs
    have h2 : manys bs ≤ 10000 := by simp [Tr.many] at h; omega
    have h3 : (toDs bs).length ≤ 10000 := by rw [toDs_map, List.length_map]; omega
    simp [Tr.toD, RT.plain, plains, toDs_plain bs h2, h3]
theorem toDs_plain : ∀ bs : List (List Nat × Tr), manys bs ≤ 10000 → plains (toDs bs) = true
  | [], _ => rfl
  | (s, t) :: r, h => by
    have h1 : t.many ≤ 10000 := by simp [manys] at h; omega
    have h2 : manys r ≤ 10000 := by simp [manys] at h; omega
    simp [toDs, RT.plain, plains, Tr.plain t h1, toDs_plain r h2]
end
mutual
def Tr.deep : Tr → Nat
  | .leaf _ _ => 1
  | .fork _ bs => deeps bs + 1
def deeps : List (List Nat × Tr) → Nat
  | [] => 0
  | (_, t) :: r => max t.deep (deeps r)
end
theorem Tr.deep_pos (t : Tr) : 1 ≤ t.deep := by cases t <;> simp [Tr.deep]
mutual
/-- the data's depth by the tree's -/
theorem Tr.dep_le : ∀ t : Tr, dep t.toD ≤ 3 * t.deep
  | .leaf t n => by simp [Tr.toD, dep, deps, Tr.deep]
  | .fork t bs => by
    have := toDs_dep bs
    simp [Tr.toD, dep, deps, Tr.deep]
    omega
theorem toDs_dep : ∀ bs : List (List Nat × Tr), deps (toDs bs) ≤ 3 * deeps bs + 1
  | [] => by simp [toDs, deps]
  | (s, t) :: r => by
    have h0 := t.deep_pos
    have h1 := Tr.dep_le t
    have h2 := toDs_dep r
    simp [toDs, deps, dep, deeps]
    omega
end
/-! ### promises -/
def spWhole (K : PySem.W.Frag) : Sp := fun vs H Q _ => ∃ (v : V) (i : Int), vs = [v] ∧ Dp K H v (.int i) ∧ Q (.bl true) H
def spAlike (K : PySem.W.Frag) (n : Nat) : Sp := fun vs H Q _ => ∃ (v u : V) (d : PyData), vs = [v, u] ∧ Dp K H v d ∧ Dp K H u d ∧ plain d = true ∧ dep d ≤ n ∧ ∀ H', Same H H' → Q (.bl true) H'
/-- what is made is the data D, at a new place or none -/
def gives (K : PySem.W.Frag) (H : Hp) (D : PyData) (Q : VK) : Prop := ∀ (v : V) (H' : Hp), Same H H' → Dp K H' v D → Q v H'
def numGo (c : Int) : Nat → Int × Int
  | 0 => (c, 0)
  | k + 1 => (lcg (numGo c k).1, (numGo c k).2 * 10 + lcg (numGo c k).1 / 7 % 10)
def numOf (c : Int) : Int :=
  if c % 5 > 1 then c / 5 % 39 - 19 else
    (if c / 5 % 2 = 0 then 1 else -1) * (numGo c (if c % 5 = 0 then 60 else 1 + c / 10 % 60).toNat).2
def spNum : Sp := fun vs H Q _ => ∃ c : Int, vs = [.int c] ∧ ∀ H', Same H H' → Q (.int (numOf c)) H'
end RT
namespace RT
open PySem PySem.Spec PyProof.Rows L2
def Tr.text : Tr → List Nat
  | .leaf t _ => t
  | .fork t _ => t
/-- the tree of the names with b ahead of each -/
def Tr.ahd (b : List Nat) : Tr → Tr
  | .leaf t n => .leaf (b ++ t) n
  | .fork t bs => .fork (b ++ t) bs
def spAhead (K : PySem.W.Frag) : Sp := fun vs H Q _ => ∃ (v : V) (o : Option Tr) (b : List Nat), vs = [v, .str (st b)] ∧ Dp K H v (oD o) ∧ b.length ≤ 5000 ∧ (∀ t, o = some t → t.text.length ≤ 1000) ∧ gives K H (oD (o.map (Tr.ahd b))) Q
/-- a tree's data, looked into -/
theorem Dp_tree {K : PySem.W.Frag} {H : Hp} {v : V} {t : Tr} (h : Dp K H v t.toD) : ∃ p x z, v = .ref p ∧ SqT K H p [x, .str (st t.text), z] ∧
    ((∃ n, t = .leaf t.text n ∧ x = .str (Str.ofString "leaf") ∧ z = .int n) ∨ ∃ bs, t = .fork t.text bs ∧ x = .str (Str.ofString "fork") ∧ Dp K H z (.tuple (toDs bs))) := by
  cases t with
  | leaf t n =>
    obtain ⟨p, x, y, z, rfl, hs, h1, h2, h3⟩ := Dp_three h
    cases Dp_str h1
    cases Dp_str h2
    cases Dp_int h3
    exact ⟨p, _, _, rfl, hs, .inl ⟨n, rfl, rfl, rfl⟩⟩
  | fork t bs =>
    obtain ⟨p, x, y, z, rfl, hs, h1, h2, h3⟩ := Dp_three h
    cases Dp_str h1
    cases Dp_str h2
    exact ⟨p, _, _, rfl, hs, .inr ⟨bs, rfl, rfl, h3⟩⟩
/-- a pair, a triple laid anew -/
theorem Dp_new {K : PySem.W.Frag} {H : Hp} {p : Addr} {xs : List V} {ds : List PyData} (np : H p = none) (h : DpAll K H xs ds) : Dp K (upd H p (.tup xs)) (.ref p) (.tuple ds) :=
  .tup (SqT.of upd_same) (DpAll_same (same_new np _) h)
end RT
namespace RT
open PySem PySem.Spec PyProof.Rows L2
/-! ### what lists leave alone -/
mutual
def nolist : PyData → Bool
  | .list _ => false
  | .tuple xs => nolists xs
  | _ => true
def nolists : List PyData → Bool
  | [] => true
  | x :: r => nolist x && nolists r
end
/-- all that was tracked is as it was, but for lists -/
def Keep (H H' : Hp) : Prop := ∀ b o, H b = some o → (∃ ys, o = .lst ys) ∨ H' b = some o
theorem keep_of {H H' : Hp} (s : Same H H') : Keep H H' := fun b o e => .inr (s b o e)
theorem Keep.trans {H H1 H2 : Hp} (a : Keep H H1) (b : Keep H1 H2) : Keep H H2 := fun c o e => by
  rcases a c o e with h | h
  · exact .inl h
  · exact b c o h
theorem keep_upd {H : Hp} {L : Addr} {xs : List V} (h : H L = some (.lst xs)) (o : HO) : Keep H (upd H L o) := fun b u e => by
  by_cases hb : b = L
  · subst hb; rw [h] at e; exact .inl ⟨xs, (Option.some.inj e).symm⟩
  · exact .inr (by rw [upd_ne hb]; exact e)
mutual
theorem Dp_keep {K : PySem.W.Frag} {H H' : Hp} (e : Keep H H') : ∀ {v : V} {d : PyData}, nolist d = true → Dp K H v d → Dp K H' v d
  | _, _, _, .non => .non
  | _, _, _, .bl b => .bl b
  | _, _, _, .int i => .int i
  | _, _, _, .str x => .str x
  | _, _, h, .lst s a => by simp [nolist] at h
  | _, _, h, .tup s a => .tup (by
      rcases s with (s | ⟨o, s⟩) | s
      · rcases e _ _ s with ⟨_, z⟩ | z
        · cases z
        · exact .inl (.inl z)
      · rcases e _ _ s with ⟨_, z⟩ | z
        · cases z
        · exact .inl (.inr ⟨o, z⟩)
      · exact .inr s) (DpAll_keep e (by simpa [nolist] using h) a)
theorem DpAll_keep {K : PySem.W.Frag} {H H' : Hp} (e : Keep H H') : ∀ {vs : List V} {ds : List PyData}, nolists ds = true → DpAll K H vs ds → DpAll K H' vs ds
  | _, _, _, .nil => .nil
  | _, _, h, .cons a r => by
    simp only [nolists, Bool.and_eq_true] at h
    have h1 := h
    exact .cons (Dp_keep e h1.1 a) (DpAll_keep e h1.2 r)
end
mutual
theorem Tr.nolist : ∀ t : Tr, RT.nolist t.toD = true
  | .leaf t n => rfl
  | .fork t bs => by simp [Tr.toD, RT.nolist, nolists, toDs_nolist bs]
theorem toDs_nolist : ∀ bs : List (List Nat × Tr), nolists (toDs bs) = true
  | [] => rfl
  | (s, t) :: r => by simp [toDs, RT.nolist, nolists, Tr.nolist t, toDs_nolist r]
end
theorem toDs_app : ∀ a b : List (List Nat × Tr), toDs (a ++ b) = toDs a ++ toDs b
  | [], b => rfl
  | (s, t) :: r, b => by simp [toDs, toDs_app r b]
theorem oD_nolist (o : Option Tr) : RT.nolist (oD o) = true := by
  cases o with
  | none => rfl
  | some t => exact t.nolist
end RT

/-! sorted of a list of rows (text, number) -/
namespace RT
open PySem PySem.Spec PyProof.Rows L2
abbrev Row := List Nat × Int
def rowD (r : Row) : PyData := .tuple [.str (st r.1), .int r.2]
theorem rowD_lt {p q : Row} (h : p.1 ≠ q.1) : PySem.W.dataLt (rowD p) (rowD q) = decide (p.1 < q.1) := by
  unfold PySem.W.dataLt rowD
  simp only [PySem.W.keyToks, PySem.W.keyToksAll, List.cons_append, List.nil_append]
  rw [PyProof.Rows.lex_self, PyProof.Rows.lex_diff (fun e => h (by injection e))]
  show decide ((st p.1).cps.toList < (st q.1).cps.toList) = _
  simp
theorem le_lt {p q : Row} (h : PySem.W.dataLe false rowD p q = true) (hn : p.1 ≠ q.1) : p.1 < q.1 := by
  have e : (!PySem.W.dataLt (rowD q) (rowD p)) = true := h
  rw [rowD_lt (fun z => hn z.symm)] at e
  have e2 : ¬ q.1 < p.1 := by simpa using e
  refine Decidable.byContradiction fun z => hn ?_
  exact List.le_antisymm (List.not_lt.mp e2) (List.not_lt.mp z)
/-- the rows are told apart by their names -/
def Names (rs : List Row) : Prop := (rs.map (·.1)).Nodup
def Up (rs : List Row) : Prop := rs.Pairwise fun p q => p.1 < q.1
def rSortedR (K : PySem.W.Frag) : List V → Hp → VK → Prop := fun vs H Q => ∃ (a : Addr) (xs : List V) (rs : List Row), vs = [.ref a] ∧ SqL K H a xs ∧ DpAll K H xs (rs.map rowD) ∧ rs.length ≤ 10000 ∧ Names rs ∧
  ∀ (ys : List V) (es : List Row) (p : Addr), es.Perm rs → Up es → DpAll K H ys (es.map rowD) → H p = none → Q (.ref p) (upd H p (.lst ys))
section
variable {X : Cx}
theorem each_up {K : PySem.W.Frag} {H : Hp} {R : Value → Row → Prop} (h : ∀ u r, R u r → ∃ x, RelV x u ∧ Dp K H x (rowD r)) : ∀ {us : List Value} {rs : List Row}, PySem.W.EachIs R us rs → ∃ ys, Vals ys us ∧ DpAll K H ys (rs.map rowD)
  | _, _, .nil => ⟨[], .nil, .nil⟩
  | _, _, .cons a r => by
    obtain ⟨x, h1, h2⟩ := h _ _ a
    obtain ⟨ys, h3, h4⟩ := each_up h r
    exact ⟨x :: ys, .cons h1 h3, .cons h2 h4⟩
theorem each_dn {K : PySem.W.Frag} {H : Hp} : ∀ {xs : List V} {us : List Value} {rs : List Row}, Vals xs us → DpAll K H xs (rs.map rowD) → PySem.W.EachIs (fun u r => ∃ x, RelV x u ∧ Dp K H x (rowD r)) us rs
  | _, _, [], .nil, _ => .nil
  | _, _, [], .cons _ _, h => by cases h
  | _, _, _ :: _, .nil, h => by cases h
  | _, _, r :: rs, .cons a t, h => by
    cases h with
    | cons h1 h2 => exact .cons ⟨_, a, h1⟩ (each_dn t h2)
theorem cr_sortedR (hu : X.A.units + 100 < cLine) : CallR X (.builtin "sorted") (rSortedR X.K) := by
  intro pins s σ H vs us Q I r h
  obtain ⟨a, xs, rs, rfl, hs, hd, hl, hn, q⟩ := h
  obtain ⟨its, rv, pl, hz⟩ := I.list hs
  rw [Vals.ref1 r]
  have e := each_dn rv hd
  have er : PySem.W.EachIs (fun v b => ∃ as, Reads s.heap v (rowD b) as) its rs := e.mono fun u b ⟨x, h1, h2⟩ => Dp.reads I (rowD b) x u h2 h1
  refine PySem.W.sorted_data (enc := rowD) pl.isList e er ?_ (.inl fun d hd => ?_) (Nat.le_trans hl (by decide)) (fun b _ => ?_) fun out ho eo => ?_
  · intro d hd d' hd'
    obtain ⟨b, _, rfl⟩ := List.mem_map.mp hd
    obtain ⟨c, _, rfl⟩ := List.mem_map.mp hd'
    rfl
  · obtain ⟨b, _, rfl⟩ := List.mem_map.mp hd
    exact ⟨_, _, rfl⟩
  · have hd : (rowD b).depth = 1 := by simp [rowD, PyData.depth, PyData.depthAll]
    omega
  · obtain ⟨ys, v1, d1⟩ := each_up (fun u r h => h) eo
    obtain ⟨ep, at'⟩ := PyProof.Rows.sortedAll_at s.heap its out.toArray
    have hp : (rs.mergeSort (PySem.W.dataLe false rowD)).Perm rs := List.mergeSort_perm _ _
    have hys : ys.length = rs.length := by
      have h1 := DpAll_len d1
      rw [List.length_map, hp.length_eq] at h1
      exact h1
    have up : Up (rs.mergeSort (PySem.W.dataLe false rowD)) := by
      have T := PySem.W.sortLe_total (PyProof.Rows.listOrd PyProof.Rows.itemOrd) false fun b : Row => PySem.W.keyToks (rowD b)
      have pw : (rs.mergeSort (PySem.W.dataLe false rowD)).Pairwise fun p q => PySem.W.dataLe false rowD p q = true := List.pairwise_mergeSort T.trans (fun a b => by rcases T.total a b with h | h <;> simp [h]) rs
      have nd : (rs.mergeSort (PySem.W.dataLe false rowD)).Pairwise fun p q => p.1 ≠ q.1 := by
        have : ((rs.mergeSort (PySem.W.dataLe false rowD)).map (·.1)).Nodup := (hp.map _).nodup_iff.mpr hn
        exact List.pairwise_map.mp this
      exact (pw.and nd).imp fun ⟨h1, h2⟩ => le_lt h1 h2
    refine ⟨.ref _, upd H (s.heap.objs.size + 1) (.lst ys), I.laid (t' := s.toks) (fun _ _ => PyProof.Rows.sortedAll_old) (Nat.le_succ _) ⟨by rw [hys]; exact Nat.le_trans hl (by decide), out, ep, v1, at'⟩, rfl, q ys _ _ hp up d1 (I.hok.fresh (Nat.le_succ _))⟩
end
end RT

/-! the one tree of some rows -/
namespace RT
open PySem
/-! ### the order -/
theorem lt_nil (a : List Nat) : ¬ a < [] := List.not_lt_nil a
theorem nil_lt {b : List Nat} (h : b ≠ []) : [] < b := by
  cases b with
  | nil => exact absurd rfl h
  | cons x r => exact List.nil_lt_cons x r
theorem cons_lt {a b : Nat} {r s : List Nat} : a :: r < b :: s ↔ a < b ∨ (a = b ∧ r < s) := List.cons_lt_cons_iff
theorem app_lt (p : List Nat) {a b : List Nat} : p ++ a < p ++ b ↔ a < b := by
  induction p with
  | nil => rfl
  | cons x r ih => rw [List.cons_append, List.cons_append, cons_lt, ih]; simp
theorem lt_irr (a : List Nat) : ¬ a < a := List.lt_irrefl a
theorem lt_trans {a b c : List Nat} (h : a < b) (h2 : b < c) : a < c := List.lt_trans h h2
theorem lt_tri {a b : List Nat} (h : ¬ a < b) (h2 : ¬ b < a) : a = b := List.le_antisymm (List.not_lt.mp h2) (List.not_lt.mp h)
/-- signs: what is ahead by the sign is ahead -/
theorem sign_lt {s t : List Nat} (hs : s.length ≤ 1) (ht : t.length ≤ 1) (h : s < t) (hn : s = [] → x = []) : s ++ x < t ++ y := by
  match s, t, hs, ht, h, hn with
  | [], [], _, _, h, _ => exact absurd h (lt_irr _)
  | [], [d], _, _, _, hn => rw [hn rfl]; exact List.nil_lt_cons _ _
  | [c], [], _, _, h, _ => exact absurd h (lt_nil _)
  | [c], [d], _, _, h, _ =>
    rcases cons_lt.mp h with h | ⟨_, h⟩
    · exact cons_lt.mpr (.inl h)
    · exact absurd h (lt_irr _)
/-- two risen lists of the same rows are one -/
theorem up_ext : ∀ {a b : List Row}, Up a → Up b → (∀ r, r ∈ a ↔ r ∈ b) → a = b
  | [], [], _, _, _ => rfl
  | [], y :: s, _, _, h => by have := (h y).mpr (List.mem_cons_self ..); simp at this
  | x :: r, [], _, _, h => by have := (h x).mp (List.mem_cons_self ..); simp at this
  | x :: r, y :: s, ha, hb, h => by
    obtain ⟨a1, a2⟩ := List.pairwise_cons.mp ha
    obtain ⟨b1, b2⟩ := List.pairwise_cons.mp hb
    have e : x = y := by
      rcases List.mem_cons.mp ((h x).mp (List.mem_cons_self ..)) with e | m1
      · exact e
      rcases List.mem_cons.mp ((h y).mpr (List.mem_cons_self ..)) with e | m2
      · exact e.symm
      exact absurd (lt_trans (a1 y m2) (b1 x m1)) (lt_irr _)
    subst e
    have e2 : r = s := up_ext a2 b2 fun z => by
      constructor
      · intro hz
        rcases List.mem_cons.mp ((h z).mp (List.mem_cons_of_mem _ hz)) with e | m
        · subst e; exact absurd (a1 z hz) (lt_irr _)
        · exact m
      · intro hz
        rcases List.mem_cons.mp ((h z).mpr (List.mem_cons_of_mem _ hz)) with e | m
        · subst e; exact absurd (b1 z hz) (lt_irr _)
        · exact m
    rw [e2]
theorem up_inj {a : List Row} (h : Up a) {x : List Nat} {n m : Int} (h1 : (x, n) ∈ a) (h2 : (x, m) ∈ a) : n = m := by
  induction a with
  | nil => simp at h1
  | cons y r ih =>
    obtain ⟨a1, a2⟩ := List.pairwise_cons.mp h
    rcases List.mem_cons.mp h1 with e1 | m1
    · rcases List.mem_cons.mp h2 with e2 | m2
      · rw [← e1] at e2; injection e2 with _ e2; exact e2.symm
      · exact absurd (a1 _ m2) (by rw [← e1]; exact lt_irr _)
    · rcases List.mem_cons.mp h2 with e2 | m2
      · exact absurd (a1 _ m1) (by rw [← e2]; exact lt_irr _)
      · exact ih a2 m1 m2
theorem up_names {a : List Row} (h : Up a) : Names a := by
  refine List.pairwise_map.mpr (h.imp fun h e => ?_)
  rw [e] at h
  exact lt_irr _ h
/-! ### a tree's rows -/
def pre (p : List Nat) (r : Row) : Row := (p ++ r.1, r.2)
mutual
def Tr.rws : Tr → List Row
  | .leaf t n => [(t, n)]
  | .fork t bs => (rwss bs).map (pre t)
def rwss : List (List Nat × Tr) → List Row
  | [] => []
  | (s, t) :: r => t.rws.map (pre s) ++ rwss r
end
mutual
/-- the form that the document tells -/
def Wf : Tr → Prop
  | .leaf _ _ => True
  | .fork _ bs => 2 ≤ bs.length ∧ WfB bs
def WfB : List (List Nat × Tr) → Prop
  | [] => True
  | (s, t) :: r => s.length ≤ 1 ∧ (s = [] → ∃ n, t = .leaf [] n) ∧ Wf t ∧ (∀ b ∈ r, s < b.1) ∧ WfB r
end
section
variable {P : Tr → Prop} (hl : ∀ t n, P (.leaf t n)) (hf : ∀ t bs, (∀ b ∈ bs, P b.2) → P (.fork t bs))
include hl hf
mutual
theorem Tr.ind : ∀ t, P t
  | .leaf t n => hl t n
  | .fork t bs => hf t bs (Trs_ind bs)
theorem Trs_ind : ∀ (bs : List (List Nat × Tr)), ∀ b ∈ bs, P b.2
  | [], _, h => by simp at h
  | (s, t) :: r, b, h => by
    rcases List.mem_cons.mp h with e | m
    · rw [e]; exact Tr.ind t
    · exact Trs_ind r b m
end
end
/-- a branch as it should be -/
def OkB (b : List Nat × Tr) : Prop := b.1.length ≤ 1 ∧ (b.1 = [] → ∃ n, b.2 = .leaf [] n) ∧ Wf b.2
theorem wfB_iff : ∀ {bs : List (List Nat × Tr)}, WfB bs ↔ (∀ b ∈ bs, OkB b) ∧ bs.Pairwise fun a b => a.1 < b.1
  | [] => by simp [WfB]
  | (s, t) :: r => by
    have ih := wfB_iff (bs := r)
    simp only [WfB, ih, List.mem_cons, List.pairwise_cons]
    constructor
    · rintro ⟨h1, h2, h3, h4, h5, h6⟩
      exact ⟨fun b hb => hb.elim (fun e => by rw [e]; exact ⟨h1, h2, h3⟩) (h5 b), h4, h6⟩
    · rintro ⟨h1, h2, h3⟩
      obtain ⟨a1, a2, a3⟩ := h1 (s, t) (.inl rfl)
      exact ⟨a1, a2, a3, h2, fun b hb => h1 b (.inr hb), h3⟩
theorem mem_rwss : ∀ {bs : List (List Nat × Tr)} {y : List Nat} {m : Int}, (y, m) ∈ rwss bs ↔ ∃ b ∈ bs, ∃ w, y = b.1 ++ w ∧ (w, m) ∈ b.2.rws
  | [], y, m => by simp [rwss]
  | (s, t) :: r, y, m => by
    have ih := mem_rwss (bs := r) (y := y) (m := m)
    simp only [rwss, List.mem_append, List.mem_map, ih, List.mem_cons]
    constructor
    · rintro (⟨⟨w, k⟩, hw, e⟩ | ⟨b, hb, w, h⟩)
      · injection e with e1 e2
        exact ⟨(s, t), .inl rfl, w, e1.symm, by rw [← e2]; exact hw⟩
      · exact ⟨b, .inr hb, w, h⟩
    · rintro ⟨b, (e | hb), w, h1, h2⟩
      · subst e; exact .inl ⟨(w, m), h2, by rw [h1]; rfl⟩
      · exact .inr ⟨b, hb, w, h1, h2⟩
theorem mem_fork {t : List Nat} {bs : List (List Nat × Tr)} {x : List Nat} {m : Int} : (x, m) ∈ (Tr.fork t bs).rws ↔ ∃ y, x = t ++ y ∧ (y, m) ∈ rwss bs := by
  simp only [Tr.rws, List.mem_map]
  constructor
  · rintro ⟨⟨y, k⟩, h, e⟩
    injection e with e1 e2
    exact ⟨y, e1.symm, by rw [← e2]; exact h⟩
  · rintro ⟨y, e, h⟩
    exact ⟨(y, m), h, by rw [e]; rfl⟩
theorem mem_leaf {t x : List Nat} {n m : Int} : (x, m) ∈ (Tr.leaf t n).rws ↔ x = t ∧ m = n := by simp [Tr.rws]
/-- a name's sign and what is behind it -/
theorem sign_of {b : List Nat × Tr} (h : OkB b) {w : List Nat} {m : Int} (hw : (w, m) ∈ b.2.rws) : b.1 = (b.1 ++ w).take 1 ∧ w = (b.1 ++ w).drop 1 := by
  obtain ⟨h1, h2, _⟩ := h
  cases e : b.1 with
  | nil =>
    obtain ⟨n, e2⟩ := h2 e
    rw [e2] at hw
    rw [(mem_leaf.mp hw).1]
    exact ⟨rfl, rfl⟩
  | cons c r =>
    rw [e] at h1
    cases r with
    | nil => exact ⟨rfl, rfl⟩
    | cons d r => simp at h1
theorem pair_eq {bs : List (List Nat × Tr)} (h : bs.Pairwise fun a b => a.1 < b.1) {a b : List Nat × Tr} (ha : a ∈ bs) (hb : b ∈ bs) (e : a.1 = b.1) : a = b := by
  induction bs with
  | nil => simp at ha
  | cons x r ih =>
    obtain ⟨h1, h2⟩ := List.pairwise_cons.mp h
    rcases List.mem_cons.mp ha with ea | ma
    · rcases List.mem_cons.mp hb with eb | mb
      · rw [ea, eb]
      · exact absurd (h1 _ mb) (by rw [← ea, e]; exact lt_irr _)
    · rcases List.mem_cons.mp hb with eb | mb
      · exact absurd (h1 _ ma) (by rw [← eb, e]; exact lt_irr _)
      · exact ih h2 ma mb
theorem up_map {p : List Nat} {rs : List Row} (h : Up rs) : Up (rs.map (pre p)) := by
  refine List.pairwise_map.mpr (h.imp fun h => ?_)
  exact (app_lt p).mpr h
theorem up_rwss : ∀ {bs : List (List Nat × Tr)}, WfB bs → (∀ b ∈ bs, Up b.2.rws) → Up (rwss bs)
  | [], _, _ => List.Pairwise.nil
  | (s, t) :: r, h, hu => by
    have h' := wfB_iff.mp h
    obtain ⟨h1, h2, h3, h4, h5⟩ := h
    refine List.pairwise_append.mpr ⟨up_map (hu (s, t) (List.mem_cons_self ..)), up_rwss h5 fun b hb => hu b (List.mem_cons_of_mem _ hb), ?_⟩
    rintro ⟨x, n⟩ hx ⟨y, m⟩ hy
    obtain ⟨⟨w, k⟩, hw, e⟩ := List.mem_map.mp hx
    injection e with e1 e2
    obtain ⟨b, hb, v, e3, hv⟩ := mem_rwss.mp hy
    show x < y
    rw [← e1, e3]
    refine sign_lt h1 (h'.1 b (List.mem_cons_of_mem _ hb)).1 (h4 b hb) fun e => ?_
    obtain ⟨n', e'⟩ := h2 e
    rw [e'] at hw
    exact (mem_leaf.mp hw).1
theorem up_rws : ∀ t : Tr, Wf t → Up t.rws := by
  refine Tr.ind (fun t n _ => ?_) (fun t bs ih h => ?_)
  · exact List.pairwise_singleton _ _
  · have h2 := wfB_iff.mp h.2
    exact up_map (up_rwss h.2 fun b hb => ih b hb (h2.1 b hb).2.2)
theorem rws_ne : ∀ t : Tr, Wf t → ∃ r, r ∈ t.rws := by
  refine Tr.ind (fun t n _ => ⟨(t, n), by simp [Tr.rws]⟩) (fun t bs ih h => ?_)
  have h2 := wfB_iff.mp h.2
  cases bs with
  | nil => have := h.1; simp at this
  | cons b r =>
    obtain ⟨⟨w, m⟩, hw⟩ := ih b (List.mem_cons_self ..) (h2.1 b (List.mem_cons_self ..)).2.2
    exact ⟨(t ++ (b.1 ++ w), m), mem_fork.mpr ⟨_, rfl, mem_rwss.mpr ⟨b, List.mem_cons_self .., w, rfl, hw⟩⟩⟩
/-- in a fork there is no longer text with which all begin -/
theorem fork_text {t p : List Nat} {bs : List (List Nat × Tr)} (h : Wf (.fork t bs)) (hp : ∀ x m, (x, m) ∈ (Tr.fork t bs).rws → p <+: x) : p <+: t := by
  have h2 := wfB_iff.mp h.2
  match bs, h, h2, hp with
  | [], h, _, _ => have := h.1; simp at this
  | [b], h, _, _ => have := h.1; simp at this
  | a :: b :: r, h, h2, hp =>
    have ma : a ∈ a :: b :: r := List.mem_cons_self ..
    have mb : b ∈ a :: b :: r := List.mem_cons_of_mem _ (List.mem_cons_self ..)
    obtain ⟨⟨w, m⟩, hw⟩ := rws_ne a.2 (h2.1 a ma).2.2
    obtain ⟨⟨v, k⟩, hv⟩ := rws_ne b.2 (h2.1 b mb).2.2
    have p1 := hp _ _ (mem_fork.mpr ⟨_, rfl, mem_rwss.mpr ⟨a, ma, w, rfl, hw⟩⟩)
    have p2 := hp _ _ (mem_fork.mpr ⟨_, rfl, mem_rwss.mpr ⟨b, mb, v, rfl, hv⟩⟩)
    have ne : a.1 ≠ b.1 := fun e => by
      have := (List.pairwise_cons.mp h2.2).1 b (List.mem_cons_self ..)
      rw [e] at this; exact lt_irr _ this
    by_cases hl : p.length ≤ t.length
    · exact List.prefix_of_prefix_length_le p1 (List.prefix_append t _) hl
    · exfalso
      have q1 : t <+: p := List.prefix_of_prefix_length_le (List.prefix_append t _) p1 (by omega)
      obtain ⟨u, rfl⟩ := q1
      have u1 : u <+: a.1 ++ w := (List.prefix_append_right_inj t).mp p1
      have u2 : u <+: b.1 ++ v := (List.prefix_append_right_inj t).mp p2
      have s1 := (sign_of (h2.1 a ma) hw).1
      have s2 := (sign_of (h2.1 b mb) hv).1
      cases u with
      | nil => simp at hl
      | cons c u =>
        obtain ⟨u', e1⟩ := u1
        obtain ⟨u'', e2⟩ := u2
        rw [← e1] at s1
        rw [← e2] at s2
        exact ne (by rw [s1, s2]; rfl)
/-- THE ONE TREE -/
theorem one_tree : ∀ t : Tr, Wf t → ∀ t' : Tr, Wf t' → (∀ r, r ∈ t.rws ↔ r ∈ t'.rws) → t = t' := by
  have two : ∀ {t : List Nat} {bs : List (List Nat × Tr)}, Wf (.fork t bs) → ∃ x y m k, x ≠ y ∧ (x, m) ∈ (Tr.fork t bs).rws ∧ (y, k) ∈ (Tr.fork t bs).rws := fun {t bs} h => by
    have h2 := wfB_iff.mp h.2
    match bs, h, h2 with
    | [], h, _ => have := h.1; simp at this
    | [b], h, _ => have := h.1; simp at this
    | a :: b :: r, h, h2 =>
      have ma : a ∈ a :: b :: r := List.mem_cons_self ..
      have mb : b ∈ a :: b :: r := List.mem_cons_of_mem _ (List.mem_cons_self ..)
      obtain ⟨⟨w, m⟩, hw⟩ := rws_ne a.2 (h2.1 a ma).2.2
      obtain ⟨⟨v, k⟩, hv⟩ := rws_ne b.2 (h2.1 b mb).2.2
      refine ⟨_, _, m, k, fun e => ?_, mem_fork.mpr ⟨_, rfl, mem_rwss.mpr ⟨a, ma, w, rfl, hw⟩⟩, mem_fork.mpr ⟨_, rfl, mem_rwss.mpr ⟨b, mb, v, rfl, hv⟩⟩⟩
      have e2 := List.append_cancel_left e
      have s1 := (sign_of (h2.1 a ma) hw).1
      have s2 := (sign_of (h2.1 b mb) hv).1
      have lt := (List.pairwise_cons.mp h2.2).1 b (List.mem_cons_self ..)
      rw [s1, e2, ← s2] at lt
      exact lt_irr _ lt
  refine Tr.ind (fun t n _ t' h' hr => ?_) (fun t bs ih h t' h' hr => ?_)
  · cases t' with
    | leaf u m =>
      obtain ⟨e1, e2⟩ := mem_leaf.mp ((hr (t, n)).mp (by simp [Tr.rws]))
      rw [e1, e2]
    | fork u cs =>
      obtain ⟨x, y, m, k, ne, h1, h2⟩ := two h'
      have a := (mem_leaf.mp ((hr _).mpr h1)).1
      have b := (mem_leaf.mp ((hr _).mpr h2)).1
      exact absurd (a.trans b.symm) ne
  · cases t' with
    | leaf u m =>
      obtain ⟨x, y, m, k, ne, h1, h2⟩ := two h
      have a := (mem_leaf.mp ((hr _).mp h1)).1
      have b := (mem_leaf.mp ((hr _).mp h2)).1
      exact absurd (a.trans b.symm) ne
    | fork u cs =>
      have w := wfB_iff.mp h.2
      have w' := wfB_iff.mp h'.2
      have p1 : t <+: u := fork_text h' fun x m hx => by
        obtain ⟨y, e, _⟩ := mem_fork.mp ((hr _).mpr hx)
        rw [e]; exact List.prefix_append _ _
      have p2 : u <+: t := fork_text h fun x m hx => by
        obtain ⟨y, e, _⟩ := mem_fork.mp ((hr _).mp hx)
        rw [e]; exact List.prefix_append _ _
      have et : t = u := List.IsPrefix.eq_of_length p1 (Nat.le_antisymm p1.length_le p2.length_le)
      subst et
      have hy : ∀ y m, (y, m) ∈ rwss bs ↔ (y, m) ∈ rwss cs := fun y m => by
        have := hr (t ++ y, m)
        rw [mem_fork, mem_fork] at this
        constructor
        · intro z
          obtain ⟨y', e, z'⟩ := this.mp ⟨y, rfl, z⟩
          rw [List.append_cancel_left e]; exact z'
        · intro z
          obtain ⟨y', e, z'⟩ := this.mpr ⟨y, rfl, z⟩
          rw [List.append_cancel_left e]; exact z'
      -- each branch of the one is a branch of the other
      have half : ∀ {bs cs : List (List Nat × Tr)}, ((∀ b ∈ bs, OkB b) ∧ bs.Pairwise fun a b => a.1 < b.1) → ((∀ b ∈ cs, OkB b) ∧ cs.Pairwise fun a b => a.1 < b.1) → (∀ y m, (y, m) ∈ rwss bs ↔ (y, m) ∈ rwss cs) →
          ∀ b ∈ bs, ∃ c ∈ cs, c.1 = b.1 ∧ ∀ r, r ∈ b.2.rws ↔ r ∈ c.2.rws := fun {bs cs} w w' hy b hb => by
        obtain ⟨⟨v, k⟩, hv⟩ := rws_ne b.2 (w.1 b hb).2.2
        obtain ⟨c, hc, v', e, hv'⟩ := mem_rwss.mp ((hy _ _).mp (mem_rwss.mpr ⟨b, hb, v, rfl, hv⟩))
        have ec : c.1 = b.1 := by
          rw [(sign_of (w'.1 c hc) hv').1, ← e, ← (sign_of (w.1 b hb) hv).1]
        refine ⟨c, hc, ec, fun ⟨z, m⟩ => ⟨fun hz => ?_, fun hz => ?_⟩⟩
        · obtain ⟨c', hc', z', e', hz'⟩ := mem_rwss.mp ((hy _ _).mp (mem_rwss.mpr ⟨b, hb, z, rfl, hz⟩))
          have e1 : c'.1 = b.1 := by rw [(sign_of (w'.1 c' hc') hz').1, ← e', ← (sign_of (w.1 b hb) hz).1]
          have e2 := pair_eq w'.2 hc' hc (e1.trans ec.symm)
          subst e2
          rw [e1] at e'
          rw [List.append_cancel_left e']; exact hz'
        · obtain ⟨b', hb', z', e', hz'⟩ := mem_rwss.mp ((hy _ _).mpr (mem_rwss.mpr ⟨c, hc, z, rfl, hz⟩))
          have e1 : b'.1 = b.1 := by rw [(sign_of (w.1 b' hb') hz').1, ← e', ← (sign_of (w'.1 c hc) hz).1, ec]
          have e2 := pair_eq w.2 hb' hb e1
          subst e2
          rw [ec] at e'
          rw [List.append_cancel_left e']; exact hz'
      have sub1 : ∀ b ∈ bs, b ∈ cs := fun b hb => by
        obtain ⟨c, hc, ec, hm⟩ := half w w' hy b hb
        have := ih b hb (w.1 b hb).2.2 c.2 (w'.1 c hc).2.2 hm
        have e : b = c := Prod.ext ec.symm this
        rw [e]; exact hc
      have sub2 : ∀ b ∈ cs, b ∈ bs := fun c hc => by
        obtain ⟨b, hb, eb, hm⟩ := half w' w (fun y m => (hy y m).symm) c hc
        have := ih b hb (w.1 b hb).2.2 c.2 (w'.1 c hc).2.2 fun r => (hm r).symm
        have e : b = c := Prod.ext eb this
        rw [← e]; exact hb
      have ext : ∀ {as bs : List (List Nat × Tr)}, as.Pairwise (fun a b => a.1 < b.1) → bs.Pairwise (fun a b => a.1 < b.1) → (∀ b ∈ as, b ∈ bs) → (∀ b ∈ bs, b ∈ as) → as = bs := by
        intro as
        induction as with
        | nil => intro bs _ _ _ h; cases bs with
          | nil => rfl
          | cons y s => have := h y (List.mem_cons_self ..); simp at this
        | cons x r ihl =>
          intro bs ha hb h1 h2
          cases bs with
          | nil => have := h1 x (List.mem_cons_self ..); simp at this
          | cons y s =>
            obtain ⟨a1, a2⟩ := List.pairwise_cons.mp ha
            obtain ⟨b1, b2⟩ := List.pairwise_cons.mp hb
            have e : x = y := by
              rcases List.mem_cons.mp (h1 x (List.mem_cons_self ..)) with e | m1
              · exact e
              rcases List.mem_cons.mp (h2 y (List.mem_cons_self ..)) with e | m2
              · exact e.symm
              exact absurd (lt_trans (a1 y m2) (b1 x m1)) (lt_irr _)
            subst e
            have e2 := ihl a2 b2 (fun z hz => by
              rcases List.mem_cons.mp (h1 z (List.mem_cons_of_mem _ hz)) with e | m
              · subst e; exact absurd (a1 z hz) (lt_irr _)
              · exact m) (fun z hz => by
              rcases List.mem_cons.mp (h2 z (List.mem_cons_of_mem _ hz)) with e | m
              · subst e; exact absurd (b1 z hz) (lt_irr _)
              · exact m)
            rw [e2]
      rw [ext w.2 w'.2 sub1 sub2]
/-- a tree, or None, of just these rows -/
def Treed : Option Tr → List Row → Prop
  | none, R => R = []
  | some t, R => Wf t ∧ t.rws = R
theorem treed_one {o o' : Option Tr} {R : List Row} (h : Treed o R) (h' : Treed o' R) : o = o' := by
  cases o with
  | none =>
    cases o' with
    | none => rfl
    | some t =>
      have e : R = [] := h
      obtain ⟨r, hr⟩ := rws_ne t h'.1
      rw [h'.2, e] at hr; simp at hr
  | some t =>
    cases o' with
    | none =>
      have e : R = [] := h'
      obtain ⟨r, hr⟩ := rws_ne t h.1
      rw [h.2, e] at hr; simp at hr
    | some u => rw [one_tree t h.1 u h'.1 fun r => by rw [h.2, h'.2]]
end RT

/-! what the program's functions do with trees -/
namespace RT
open PySem
def innr (bs : List (List Nat × Tr)) (s : List Nat) : Option Tr :=
  match bs with
  | [] => none
  | (a, t) :: r => if a = s then some t else innr r s
theorem innr_mem : ∀ {bs : List (List Nat × Tr)} {s : List Nat} {t : Tr}, innr bs s = some t → (s, t) ∈ bs
  | [], _, _, h => by simp [innr] at h
  | (a, u) :: r, s, t, h => by
    unfold innr at h
    split at h
    · rename_i e; subst e; injection h with h; rw [h]; exact List.mem_cons_self ..
    · exact List.mem_cons_of_mem _ (innr_mem h)
theorem mem_innr : ∀ {bs : List (List Nat × Tr)} {s : List Nat} {t : Tr}, bs.Pairwise (fun a b => a.1 < b.1) → (s, t) ∈ bs → innr bs s = some t
  | [], _, _, _, h => by simp at h
  | (a, u) :: r, s, t, hp, h => by
    obtain ⟨h1, h2⟩ := List.pairwise_cons.mp hp
    unfold innr
    rcases List.mem_cons.mp h with e | m
    · injection e with e1 e2; rw [if_pos e1.symm, e2]
    · have : a ≠ s := fun e => by have := h1 _ m; rw [e] at this; exact lt_irr _ this
      rw [if_neg this]; exact mem_innr h2 m
theorem innr_none {bs : List (List Nat × Tr)} {s : List Nat} (h : innr bs s = none) : ∀ b ∈ bs, b.1 ≠ s := by
  induction bs with
  | nil => intro b hb; simp at hb
  | cons x r ih =>
    obtain ⟨a, u⟩ := x
    unfold innr at h
    split at h
    · cases h
    · rename_i ne
      intro b hb
      rcases List.mem_cons.mp hb with e | m
      · rw [e]; exact ne
      · exact ih h b m
/-! ### found -/
mutual
def fnd : Tr → List Nat → Option Int
  | .leaf t n, x => if x = t then some n else none
  | .fork t bs, x => if t <+: x then fndIn bs ((x.drop t.length).take 1) ((x.drop t.length).drop 1) else none
def fndIn : List (List Nat × Tr) → List Nat → List Nat → Option Int
  | [], _, _ => none
  | (a, t) :: r, s, y => if a = s then fnd t y else fndIn r s y
end
theorem fndIn_eq : ∀ (bs : List (List Nat × Tr)) (s y : List Nat), fndIn bs s y = (innr bs s).bind fun t => fnd t y
  | [], _, _ => rfl
  | (a, t) :: r, s, y => by
    unfold fndIn innr
    by_cases h : a = s
    · rw [if_pos h, if_pos h]; rfl
    · rw [if_neg h, if_neg h]; exact fndIn_eq r s y
/-- a name in a fork: its branch -/
theorem mem_by_sign {t : List Nat} {bs : List (List Nat × Tr)} (h : Wf (.fork t bs)) {z : List Nat} {m : Int} : (t ++ z, m) ∈ (Tr.fork t bs).rws ↔ ∃ u, innr bs (z.take 1) = some u ∧ (z.drop 1, m) ∈ u.rws := by
  have w := wfB_iff.mp h.2
  rw [mem_fork]
  constructor
  · rintro ⟨y, e, hy⟩
    have e := List.append_cancel_left e
    subst e
    obtain ⟨b, hb, v, rfl, hv⟩ := mem_rwss.mp hy
    obtain ⟨s1, s2⟩ := sign_of (w.1 b hb) hv
    rw [← s1, ← s2]
    exact ⟨b.2, mem_innr w.2 hb, hv⟩
  · rintro ⟨u, hu, hz⟩
    exact ⟨z, rfl, mem_rwss.mpr ⟨_, innr_mem hu, z.drop 1, (List.take_append_drop 1 z).symm, hz⟩⟩
theorem fnd_iff : ∀ t : Tr, Wf t → ∀ x n, fnd t x = some n ↔ (x, n) ∈ t.rws := by
  refine Tr.ind (fun t n _ x m => ?_) (fun t bs ih h x m => ?_)
  · unfold fnd
    rw [mem_leaf]
    by_cases e : x = t
    · rw [if_pos e]; simp [e, eq_comm]
    · rw [if_neg e]; simp [e]
  · have w := wfB_iff.mp h.2
    unfold fnd
    by_cases hp : t <+: x
    · rw [if_pos hp]
      obtain ⟨z, rfl⟩ := hp
      rw [List.drop_left, fndIn_eq, mem_by_sign h]
      constructor
      · intro e
        cases hi : innr bs (z.take 1) with
        | none => rw [hi] at e; cases e
        | some u =>
          rw [hi] at e
          have mu := innr_mem hi
          exact ⟨u, rfl, (ih _ mu (w.1 _ mu).2.2 _ _).mp e⟩
      · rintro ⟨u, hu, hz⟩
        have mu := innr_mem hu
        rw [hu]
        exact (ih _ mu (w.1 _ mu).2.2 _ _).mpr hz
    · rw [if_neg hp]
      constructor
      · intro e; cases e
      · intro e
        obtain ⟨y, e, _⟩ := mem_fork.mp e
        exact absurd ⟨y, e.symm⟩ hp
theorem fnd_none {t : Tr} (h : Wf t) {x : List Nat} (hn : ∀ m, (x, m) ∉ t.rws) : fnd t x = none := by
  cases e : fnd t x with
  | none => rfl
  | some n => exact absurd ((fnd_iff t h x n).mp e) (hn n)
def fndO (o : Option Tr) (x : List Nat) : Option Int := o.bind fun t => fnd t x
/-! ### put -/
def placed (bs : List (List Nat × Tr)) (b : List Nat × Tr) : List (List Nat × Tr) := (bs.filter fun a => a.1 < b.1) ++ [b] ++ (bs.filter fun a => b.1 < a.1)
theorem mem_placed {bs : List (List Nat × Tr)} {b c : List Nat × Tr} : c ∈ placed bs b ↔ (c ∈ bs ∧ c.1 ≠ b.1) ∨ c = b := by
  unfold placed
  simp only [List.mem_append, List.mem_filter, decide_eq_true_eq, List.mem_singleton]
  constructor
  · rintro ((⟨h1, h2⟩ | h) | ⟨h1, h2⟩)
    · exact .inl ⟨h1, fun e => by rw [e] at h2; exact lt_irr _ h2⟩
    · exact .inr h
    · exact .inl ⟨h1, fun e => by rw [e] at h2; exact lt_irr _ h2⟩
  · rintro (⟨h1, h2⟩ | h)
    · by_cases l : c.1 < b.1
      · exact .inl (.inl ⟨h1, l⟩)
      · by_cases l2 : b.1 < c.1
        · exact .inr ⟨h1, l2⟩
        · exact absurd (lt_tri l l2) h2
    · exact .inl (.inr h)
theorem placed_pw {bs : List (List Nat × Tr)} {b : List Nat × Tr} (h : bs.Pairwise fun a b => a.1 < b.1) : (placed bs b).Pairwise fun a b => a.1 < b.1 := by
  unfold placed
  refine List.pairwise_append.mpr ⟨List.pairwise_append.mpr ⟨h.filter _, List.pairwise_singleton _ _, ?_⟩, h.filter _, ?_⟩
  · intro x hx y hy
    simp only [List.mem_filter, decide_eq_true_eq, List.mem_singleton] at hx hy
    rw [hy]; exact hx.2
  · intro x hx y hy
    simp only [List.mem_append, List.mem_filter, decide_eq_true_eq, List.mem_singleton] at hx hy
    rcases hx with ⟨_, h1⟩ | h1
    · exact lt_trans h1 hy.2
    · rw [h1]; exact hy.2
theorem two_of {α : Type} {l : List α} {a b : α} (h1 : a ∈ l) (h2 : b ∈ l) (ne : a ≠ b) : 2 ≤ l.length := by
  match l, h1, h2 with
  | [x], h1, h2 => simp at h1 h2; exact absurd (h1.trans h2.symm) ne
  | _ :: _ :: _, _, _ => simp
theorem placed_two {bs : List (List Nat × Tr)} {b : List Nat × Tr} (h : bs.Pairwise fun a b => a.1 < b.1) (h2 : 2 ≤ bs.length) : 2 ≤ (placed bs b).length := by
  match bs, h, h2 with
  | x :: y :: r, h, _ =>
    have lt := (List.pairwise_cons.mp h).1 y (List.mem_cons_self ..)
    have mb : b ∈ placed (x :: y :: r) b := mem_placed.mpr (.inr rfl)
    by_cases e : x.1 = b.1
    · have ne : y.1 ≠ b.1 := fun z => by rw [e, z] at lt; exact lt_irr _ lt
      exact two_of mb (mem_placed.mpr (.inl ⟨List.mem_cons_of_mem _ (List.mem_cons_self ..), ne⟩)) fun z => ne (by rw [z])
    · exact two_of mb (mem_placed.mpr (.inl ⟨List.mem_cons_self .., e⟩)) fun z => e (by rw [z])
def Tr.setText (u : List Nat) : Tr → Tr
  | .leaf _ n => .leaf u n
  | .fork _ bs => .fork u bs
/-- a tree as a branch behind a text of c signs -/
def brn (t : Tr) (c : Nat) : List Nat × Tr := ((t.text.drop c).take 1, t.setText ((t.text.drop c).drop 1))
theorem rws_ahd (p : List Nat) : ∀ t : Tr, (t.ahd p).rws = t.rws.map (pre p)
  | .leaf t n => rfl
  | .fork t bs => by
    show (rwss bs).map (pre (p ++ t)) = ((rwss bs).map (pre t)).map (pre p)
    rw [List.map_map]
    refine List.map_congr_left fun r _ => ?_
    show (p ++ t ++ r.1, r.2) = (p ++ (t ++ r.1), r.2)
    rw [List.append_assoc]
theorem wf_set {t : Tr} {u : List Nat} (h : Wf t) : Wf (t.setText u) := by cases t <;> exact h
theorem wf_ahd {t : Tr} {u : List Nat} (h : Wf t) : Wf (t.ahd u) := by cases t <;> exact h
theorem set_ahd {t : Tr} {p u : List Nat} (h : t.text = p ++ u) : (t.setText u).ahd p = t := by
  cases t with
  | leaf t n => have h : t = p ++ u := h; rw [h]; rfl
  | fork t bs => have h : t = p ++ u := h; rw [h]; rfl
theorem mem_set {t : Tr} {p u x : List Nat} {m : Int} (h : t.text = p ++ u) : (x, m) ∈ t.rws ↔ ∃ y, x = p ++ y ∧ (y, m) ∈ (t.setText u).rws := by
  conv => lhs; rw [← set_ahd h, rws_ahd]
  rw [List.mem_map]
  constructor
  · rintro ⟨⟨y, k⟩, hy, e⟩
    injection e with e1 e2
    exact ⟨y, e1.symm, by rw [← e2]; exact hy⟩
  · rintro ⟨y, e, hy⟩
    exact ⟨(y, m), hy, by rw [e]; rfl⟩
/-- two trees of which neither text begins the other's names alone: a new fork above them -/
def splitT (t u : Tr) : Tr := .fork (t.text.take (lcp t.text u.text)) (placed [brn t (lcp t.text u.text)] (brn u (lcp t.text u.text)))
theorem brn_ok {t : Tr} {c : Nat} (h : Wf t) (hf : (∃ n, t = .leaf t.text n) ∨ c < t.text.length) : OkB (brn t c) := by
  refine ⟨by simp [brn, List.length_take]; omega, fun e => ?_, wf_set h⟩
  have e : (t.text.drop c).take 1 = [] := e
  have e2 : t.text.drop c = [] := by
    cases hd : t.text.drop c with
    | nil => rfl
    | cons x r => rw [hd] at e; simp at e
  have hl : t.text.length ≤ c := by
    have := congrArg List.length e2
    simp at this; omega
  rcases hf with ⟨n, hn⟩ | hc
  · refine ⟨n, ?_⟩
    show t.setText ((t.text.drop c).drop 1) = _
    rw [e2, hn]; rfl
  · omega
theorem mem_brn {t : Tr} {c : Nat} (hc : c ≤ t.text.length) {x : List Nat} {m : Int} : (x, m) ∈ t.rws ↔ ∃ w, x = t.text.take c ++ ((brn t c).1 ++ w) ∧ (w, m) ∈ (brn t c).2.rws := by
  have e : t.text = (t.text.take c ++ (brn t c).1) ++ (t.text.drop c).drop 1 := by
    show t.text = (t.text.take c ++ (t.text.drop c).take 1) ++ (t.text.drop c).drop 1
    rw [List.append_assoc, List.take_append_drop, List.take_append_drop]
  rw [mem_set e]
  constructor
  · rintro ⟨y, e1, e2⟩; exact ⟨y, by rw [e1, List.append_assoc], e2⟩
  · rintro ⟨y, e1, e2⟩; exact ⟨y, by rw [e1, List.append_assoc], e2⟩
theorem drop_ne {a b : List Nat} (h : ¬ (lcp a b = a.length ∧ lcp a b = b.length)) : (a.drop (lcp a b)).take 1 ≠ (b.drop (lcp a b)).take 1 := by
  intro e
  have l1 := lcp_le1 a b
  have l2 := lcp_le2 a b
  have g : ∀ l : List Nat, (l.drop (lcp a b)).take 1 = (l[lcp a b]?).toList := fun l => by
    cases hd : l[lcp a b]? with
    | none =>
      have : l.length ≤ lcp a b := List.getElem?_eq_none_iff.mp hd
      rw [List.drop_of_length_le this]; rfl
    | some x =>
      obtain ⟨hlt, hx⟩ := List.getElem?_eq_some_iff.mp hd
      rw [List.drop_eq_getElem_cons hlt, hx]; rfl
  rw [g, g] at e
  cases ha : a[lcp a b]? with
  | none =>
    rw [ha] at e
    have h1 : a.length ≤ lcp a b := List.getElem?_eq_none_iff.mp ha
    cases hb : b[lcp a b]? with
    | none =>
      have h2 : b.length ≤ lcp a b := List.getElem?_eq_none_iff.mp hb
      exact h ⟨by omega, by omega⟩
    | some y => rw [hb] at e; simp at e
  | some x =>
    cases hb : b[lcp a b]? with
    | none => rw [ha, hb] at e; simp at e
    | some y =>
      rw [ha, hb] at e
      have e : x = y := by simpa using e
      subst e
      have h1 : lcp a b < a.length := (List.getElem?_eq_some_iff.mp ha).1
      have h2 : lcp a b < b.length := (List.getElem?_eq_some_iff.mp hb).1
      have hg := take_grow (lcp_take a b) ha hb
      have more : ∀ {a b : List Nat} {k : Nat}, a.take k = b.take k → k ≤ a.length → k ≤ b.length → k ≤ lcp a b := by
        intro a
        induction a with
        | nil => intro b k _ h1 _; simp at h1; omega
        | cons x r ih =>
          intro b k e h1 h2
          cases b with
          | nil => simp at h2; omega
          | cons y s =>
            cases k with
            | zero => omega
            | succ k =>
              simp only [List.take_succ_cons, List.cons.injEq] at e
              obtain ⟨e1, e2⟩ := e
              subst e1
              have := ih e2 (by simpa using h1) (by simpa using h2)
              unfold lcp; simp; exact this
      have := more hg (by omega) (by omega)
      omega
theorem lcp_eq_iff {a b : List Nat} : a.take (lcp a b) = a ↔ a <+: b := by
  constructor
  · intro e
    have h := lcp_take a b
    rw [e] at h
    rw [h]; exact List.take_prefix _ _
  · intro h
    have h2 := List.prefix_iff_eq_take.mp h
    have : lcp a b = a.length := lcp_of (by rw [List.take_length]; exact h2) (Nat.le_refl _) h.length_le (.inl (Nat.le_refl _))
    rw [this, List.take_length]
theorem lcp_len_iff {a b : List Nat} : lcp a b = a.length ↔ a <+: b := by
  rw [← lcp_eq_iff]
  constructor
  · intro e; rw [e, List.take_length]
  · intro e
    have := congrArg List.length e
    rw [List.length_take] at this
    have := lcp_le1 a b
    omega
theorem split_wf {t u : Tr} (ht : Wf t) (hu : Wf u) (f1 : (∃ n, t = .leaf t.text n) ∨ ¬ t.text <+: u.text) (f2 : (∃ n, u = .leaf u.text n) ∨ ¬ u.text <+: t.text) (ne : t.text ≠ u.text) :
    Wf (splitT t u) ∧ ∀ r, r ∈ (splitT t u).rws ↔ r ∈ t.rws ∨ r ∈ u.rws := by
  have l1 := lcp_le1 t.text u.text
  have l2 := lcp_le2 t.text u.text
  have dn : (brn t (lcp t.text u.text)).1 ≠ (brn u (lcp t.text u.text)).1 := drop_ne fun ⟨h1, h2⟩ => ne (by
    have p1 := lcp_len_iff.mp h1
    exact List.IsPrefix.eq_of_length p1 (by omega))
  have o1 : OkB (brn t (lcp t.text u.text)) := brn_ok ht (f1.imp id fun h => Nat.lt_of_le_of_ne l1 fun e => h (lcp_len_iff.mp e))
  have o2 : OkB (brn u (lcp t.text u.text)) := brn_ok hu (f2.imp id fun h => Nat.lt_of_le_of_ne l2 fun e => h (lcp_len_iff.mp (by rw [lcp_comm]; exact e)))
  have mp : ∀ c, c ∈ placed [brn t (lcp t.text u.text)] (brn u (lcp t.text u.text)) ↔ c = brn t (lcp t.text u.text) ∨ c = brn u (lcp t.text u.text) := fun c => by
    rw [mem_placed, List.mem_singleton]
    constructor
    · rintro (⟨h, _⟩ | h)
      · exact .inl h
      · exact .inr h
    · rintro (h | h)
      · exact .inl ⟨h, by rw [h]; exact dn⟩
      · exact .inr h
  refine ⟨⟨two_of ((mp _).mpr (.inl rfl)) ((mp _).mpr (.inr rfl)) fun e => dn (by rw [e]), wfB_iff.mpr ⟨fun b hb => ?_, placed_pw (List.pairwise_singleton _ _)⟩⟩, fun ⟨x, m⟩ => ?_⟩
  · rcases (mp b).mp hb with e | e
    · rw [e]; exact o1
    · rw [e]; exact o2
  · rw [mem_brn l1, mem_brn (t := u) l2]
    unfold splitT
    rw [mem_fork]
    constructor
    · rintro ⟨y, e, hy⟩
      obtain ⟨b, hb, w, e2, hw⟩ := mem_rwss.mp hy
      rcases (mp b).mp hb with eb | eb
      · rw [eb] at e2 hw; exact .inl ⟨w, by rw [e, e2], hw⟩
      · rw [eb] at e2 hw; exact .inr ⟨w, by rw [e, e2, lcp_take], hw⟩
    · rintro (⟨w, e, hw⟩ | ⟨w, e, hw⟩)
      · exact ⟨_, e, mem_rwss.mpr ⟨_, (mp _).mpr (.inl rfl), w, rfl, hw⟩⟩
      · exact ⟨_, by rw [e, lcp_take], mem_rwss.mpr ⟨_, (mp _).mpr (.inr rfl), w, rfl, hw⟩⟩
mutual
def ptt : Tr → List Nat → Int → Tr
  | .leaf t m, x, n => if t = x then .leaf x n else splitT (.leaf t m) (.leaf x n)
  | .fork t bs, x, n => if t <+: x then .fork t (placed bs ((x.drop t.length).take 1, pttIn bs ((x.drop t.length).take 1) ((x.drop t.length).drop 1) n)) else splitT (.fork t bs) (.leaf x n)
def pttIn : List (List Nat × Tr) → List Nat → List Nat → Int → Tr
  | [], _, y, n => .leaf y n
  | (a, t) :: r, s, y, n => if a = s then ptt t y n else pttIn r s y n
end
def pttO (o : Option Tr) (x : List Nat) (n : Int) : Tr :=
  match o with
  | none => .leaf x n
  | some t => ptt t x n
theorem pttIn_eq : ∀ (bs : List (List Nat × Tr)) (s y : List Nat) (n : Int), pttIn bs s y n = pttO (innr bs s) y n
  | [], _, _, _ => by simp [pttIn, innr, pttO]
  | (a, t) :: r, s, y, n => by
    unfold pttIn innr
    by_cases h : a = s
    · rw [if_pos h, if_pos h]; rfl
    · rw [if_neg h, if_neg h]; exact pttIn_eq r s y n
theorem ptt_ok : ∀ t : Tr, Wf t → ∀ x n, Wf (ptt t x n) ∧ ∀ y m, (y, m) ∈ (ptt t x n).rws ↔ ((y, m) ∈ t.rws ∧ y ≠ x) ∨ (y = x ∧ m = n) := by
  refine Tr.ind (fun t k _ x n => ?_) (fun t bs ih h x n => ?_)
  · unfold ptt
    by_cases e : t = x
    · rw [if_pos e]
      refine ⟨trivial, fun y m => ?_⟩
      rw [mem_leaf, mem_leaf]
      constructor
      · exact .inr
      · rintro (⟨⟨h1, _⟩, h2⟩ | h)
        · exact absurd (h1.trans e) h2
        · exact h
    · rw [if_neg e]
      obtain ⟨h1, h2⟩ := split_wf (t := .leaf t k) (u := .leaf x n) trivial trivial (.inl ⟨k, rfl⟩) (.inl ⟨n, rfl⟩) e
      refine ⟨h1, fun y m => ?_⟩
      rw [h2, mem_leaf, mem_leaf]
      constructor
      · rintro (⟨a, b⟩ | ⟨a, b⟩)
        · exact .inl ⟨⟨a, b⟩, fun z => e (a.symm.trans z)⟩
        · exact .inr ⟨a, b⟩
      · rintro (⟨a, _⟩ | a)
        · exact .inl a
        · exact .inr a
  · have w := wfB_iff.mp h.2
    unfold ptt
    by_cases hp : t <+: x
    · rw [if_pos hp]
      obtain ⟨z, rfl⟩ := hp
      rw [List.drop_left, pttIn_eq]
      have inner : Wf (pttO (innr bs (z.take 1)) (z.drop 1) n) ∧ ∀ y m, (y, m) ∈ (pttO (innr bs (z.take 1)) (z.drop 1) n).rws ↔ ((∃ u, innr bs (z.take 1) = some u ∧ (y, m) ∈ u.rws) ∧ y ≠ z.drop 1) ∨ (y = z.drop 1 ∧ m = n) := by
        cases hi : innr bs (z.take 1) with
        | none =>
          refine ⟨trivial, fun y m => ?_⟩
          show _ ∈ (Tr.leaf _ _).rws ↔ _
          rw [mem_leaf]; simp
        | some u =>
          have mu := innr_mem hi
          obtain ⟨i1, i2⟩ := ih _ mu (w.1 _ mu).2.2 (z.drop 1) n
          refine ⟨i1, fun y m => ?_⟩
          show _ ∈ (ptt u _ _).rws ↔ _
          rw [i2]; simp
      have ok : OkB (z.take 1, pttO (innr bs (z.take 1)) (z.drop 1) n) := by
        refine ⟨by simp [List.length_take]; omega, fun e => ?_, inner.1⟩
        have e : z.take 1 = [] := e
        have ez : z = [] := by cases z with
          | nil => rfl
          | cons c r => simp at e
        subst ez
        show ∃ k, pttO (innr bs []) [] n = .leaf [] k
        cases hi : innr bs [] with
        | none => exact ⟨n, rfl⟩
        | some u =>
          obtain ⟨k, ek⟩ := (w.1 _ (innr_mem hi)).2.1 rfl
          have ek : u = .leaf [] k := ek
          refine ⟨n, ?_⟩
          show ptt u [] n = _
          rw [ek]; simp [ptt]
      refine ⟨⟨placed_two w.2 h.1, wfB_iff.mpr ⟨fun b hb => ?_, placed_pw w.2⟩⟩, fun y m => ?_⟩
      · rcases mem_placed.mp hb with ⟨hb, _⟩ | e
        · exact w.1 b hb
        · rw [e]; exact ok
      · rw [mem_fork, mem_fork]
        constructor
        · rintro ⟨v, rfl, hv⟩
          obtain ⟨b, hb, q, rfl, hq⟩ := mem_rwss.mp hv
          rcases mem_placed.mp hb with ⟨hb, ne⟩ | e
          · refine .inl ⟨⟨_, rfl, mem_rwss.mpr ⟨b, hb, q, rfl, hq⟩⟩, fun e => ne ?_⟩
            have e := List.append_cancel_left e
            show b.1 = z.take 1
            rw [← e]; exact (sign_of (w.1 b hb) hq).1
          · subst e
            rcases (inner.2 q m).mp hq with ⟨⟨u, hu, hz⟩, ne⟩ | ⟨e1, e2⟩
            · refine .inl ⟨⟨_, rfl, mem_rwss.mpr ⟨_, innr_mem hu, q, rfl, hz⟩⟩, fun e => ne ?_⟩
              have e := List.append_cancel_left e
              have : z.take 1 ++ q = z.take 1 ++ z.drop 1 := by rw [List.take_append_drop]; exact e
              exact List.append_cancel_left this
            · refine .inr ⟨?_, e2⟩
              show t ++ (z.take 1 ++ q) = _
              rw [e1, List.take_append_drop]
        · rintro (⟨⟨v, rfl, hv⟩, ne⟩ | ⟨rfl, rfl⟩)
          · obtain ⟨b, hb, q, rfl, hq⟩ := mem_rwss.mp hv
            refine ⟨_, rfl, ?_⟩
            by_cases e : b.1 = z.take 1
            · refine mem_rwss.mpr ⟨_, mem_placed.mpr (.inr rfl), q, by rw [e], (inner.2 q m).mpr (.inl ⟨⟨b.2, by rw [← e]; exact mem_innr w.2 hb, hq⟩, fun e2 => ne ?_⟩)⟩
              rw [e, e2, List.take_append_drop]
            · exact mem_rwss.mpr ⟨b, mem_placed.mpr (.inl ⟨hb, e⟩), q, rfl, hq⟩
          · exact ⟨z, rfl, mem_rwss.mpr ⟨_, mem_placed.mpr (.inr rfl), z.drop 1, (List.take_append_drop 1 z).symm, (inner.2 _ _).mpr (.inr ⟨rfl, rfl⟩)⟩⟩
    · rw [if_neg hp]
      obtain ⟨h1, h2⟩ := split_wf (t := .fork t bs) (u := .leaf x n) h trivial (.inr hp) (.inl ⟨n, rfl⟩) (fun e => hp (by rw [show t = x from e]; exact List.prefix_refl _))
      refine ⟨h1, fun y m => ?_⟩
      rw [h2, mem_leaf]
      constructor
      · rintro (a | a)
        · refine .inl ⟨a, fun z => hp ?_⟩
          obtain ⟨v, e, _⟩ := mem_fork.mp a
          exact ⟨v, by rw [← e]; exact z⟩
        · exact .inr a
      · rintro (⟨a, _⟩ | a)
        · exact .inl a
        · exact .inr a
/-- rows with a name's row put in -/
def putR (R : List Row) (x : List Nat) (n : Int) : List Row → Prop := fun S => Up S ∧ ∀ y m, (y, m) ∈ S ↔ ((y, m) ∈ R ∧ y ≠ x) ∨ (y = x ∧ m = n)
theorem pttO_ok {o : Option Tr} {R S : List Row} (h : Treed o R) (hS : putR R x n S) : Treed (some (pttO o x n)) S := by
  have key : Wf (pttO o x n) ∧ ∀ y m, (y, m) ∈ (pttO o x n).rws ↔ ((y, m) ∈ R ∧ y ≠ x) ∨ (y = x ∧ m = n) := by
    cases o with
    | none =>
      have e : R = [] := h
      subst e
      refine ⟨trivial, fun y m => ?_⟩
      show _ ∈ (Tr.leaf _ _).rws ↔ _
      rw [mem_leaf]; simp
    | some t =>
      obtain ⟨h1, h2⟩ := ptt_ok t h.1 x n
      refine ⟨h1, fun y m => ?_⟩
      rw [← h.2]; exact h2 y m
  exact ⟨key.1, up_ext (up_rws _ key.1) hS.1 fun ⟨y, m⟩ => by rw [key.2, hS.2]⟩
/-! ### how deep, how many -/
theorem deep_le : ∀ t : Tr, Wf t → ∀ L, (∀ x m, (x, m) ∈ t.rws → x.length ≤ L) → t.deep ≤ L + 1 := by
  refine Tr.ind (fun t n _ L _ => by simp [Tr.deep]) (fun t bs ih h L hL => ?_)
  have w := wfB_iff.mp h.2
  have hb : ∀ b ∈ bs, b.2.deep ≤ L := fun b hb => by
    obtain ⟨⟨v, k⟩, hv⟩ := rws_ne b.2 (w.1 b hb).2.2
    have m0 : ∀ w' m, (w', m) ∈ b.2.rws → t.length + b.1.length + w'.length ≤ L := fun w' m hw => by
      have := hL _ _ (mem_fork.mpr ⟨_, rfl, mem_rwss.mpr ⟨b, hb, w', rfl, hw⟩⟩)
      simp at this; omega
    by_cases e : b.1 = []
    · obtain ⟨n, en⟩ := (w.1 b hb).2.1 e
      rw [en]
      have two : ∃ c ∈ bs, c.1 ≠ [] := by
        match bs, h.1, w.2 with
        | x :: y :: r, _, pw =>
          have lt := (List.pairwise_cons.mp pw).1 y (List.mem_cons_self ..)
          exact ⟨y, List.mem_cons_of_mem _ (List.mem_cons_self ..), fun z => by rw [z] at lt; exact lt_nil _ lt⟩
      obtain ⟨c, hc, ne⟩ := two
      obtain ⟨⟨v', k'⟩, hv'⟩ := rws_ne c.2 (w.1 c hc).2.2
      have := hL _ _ (mem_fork.mpr ⟨_, rfl, mem_rwss.mpr ⟨c, hc, v', rfl, hv'⟩⟩)
      have lc : 0 < c.1.length := List.length_pos_iff.mpr ne
      simp at this
      simp [Tr.deep]; omega
    · have lb : 0 < b.1.length := List.length_pos_iff.mpr e
      have := m0 _ _ hv
      have := ih b hb (w.1 b hb).2.2 (L - 1) fun w' m hw => by have := m0 w' m hw; omega
      omega
  have : ∀ bs : List (List Nat × Tr), (∀ b ∈ bs, b.2.deep ≤ L) → deeps bs ≤ L := fun bs h => by
    induction bs with
    | nil => simp [deeps]
    | cons x r ih =>
      obtain ⟨s, u⟩ := x
      have h1 := h (s, u) (List.mem_cons_self ..)
      have h2 := ih fun b hb => h b (List.mem_cons_of_mem _ hb)
      exact Nat.max_le.mpr ⟨h1, h2⟩
  have := this bs hb
  simp [Tr.deep]; omega
theorem many_le : ∀ t : Tr, Wf t → t.many + 1 ≤ 2 * t.rws.length := by
  refine Tr.ind (fun t n _ => by simp [Tr.many, Tr.rws]) (fun t bs ih h => ?_)
  have w := wfB_iff.mp h.2
  have : ∀ bs : List (List Nat × Tr), (∀ b ∈ bs, b.2.many + 1 ≤ 2 * b.2.rws.length) → manys bs + bs.length ≤ 2 * (rwss bs).length := fun bs h => by
    induction bs with
    | nil => simp [manys, rwss]
    | cons x r ih =>
      obtain ⟨s, u⟩ := x
      have h1 := h (s, u) (List.mem_cons_self ..)
      have h2 := ih fun b hb => h b (List.mem_cons_of_mem _ hb)
      simp [manys, rwss] at *; omega
  have h2 := this bs fun b hb => ih b hb (w.1 b hb).2.2
  have := h.1
  simp [Tr.many, Tr.rws]; omega
/-- what alike wants to know -/
theorem treed_small {o : Option Tr} {R : List Row} (h : Treed o R) {L : Nat} (hl : R.length ≤ 4000) (hn : ∀ r ∈ R, r.1.length ≤ L) : plain (oD o) = true ∧ dep (oD o) ≤ 3 * L + 3 := by
  cases o with
  | none => exact ⟨rfl, by simp [oD, dep]⟩
  | some t =>
    have h1 := many_le t h.1
    have h2 := deep_le t h.1 L fun x m hx => hn (x, m) (by rw [← h.2]; exact hx)
    have h3 := t.dep_le
    rw [h.2] at h1
    exact ⟨Tr.plain t (by omega), by show dep t.toD ≤ _; omega⟩
end RT

/-! promises about trees; lists made by comprehensions -/
namespace RT
open PySem PySem.Spec PyProof.Rows L2
/-- a tree of the document, of names of at most 1000 signs, at most 5000 of them -/
def Fits (t : Tr) : Prop := Wf t ∧ (∀ x m, (x, m) ∈ t.rws → x.length ≤ 1000) ∧ t.rws.length ≤ 5000
def FitsO (o : Option Tr) : Prop := ∀ t, o = some t → Fits t
def dpt : Option Tr → Nat
  | none => 0
  | some t => t.deep
theorem rwss_len : ∀ {bs : List (List Nat × Tr)} {b : List Nat × Tr}, b ∈ bs → b.2.rws.length ≤ (rwss bs).length
  | [], _, h => by simp at h
  | (s, t) :: r, b, h => by
    simp only [rwss, List.length_append, List.length_map]
    rcases List.mem_cons.mp h with e | m
    · rw [e]; exact Nat.le_add_right _ _
    · have := rwss_len m; omega
theorem bs_len : ∀ {bs : List (List Nat × Tr)}, (∀ b ∈ bs, Wf b.2) → bs.length ≤ (rwss bs).length
  | [], _ => by simp
  | (s, t) :: r, h => by
    obtain ⟨x, hx⟩ := rws_ne t (h (s, t) (List.mem_cons_self ..))
    have h1 := List.length_pos_of_mem hx
    have := bs_len (bs := r) fun b hb => h b (List.mem_cons_of_mem _ hb)
    simp only [rwss, List.length_append, List.length_map, List.length_cons]; omega
section
variable {t : List Nat} {bs : List (List Nat × Tr)}
theorem Fits.len (h : Fits (.fork t bs)) : bs.length ≤ 5000 := by
  have w := wfB_iff.mp h.1.2
  have h1 := bs_len (bs := bs) fun b hb => (w.1 b hb).2.2
  have h2 := h.2.2
  simp only [Tr.rws, List.length_map] at h2
  omega
theorem Fits.sub (h : Fits (.fork t bs)) {b : List Nat × Tr} (hb : b ∈ bs) : Fits b.2 ∧ b.2.deep < (Tr.fork t bs).deep ∧ b.1.length ≤ 1 := by
  have w := wfB_iff.mp h.1.2
  refine ⟨⟨(w.1 b hb).2.2, fun x m hx => ?_, ?_⟩, ?_, (w.1 b hb).1⟩
  · have := h.2.1 _ _ (mem_fork.mpr ⟨_, rfl, mem_rwss.mpr ⟨b, hb, x, rfl, hx⟩⟩)
    simp at this; omega
  · have h1 := rwss_len hb
    have h2 := h.2.2
    simp only [Tr.rws, List.length_map] at h2
    omega
  · have : ∀ {bs : List (List Nat × Tr)}, b ∈ bs → b.2.deep ≤ deeps bs := fun {bs} hb => by
      induction bs with
      | nil => simp at hb
      | cons x r ih =>
        obtain ⟨s, u⟩ := x
        rcases List.mem_cons.mp hb with e | m
        · rw [e]; exact Nat.le_max_left _ _
        · exact Nat.le_trans (ih m) (Nat.le_max_right _ _)
    exact Nat.lt_succ_of_le (this hb)
end
theorem Fits.text {t : Tr} (h : Fits t) : t.text.length ≤ 1000 := by
  obtain ⟨⟨x, m⟩, hx⟩ := rws_ne t h.1
  have h1 := h.2.1 x m hx
  cases t with
  | leaf t n => rw [(mem_leaf.mp hx).1] at h1; exact h1
  | fork t bs =>
    obtain ⟨y, rfl, _⟩ := mem_fork.mp hx
    simp at h1
    show t.length ≤ 1000
    omega
theorem treed_fits {o : Option Tr} {R : List Row} (h : Treed o R) (hl : R.length ≤ 5000) (hn : ∀ r ∈ R, r.1.length ≤ 1000) : FitsO o := fun t e => by
  subst e
  exact ⟨h.1, fun x m hx => hn (x, m) (by rw [← h.2]; exact hx), by rw [h.2]; exact hl⟩
def brD (b : List Nat × Tr) : PyData := .tuple [.str (st b.1), b.2.toD]
theorem toDs_br (bs : List (List Nat × Tr)) : toDs bs = bs.map brD := toDs_map bs
/-! ### promises -/
def optV : Option Int → V
  | none => .non
  | some n => .int n
def spInner (K : PySem.W.Frag) : Sp := fun vs H Q _ => ∃ (v : V) (bs : List (List Nat × Tr)) (s : List Nat), vs = [v, .str (st s)] ∧ Dp K H v (.tuple (toDs bs)) ∧ ∀ u, Dp K H u (oD (innr bs s)) → Q u H
def spPlaced (K : PySem.W.Frag) : Sp := fun vs H Q _ => ∃ (v u : V) (bs : List (List Nat × Tr)) (b : List Nat × Tr), vs = [v, u] ∧ Dp K H v (.tuple (toDs bs)) ∧ Dp K H u (brD b) ∧ bs.length ≤ 5000 ∧ gives K H (.tuple (toDs (placed bs b))) Q
def spBranch (K : PySem.W.Frag) : Sp := fun vs H Q _ => ∃ (v : V) (t : Tr) (b : List Nat), vs = [v, .str (st b)] ∧ Dp K H v t.toD ∧ t.text.length ≤ 1000 ∧ b.length ≤ 1000 ∧ gives K H (brD (brn t b.length)) Q
def spFound (K : PySem.W.Frag) (n : Nat) : Sp := fun vs H Q _ => ∃ (v : V) (o : Option Tr) (x : List Nat), vs = [v, .str (st x)] ∧ Dp K H v (oD o) ∧ FitsO o ∧ dpt o < n ∧ x.length ≤ 1000 ∧ Q (optV (fndO o x)) H
def spPut (K : PySem.W.Frag) (n : Nat) : Sp := fun vs H Q _ => ∃ (v : V) (o : Option Tr) (x : List Nat) (k : Int), vs = [v, .str (st x), .int k] ∧ Dp K H v (oD o) ∧ FitsO o ∧ dpt o < n ∧ x.length ≤ 1000 ∧ gives K H (pttO o x k).toD Q
/-! ### lists that grow -/
def LcP (K : PySem.W.Frag) (H : Hp) (D : Addr) (ds : Nat → List PyData) (i : Nat) (H' : Hp) : Prop := Same H H' ∧ ∃ acc, H' D = some (.lst acc) ∧ DpAll K H' acc (ds i)
section
variable {K : PySem.W.Frag} {H H' H4 : Hp} {D : Addr} {ds : Nat → List PyData} {i : Nat} {y : V} {d : PyData}
theorem lcp0 (hD : H D = none) (h : ds 0 = []) : LcP K H D ds 0 (upd H D (.lst [])) := ⟨same_new hD _, [], upd_same, by rw [h]; exact .nil⟩
theorem same_off (hD : H D = none) (s : Same H H4) (o : HO) : Same H (upd H4 D o) := fun b u e => by
  rw [upd_ne (ne_of_none e hD)]; exact s b u e
theorem lcp_add (h : LcP K H D ds i H') (hD : H D = none) (s : Same H' H4) (hy : Dp K H4 y d) (e : ds (i + 1) = ds i ++ [d]) (n1 : nolists (ds i) = true) (n2 : nolist d = true) (hl : (ds i).length ≤ 20000) :
    ∃ acc, H4 D = some (.lst acc) ∧ acc.length < sizeLine ∧ LcP K H D ds (i + 1) (upd H4 D (.lst (acc ++ [y]))) := by
  obtain ⟨s0, acc, ha, hd⟩ := h
  have h4 := s _ _ ha
  have hk := keep_upd h4 (.lst (acc ++ [y]))
  refine ⟨acc, h4, by rw [DpAll_len hd]; exact Nat.lt_of_le_of_lt hl (by decide), same_off hD (s0.trans s) _, acc ++ [y], upd_same, ?_⟩
  rw [e]
  exact DpAll_app (DpAll_keep hk n1 (DpAll_same s hd)) (.cons (Dp_keep hk n2 hy) .nil)
theorem lcp_skip (h : LcP K H D ds i H') (s : Same H' H4) (e : ds (i + 1) = ds i) : LcP K H D ds (i + 1) H4 := by
  obtain ⟨s0, acc, ha, hd⟩ := h
  exact ⟨s0.trans s, acc, s _ _ ha, by rw [e]; exact DpAll_same s hd⟩
end
/-- the first i, kept by a test, turned by a function -/
def fm {α : Type} (l : List α) (p : α → Bool) (g : α → PyData) (i : Nat) : List PyData := ((l.take i).filter p).map g
theorem fm_yes {α : Type} {l : List α} {p : α → Bool} {g : α → PyData} {i : Nat} {a : α} (h : l[i]? = some a) (hp : p a = true) : fm l p g (i + 1) = fm l p g i ++ [g a] := by
  unfold fm
  rw [List.take_add_one, h]
  simp [hp]
theorem fm_no {α : Type} {l : List α} {p : α → Bool} {g : α → PyData} {i : Nat} {a : α} (h : l[i]? = some a) (hp : p a = false) : fm l p g (i + 1) = fm l p g i := by
  unfold fm
  rw [List.take_add_one, h]
  simp [hp]
theorem fm_len {α : Type} {l : List α} {p : α → Bool} {g : α → PyData} {i : Nat} : (fm l p g i).length ≤ l.length := by
  unfold fm
  rw [List.length_map]
  exact Nat.le_trans (List.length_filter_le _ _) (by rw [List.length_take]; exact Nat.min_le_right _ _)
theorem fm_all {α : Type} {l : List α} {p : α → Bool} {g : α → PyData} : fm l p g l.length = (l.filter p).map g := by
  unfold fm; rw [List.take_length]
theorem fm_nolist {α : Type} {l : List α} {p : α → Bool} {g : α → PyData} (h : ∀ a, nolist (g a) = true) {i : Nat} : nolists (fm l p g i) = true := by
  unfold fm
  induction (l.take i).filter p with
  | nil => rfl
  | cons x r ih => simp [nolists, h, ih]
theorem brD_nolist (b : List Nat × Tr) : nolist (brD b) = true := by simp [brD, nolist, nolists, Tr.nolist]
theorem rowD_nolist (b : Row) : nolist (rowD b) = true := rfl
theorem DpAll_map {α : Type} {K : PySem.W.Frag} {H : Hp} {xs : List V} {l : List α} {g : α → PyData} {i : Nat} {x : V} (h : DpAll K H xs (l.map g)) (hx : xs[i]? = some x) : ∃ a, l[i]? = some a ∧ Dp K H x (g a) := by
  obtain ⟨d, hd, hp⟩ := DpAll_get' h hx
  rw [List.getElem?_map] at hd
  cases ha : l[i]? with
  | none => rw [ha] at hd; cases hd
  | some a => rw [ha] at hd; cases hd; exact ⟨a, rfl, hp⟩
end RT
namespace RT
open PySem PySem.Spec PyProof.Rows L2
def GoodR (r : Row) : Prop := r.1.length ≤ 40 ∧ (∀ c ∈ r.1, c ∈ signTab) ∧ r.2.natAbs < 10 ^ 60
/-- rows as the law makes them -/
def Good (R : List Row) : Prop := Up R ∧ R.length ≤ 150 ∧ ∀ r ∈ R, GoodR r
def spCount : Sp := fun vs H Q _ => ∃ c : Int, vs = [.int c] ∧ ∀ n : Int, 0 ≤ n → n ≤ 150 → Q (.int n) H
def spRows (K : PySem.W.Frag) : Sp := fun vs H Q _ => ∃ (a : Addr) (ns : List Int) (i n : Int), vs = [.ref a, .int i, .int n] ∧ SqL K H a (ns.map V.int) ∧ 0 ≤ i ∧ 0 ≤ n ∧ n ≤ 150 ∧
  ∀ (R : List Row) (v : V) (H' : Hp), Good R → Same H H' → Dp K H' v (.list (R.map rowD)) → Q v H'
/-- the same, the list a new one -/
def spRowsL (K : PySem.W.Frag) : Sp := fun vs H Q _ => ∃ (a : Addr) (ns : List Int) (i n : Int), vs = [.ref a, .int i, .int n] ∧ SqL K H a (ns.map V.int) ∧ 0 ≤ i ∧ 0 ≤ n ∧ n ≤ 150 ∧
  ∀ (R : List Row) (L : Addr) (acc : List V) (H' : Hp), Good R → Same H H' → H' L = some (.lst acc) → DpAll K H' acc (R.map rowD) → Q (.ref L) H'
theorem rowsL {K : PySem.W.Frag} (vs : List V) (H : Hp) (Q : VK) (E : XK) (h : spRows K vs H Q E) : spRowsL K vs H Q E := by
  obtain ⟨a, ns, i, n, e, h1, h2, h3, h4, q⟩ := h
  exact ⟨a, ns, i, n, e, h1, h2, h3, h4, fun R L acc H' g s l d => q R _ H' g s (.lst (SqL.of l) d)⟩
theorem Has.imp {P : Program} {w : World} {K : PySem.W.Frag} {mg : Str → Option Value} {base : Heap} {x : Str} {ps : List Str} {k : Nat} {sp sp' : Sp} (h : Has P w K mg base x ps k sp) (i : ∀ vs H Q E, sp' vs H Q E → sp vs H Q E) : Has P w K mg base x ps k sp' := by
  obtain ⟨f, fd, G, b, kp, m⟩ := h.ex
  exact ⟨f, fd, G.imp i, b, kp, m⟩
theorem numGo_lt (c : Int) : ∀ k, 0 ≤ (numGo c k).2 ∧ (numGo c k).2 < 10 ^ k
  | 0 => by simp [numGo]
  | k + 1 => by
    have ih := numGo_lt c k
    have h : 0 ≤ lcg (numGo c k).1 / 7 % 10 ∧ lcg (numGo c k).1 / 7 % 10 < 10 := by omega
    simp only [numGo, Int.pow_succ]
    omega
theorem numOf_lt (c : Int) : (numOf c).natAbs < 10 ^ 60 := by
  unfold numOf
  split
  · have : (60 : Nat) ≤ 10 ^ 60 := by decide
    omega
  · generalize hk : (if c % 5 = 0 then (60 : Int) else 1 + c / 10 % 60).toNat = k
    have hk' : k ≤ 60 := by
      rw [← hk]; split
      · decide
      · have : c / 10 % 60 < 60 := by omega
        have : 0 ≤ c / 10 % 60 := by omega
        omega
    obtain ⟨h1, h2⟩ := numGo_lt c k
    have h3 : (10 : Nat) ^ k ≤ 10 ^ 60 := Nat.pow_le_pow_right (by decide) hk'
    have h4 : ((numGo c k).2).natAbs < 10 ^ 60 := by
      have e : ((10 ^ k : Nat) : Int) = (10 : Int) ^ k := by rw [Int.natCast_pow]; rfl
      omega
    rw [Int.natAbs_mul]
    split
    · simpa using h4
    · simpa using h4
end RT
namespace RT
open PySem PySem.Spec PyProof.Rows L2
theorem room_units {k : Nat} {A : Around} (r : Room k A) : A.units + 100 < cLine := by have := r.un; omega
theorem sgn_inj {c d : Int} (h : sgn c = sgn d) : c % 94 = d % 94 := by
  have nd : signTab.Nodup := by decide
  have h1 := sgn_at c
  have h2 := sgn_at d
  rw [← h] at h2
  have e := nd_ix nd h1 h2
  omega
end RT
namespace RT
open PySem PySem.Spec PyProof.Rows L2
theorem tab_ok : ∀ c ∈ signTab, c < 127 := by decide
theorem st_ok {l : List Nat} (h : ∀ c ∈ l, c ∈ signTab) : PyData.strOk (st l) = true := by
  unfold PyData.strOk
  simp only [List.all_toArray, List.all_eq_true, decide_eq_true_eq]
  intro c hc
  have := tab_ok c (h c hc)
  omega
theorem rows_shaped {R : List Row} (h : ∀ r ∈ R, ∀ c ∈ r.1, c ∈ signTab) : SeqAt.shaped (.list (R.map rowD)) = true := by
  have h1 : ∀ R : List Row, (∀ r ∈ R, ∀ c ∈ r.1, c ∈ signTab) → PyData.canLayAll0 (R.map rowD) = true ∧ PyData.depthAll (R.map rowD) ≤ 1 := fun R h => by
    induction R with
    | nil => exact ⟨rfl, by simp [PyData.depthAll]⟩
    | cons x r ih =>
      obtain ⟨i1, i2⟩ := ih fun a ha => h a (List.mem_cons_of_mem _ ha)
      have hx := st_ok (h x (List.mem_cons_self ..))
      constructor
      · simp [PyData.canLayAll0, rowD, PyData.canLay0, hx, i1]
      · simp only [List.map_cons, PyData.depthAll, rowD, PyData.depth]; omega
  obtain ⟨a, b⟩ := h1 R h
  unfold SeqAt.shaped
  rw [show PyData.canLay0 (.list (R.map rowD)) = true by simpa [PyData.canLay0] using a]
  rw [decide_eq_true (show PyData.depth (.list (R.map rowD)) ≤ 64 by simp only [PyData.depth]; omega)]
  rfl
/-! ### rows by their number -/
def rd (r : Nat → Row) (i : Nat) : List PyData := ((List.range i).map r).map rowD
theorem rd_succ (r : Nat → Row) (i : Nat) : rd r (i + 1) = rd r i ++ [rowD (r i)] := by
  unfold rd; rw [List.range_succ, List.map_append, List.map_append]; rfl
theorem rd_nolist (r : Nat → Row) (i : Nat) : nolists (rd r i) = true := by
  unfold rd
  induction (List.range i).map r with
  | nil => rfl
  | cons x l ih => simp [nolists, rowD, nolist, ih]
theorem rd_len (r : Nat → Row) (i : Nat) : (rd r i).length = i := by simp [rd]
theorem names_range {r : Nat → Row} {n : Nat} (h : ∀ i j, i < j → j < n → (r i).1 ≠ (r j).1) : Names ((List.range n).map r) := by
  unfold Names
  rw [List.map_map]
  refine List.pairwise_map.mpr (List.Pairwise.imp_of_mem (fun ha hb hlt => ?_) List.pairwise_lt_range)
  exact h _ _ hlt (List.mem_range.mp hb)
theorem up_range {r : Nat → Row} {n : Nat} (h : ∀ i j, i < j → j < n → (r i).1 < (r j).1) : Up ((List.range n).map r) := by
  refine List.pairwise_map.mpr (List.Pairwise.imp_of_mem (fun ha hb hlt => ?_) List.pairwise_lt_range)
  exact h _ _ hlt (List.mem_range.mp hb)
theorem take_lt {l : List Nat} {i j : Nat} (h : i < j) (hj : j ≤ l.length) : l.take i < l.take j := by
  have e : l.take j = l.take i ++ (l.take j).drop i := by
    have h1 : (l.take j).take i = l.take i := by rw [List.take_take, Nat.min_eq_left (by omega)]
    rw [← h1, List.take_append_drop]
  have h2 := (app_lt (l.take i) (a := []) (b := (l.take j).drop i)).mpr (nil_lt fun z => by
    have := congrArg List.length z
    simp at this; omega)
  rw [List.append_nil, ← e] at h2
  exact h2
theorem word_tab (c n : Int) : ∀ x ∈ word c n, x ∈ signTab := word_mem c n
/-- sorted rows are as good -/
theorem good_perm {R S : List Row} (p : S.Perm R) (u : Up S) (hl : R.length ≤ 150) (h : ∀ r ∈ R, GoodR r) : Good S := ⟨u, by rw [p.length_eq]; exact hl, fun r hr => h r (p.mem_iff.mp hr)⟩
theorem mem_range_map {r : Nat → Row} {n : Nat} {P : Row → Prop} (h : ∀ i, i < n → P (r i)) : ∀ x ∈ (List.range n).map r, P x := fun x hx => by
  obtain ⟨i, hi, rfl⟩ := List.mem_map.mp hx
  exact h i (List.mem_range.mp hi)
end RT
namespace RT
open PySem PySem.Spec PyProof.Rows L2
theorem yes_if {σ : L2.St} {H : Hp} {F G : Hp → Prop} (h : F H) : tYes σ H fun b H3 => if b = true then F H3 else G H3 := by
  show (if true = true then F H else G H)
  rw [if_pos rfl]
  exact h
end RT

/-! the law's own tree of rows -/
namespace RT
open PySem PySem.Spec PyProof.Rows L2
theorem between {p : List Nat} : ∀ {a b x : List Nat}, p <+: a → p <+: b → ¬ x < a → ¬ b < x → p <+: x := by
  induction p with
  | nil => intro a b x _ _ _ _; exact List.nil_prefix
  | cons c p ih =>
    intro a b x ha hb h1 h2
    obtain ⟨a', rfl⟩ := ha
    obtain ⟨b', rfl⟩ := hb
    cases x with
    | nil => exact absurd (List.nil_lt_cons _ _) h1
    | cons d x =>
      have e1 : ¬ d < c := fun z => h1 (cons_lt.mpr (.inl z))
      have e2 : ¬ c < d := fun z => h2 (cons_lt.mpr (.inl z))
      have e : c = d := by omega
      subst e
      have := ih (a := p ++ a') (b := p ++ b') (x := x) (List.prefix_append _ _) (List.prefix_append _ _) (fun z => h1 (cons_lt.mpr (.inr ⟨rfl, z⟩))) (fun z => h2 (cons_lt.mpr (.inr ⟨rfl, z⟩)))
      exact (List.prefix_cons_inj c).mpr this
/-- a row's sign behind k signs, and what is behind it -/
def sg (k : Nat) (r : Row) : List Nat := (r.1.drop k).take 1
def strip (k : Nat) (r : Row) : Row := (r.1.drop (k + 1), r.2)
theorem sg_len (k : Nat) (r : Row) : (sg k r).length ≤ 1 := by unfold sg; rw [List.length_take]; omega
theorem row_split {p : List Nat} {r : Row} (h : p <+: r.1) : r.1 = p ++ (sg p.length r ++ (strip p.length r).1) := by
  obtain ⟨y, hy⟩ := h
  unfold sg strip
  have e : r.1.drop (p.length + 1) = (r.1.drop p.length).drop 1 := by rw [List.drop_drop]
  show r.1 = p ++ ((r.1.drop p.length).take 1 ++ r.1.drop (p.length + 1))
  rw [e, List.take_append_drop, ← hy, List.drop_left]
theorem sign_mono {y z : List Nat} (h : y < z) : ¬ z.take 1 < y.take 1 := by
  intro h2
  match y, z, h, h2 with
  | [], z, _, h2 => exact lt_nil _ h2
  | a :: r, [], h, _ => exact lt_nil _ h
  | a :: r, b :: s, h, h2 =>
    have h2 : [b] < [a] := h2
    rcases cons_lt.mp h2 with h2 | ⟨_, h2⟩
    · rcases cons_lt.mp h with h | ⟨h, _⟩ <;> omega
    · exact lt_irr _ h2
theorem sg_mono {p : List Nat} {r r' : Row} (h1 : p <+: r.1) (h2 : p <+: r'.1) (h : r.1 < r'.1) : ¬ sg p.length r' < sg p.length r := by
  obtain ⟨y, hy⟩ := h1
  obtain ⟨z, hz⟩ := h2
  unfold sg
  rw [← hy, ← hz] at h ⊢
  rw [List.drop_left, List.drop_left]
  exact sign_mono ((app_lt p).mp h)
/-- rows whose signs don't fall: those of the least one stand first -/
theorem first_group {k : Nat} {s : List Nat} : ∀ {B : List Row}, B.Pairwise (fun a b => ¬ sg k b < sg k a) → (∀ b ∈ B, ¬ sg k b < s) → B = B.filter (fun r => decide (sg k r = s)) ++ B.filter (fun r => !decide (sg k r = s))
  | [], _, _ => rfl
  | x :: r, hp, hs => by
    obtain ⟨h1, h2⟩ := List.pairwise_cons.mp hp
    by_cases e : sg k x = s
    · have ih := first_group h2 fun b hb => hs b (List.mem_cons_of_mem _ hb)
      rw [List.filter_cons_of_pos (by simpa using e), List.filter_cons_of_neg (by simpa using e), List.cons_append, ← ih]
    · have hx : s < sg k x := by
        refine Decidable.byContradiction fun z => e (lt_tri (hs x (List.mem_cons_self ..)) z).symm.symm
      have none : (x :: r).filter (fun r => decide (sg k r = s)) = [] := by
        refine List.filter_eq_nil_iff.mpr fun b hb => ?_
        have hb' : ¬ sg k b = s := fun z => by
          rcases List.mem_cons.mp hb with eb | mb
          · rw [eb] at z; exact e z
          · have := h1 b mb
            rw [z] at this; exact this hx
        simpa using hb'
      have all : (x :: r).filter (fun r => !decide (sg k r = s)) = x :: r := by
        refine List.filter_eq_self.mpr fun b hb => ?_
        have := List.filter_eq_nil_iff.mp none b hb
        simpa using this
      rw [none, all]; rfl
/-- the first text with which all begin -/
theorem all_begin {R : List Row} (h : Up R) {a b : Row} (ha : R.head? = some a) (hb : R.getLast? = some b) : ∀ r ∈ R, a.1.take (lcp a.1 b.1) <+: r.1 := by
  intro r hr
  refine between (a := a.1) (b := b.1) (List.take_prefix _ _) (by rw [lcp_take]; exact List.take_prefix _ _) (fun z => ?_) (fun z => ?_)
  · cases R with
    | nil => simp at hr
    | cons x s =>
      have ha : x = a := by simpa using ha
      subst ha
      rcases List.mem_cons.mp hr with e | m
      · rw [e] at z; exact lt_irr _ z
      · exact lt_irr _ (lt_trans z ((List.pairwise_cons.mp h).1 r m))
  · obtain ⟨ys, e⟩ := List.getLast?_eq_some_iff.mp hb
    rw [e] at h hr
    obtain ⟨_, _, h3⟩ := List.pairwise_append.mp h
    rcases List.mem_append.mp hr with m | m
    · exact lt_irr _ (lt_trans z (h3 r m b (by simp)))
    · have : r = b := by simpa using m
      rw [this] at z; exact lt_irr _ z
/-- branches made of the rows A so far, B left -/
structure Grown (p : List Nat) (bs : List (List Nat × Tr)) (A B : List Row) : Prop where
  wf : WfB bs
  mem : ∀ y m, (y, m) ∈ rwss bs ↔ (p ++ y, m) ∈ A
  sig : ∀ b ∈ bs, ∃ a ∈ A, sg p.length a = b.1
  low : ∀ a ∈ A, ∀ b ∈ B, sg p.length a < sg p.length b
theorem grown0 (p : List Nat) (B : List Row) : Grown p [] [] B := ⟨trivial, fun y m => by simp [rwss], fun b h => by simp at h, fun a h => by simp at h⟩
/-- one group more -/
theorem grow {p : List Nat} {bs : List (List Nat × Tr)} {A B : List Row} (g : Grown p bs A B) (up : Up (A ++ B)) (pre' : ∀ r ∈ A ++ B, p <+: r.1) {b0 : Row} (h0 : b0 ∈ B) (hmin : ∀ b ∈ B, ¬ sg p.length b < sg p.length b0)
    {t : Tr} (ht : Treed (some t) ((B.filter fun r => decide (sg p.length r = sg p.length b0)).map (strip p.length))) :
    Grown p (bs ++ [(sg p.length b0, t)]) (A ++ B.filter fun r => decide (sg p.length r = sg p.length b0)) (B.filter fun r => !decide (sg p.length r = sg p.length b0)) := by
  have preB : ∀ r ∈ B, p <+: r.1 := fun r hr => pre' r (List.mem_append_right _ hr)
  have okb : OkB (sg p.length b0, t) := by
    refine ⟨sg_len _ _, fun e => ?_, ht.1⟩
    have e : sg p.length b0 = [] := e
    -- one row alone
    have single : ∀ r ∈ t.rws, r.1 = [] := fun r hr => by
      rw [ht.2] at hr
      obtain ⟨q, hq, rfl⟩ := List.mem_map.mp hr
      obtain ⟨hqB, hqs⟩ := List.mem_filter.mp hq
      have hqs : sg p.length q = sg p.length b0 := by simpa using hqs
      rw [e] at hqs
      show q.1.drop (p.length + 1) = []
      have hd : q.1.drop p.length = [] := by
        unfold sg at hqs
        cases hd : q.1.drop p.length with
        | nil => rfl
        | cons x l => rw [hd] at hqs; simp at hqs
      rw [← List.drop_drop, hd]; rfl
    obtain ⟨⟨x, n⟩, hx⟩ := rws_ne t ht.1
    have hx0 : x = [] := single _ hx
    subst hx0
    refine ⟨n, one_tree t ht.1 (.leaf [] n) trivial fun ⟨y, m⟩ => ?_⟩
    rw [mem_leaf]
    constructor
    · intro hy
      have := single _ hy
      have hy0 : y = [] := this
      subst hy0
      exact ⟨rfl, up_inj (up_rws t ht.1) hy hx⟩
    · rintro ⟨rfl, rfl⟩; exact hx
  have w := wfB_iff.mp g.wf
  refine ⟨wfB_iff.mpr ⟨fun b hb => ?_, List.pairwise_append.mpr ⟨w.2, List.pairwise_singleton _ _, fun b hb c hc => ?_⟩⟩, fun y m => ?_, fun b hb => ?_, fun a ha b hb => ?_⟩
  · rcases List.mem_append.mp hb with hb | hb
    · exact w.1 b hb
    · have : b = (sg p.length b0, t) := by simpa using hb
      rw [this]; exact okb
  · have : c = (sg p.length b0, t) := by simpa using hc
    rw [this]
    obtain ⟨a, ha, e⟩ := g.sig b hb
    rw [← e]
    exact g.low a ha b0 h0
  · have e1 : (y, m) ∈ rwss (bs ++ [(sg p.length b0, t)]) ↔ (y, m) ∈ rwss bs ∨ ∃ w, y = sg p.length b0 ++ w ∧ (w, m) ∈ t.rws := by
      rw [mem_rwss, mem_rwss]
      constructor
      · rintro ⟨b, hb, v, h1, h2⟩
        rcases List.mem_append.mp hb with hb | hb
        · exact .inl ⟨b, hb, v, h1, h2⟩
        · have : b = (sg p.length b0, t) := by simpa using hb
          subst this; exact .inr ⟨v, h1, h2⟩
      · rintro (⟨b, hb, v, h1, h2⟩ | ⟨v, h1, h2⟩)
        · exact ⟨b, List.mem_append_left _ hb, v, h1, h2⟩
        · exact ⟨_, List.mem_append_right _ (List.mem_singleton.mpr rfl), v, h1, h2⟩
    rw [e1, g.mem, List.mem_append, ht.2]
    refine or_congr Iff.rfl ?_
    constructor
    · rintro ⟨v, rfl, hv⟩
      obtain ⟨q, hq, eq⟩ := List.mem_map.mp hv
      injection eq with eq1 eq2
      obtain ⟨hqB, hqs⟩ := List.mem_filter.mp hq
      have hqs : sg p.length q = sg p.length b0 := by simpa using hqs
      have rs := row_split (preB q hqB)
      rw [hqs] at rs
      have : q = (p ++ (sg p.length b0 ++ v), m) := Prod.ext (by rw [rs]; show p ++ (_ ++ (strip p.length q).1) = _; rw [show (strip p.length q).1 = v from eq1]) eq2
      rw [← this]; exact hq
    · intro hq
      have hqs := (List.mem_filter.mp hq).2
      have hqB := (List.mem_filter.mp hq).1
      have hqs : sg p.length (p ++ y, m) = sg p.length b0 := by simpa using hqs
      have rs := row_split (preB _ hqB)
      rw [hqs] at rs
      have rs : y = sg p.length b0 ++ (strip p.length (p ++ y, m)).1 := List.append_cancel_left rs
      exact ⟨_, rs, List.mem_map.mpr ⟨_, hq, rfl⟩⟩
  · rcases List.mem_append.mp hb with hb | hb
    · obtain ⟨a, ha, e⟩ := g.sig b hb
      exact ⟨a, List.mem_append_left _ ha, e⟩
    · have : b = (sg p.length b0, t) := by simpa using hb
      rw [this]
      exact ⟨b0, List.mem_append_right _ (List.mem_filter.mpr ⟨h0, by simp⟩), rfl⟩
  · obtain ⟨hbB, hbs⟩ := List.mem_filter.mp hb
    have hbs : ¬ sg p.length b = sg p.length b0 := by simpa using hbs
    rcases List.mem_append.mp ha with ha | ha
    · exact g.low a ha b hbB
    · have hs := (List.mem_filter.mp ha).2
      have hs : sg p.length a = sg p.length b0 := by simpa using hs
      rw [hs]
      exact Decidable.byContradiction fun z => hbs (lt_tri (hmin b hbB) z)
/-- the group's rows, stripped, are risen rows -/
theorem up_strip {p : List Nat} {B : List Row} {s : List Nat} (up : Up B) (preB : ∀ r ∈ B, p <+: r.1) : Up ((B.filter fun r => decide (sg p.length r = s)).map (strip p.length)) := by
  refine List.pairwise_map.mpr (List.Pairwise.imp_of_mem (fun {a b} ha hb h => ?_) (up.filter _))
  obtain ⟨ha1, ha2⟩ := List.mem_filter.mp ha
  obtain ⟨hb1, hb2⟩ := List.mem_filter.mp hb
  have ha2 : sg p.length a = s := by simpa using ha2
  have hb2 : sg p.length b = s := by simpa using hb2
  have ra := row_split (preB a ha1)
  have rb := row_split (preB b hb1)
  rw [ra, rb, ha2, hb2] at h
  exact (app_lt s).mp ((app_lt p).mp h)
/-- all rows are in the branches: the fork -/
theorem grown_all {R : List Row} (h : Up R) (h2 : 2 ≤ R.length) {a b : Row} (ha : R.head? = some a) (hb : R.getLast? = some b) {bs : List (List Nat × Tr)} (g : Grown (a.1.take (lcp a.1 b.1)) bs R []) :
    Treed (some (.fork (a.1.take (lcp a.1 b.1)) bs)) R := by
  have ab := all_begin h ha hb
  have pl : (a.1.take (lcp a.1 b.1)).length = lcp a.1 b.1 := by
    rw [List.length_take]; have := lcp_le1 a.1 b.1; omega
  generalize hp : a.1.take (lcp a.1 b.1) = p at *
  have w := wfB_iff.mp g.wf
  have ne : a.1 ≠ b.1 := by
    match R, h2, ha, hb, h with
    | x :: y :: r, _, ha, hb, h =>
      have ha : x = a := by simpa using ha
      subst ha
      intro e
      have hm : b ∈ y :: r := by
        rw [List.getLast?_cons_cons] at hb
        exact List.mem_of_getLast? hb
      have := (List.pairwise_cons.mp h).1 b hm
      rw [e] at this; exact lt_irr _ this
  have ma : a ∈ R := List.mem_of_mem_head? (by rw [ha]; rfl)
  have mb : b ∈ R := List.mem_of_getLast? hb
  have dn : sg p.length a ≠ sg p.length b := by
    unfold sg
    rw [pl]
    exact drop_ne fun ⟨h1, h2⟩ => ne (List.IsPrefix.eq_of_length (lcp_len_iff.mp h1) (by omega))
  have inb : ∀ r ∈ R, ∃ c ∈ bs, c.1 = sg p.length r := fun r hr => by
    have rs := row_split (ab r hr)
    have hr' : (p ++ (sg p.length r ++ (strip p.length r).1), r.2) ∈ R := by rw [← rs]; exact hr
    obtain ⟨c, hc, v, e, hv⟩ := mem_rwss.mp ((g.mem _ _).mpr hr')
    refine ⟨c, hc, ?_⟩
    have s1 := (sign_of (w.1 c hc) hv).1
    rw [s1, ← e]
    have hs : (sg p.length r).length ≤ 1 := sg_len _ _
    unfold sg strip
    rw [← List.drop_drop, List.take_append_drop]
  obtain ⟨c1, hc1, e1⟩ := inb a ma
  obtain ⟨c2, hc2, e2⟩ := inb b mb
  have wf : Wf (.fork p bs) := ⟨two_of hc1 hc2 fun e => dn (by rw [← e1, ← e2, e]), g.wf⟩
  refine ⟨wf, up_ext (up_rws _ wf) h fun ⟨x, m⟩ => ?_⟩
  rw [mem_fork]
  constructor
  · rintro ⟨y, rfl, hy⟩; exact (g.mem y m).mp hy
  · intro hr
    obtain ⟨y, hy⟩ := ab _ hr
    have hy : p ++ y = x := hy
    subst hy
    exact ⟨y, rfl, (g.mem y m).mpr hr⟩
/-- `_law_tree`'s promise at n calls -/
def spTree (K : PySem.W.Frag) (n : Nat) : Sp := fun vs H Q _ => ∃ (v : V) (R : List Row), vs = [v] ∧ Dp K H v (.list (R.map rowD)) ∧ Up R ∧ R.length ≤ 4000 ∧ (∀ r ∈ R, (∀ c ∈ r.1, c ∈ signTab) ∧ r.1.length ≤ 1000) ∧
  1 ≤ n ∧ (R.length ≤ 1 ∨ ∀ r ∈ R, r.1.length + 2 ≤ n) ∧ ∀ (o : Option Tr) (u : V) (H' : Hp), Treed o R → Same H H' → Dp K H' u (oD o) → Q u H'
theorem atI_end {α : Type} {xs : List α} {v : α} (h : xs.getLast? = some v) : atI xs (-1) = some v := by
  obtain ⟨ys, rfl⟩ := List.getLast?_eq_some_iff.mp h
  exact atI_last ys v
theorem DpAll_last {K : PySem.W.Frag} {H : Hp} {xs : List V} {R : List Row} {b : Row} (h : DpAll K H xs (R.map rowD)) (hb : R.getLast? = some b) : ∃ v, xs.getLast? = some v ∧ Dp K H v (rowD b) := by
  have hl : xs.length = R.length := by rw [DpAll_len h, List.length_map]
  rw [List.getLast?_eq_getElem?] at hb
  have hd : (R.map rowD)[R.length - 1]? = some (rowD b) := by rw [List.getElem?_map, hb]; rfl
  obtain ⟨v, hv, hdv⟩ := DpAll_get h hd
  exact ⟨v, by rw [List.getLast?_eq_getElem?, hl]; exact hv, hdv⟩
end RT
namespace RT
open PySem PySem.Spec PyProof.Rows L2
def spName (K : PySem.W.Frag) : Sp := fun vs H Q _ => ∃ (c : Int) (v : V) (R : List Row), vs = [.int c, v] ∧ Dp K H v (.list (R.map rowD)) ∧ Good R ∧
  ∀ (w : List Nat) (H' : Hp), w.length ≤ 40 → (∀ x ∈ w, x ∈ signTab) → Same H H' → Q (.str (st w)) H'
def optD : Option Int → PyData
  | none => .none
  | some n => .int n
theorem Dp_opt {K : PySem.W.Frag} {H : Hp} (o : Option Int) : Dp K H (optV o) (optD o) := by
  cases o with
  | none => exact .non
  | some n => exact .int n
/-- good rows, their tree -/
theorem good_fits {o : Option Tr} {R : List Row} (h : Treed o R) (g : Good R) : FitsO o ∧ dpt o < 50 := by
  refine ⟨treed_fits h (by have := g.2.1; omega) (fun r hr => by have := (g.2.2 r hr).1; omega), ?_⟩
  cases o with
  | none => show 0 < 50; decide
  | some t =>
    have := deep_le t h.1 40 fun x m hx => (g.2.2 (x, m) (by rw [← h.2]; exact hx)).1
    show t.deep < 50
    omega
/-- what a plain list tells for a name -/
theorem held_of {o : Option Tr} {R : List Row} (h : Treed o R) (up : Up R) (x : List Nat) :
    (fndO o x = none ∧ R.filter (fun r => decide (r.1 = x)) = []) ∨ ∃ n, fndO o x = some n ∧ R.filter (fun r => decide (r.1 = x)) = [(x, n)] := by
  have key : ∀ n, fndO o x = some n ↔ (x, n) ∈ R := fun n => by
    cases o with
    | none =>
      have e : R = [] := h
      rw [e]; simp [fndO]
    | some t => rw [← h.2]; exact fnd_iff t h.1 x n
  cases e : fndO o x with
  | none =>
    refine .inl ⟨rfl, List.filter_eq_nil_iff.mpr fun r hr => ?_⟩
    have : ¬ r.1 = x := fun z => by
      have := (key r.2).mpr (by rw [← z]; exact hr)
      rw [e] at this; cases this
    simpa using this
  | some n =>
    refine .inr ⟨n, rfl, up_ext (up.filter _) (List.pairwise_singleton _ _) fun r => ?_⟩
    rw [List.mem_filter, List.mem_singleton]
    constructor
    · rintro ⟨h1, h2⟩
      have h2 : r.1 = x := by simpa using h2
      have h3 : (x, r.2) ∈ R := by rw [← h2]; exact h1
      have := up_inj up h3 ((key n).mp e)
      exact Prod.ext h2 this
    · rintro rfl
      exact ⟨(key n).mp e, by simp⟩
/-- a plain list with a name's row put in -/
theorem put_rows {R S : List Row} {x : List Nat} {n : Int} (up : Up S) (hp : S.Perm (R.filter (fun r => !decide (r.1 = x)) ++ [(x, n)])) : putR R x n S := by
  refine ⟨up, fun y m => ?_⟩
  rw [hp.mem_iff, List.mem_append, List.mem_filter, List.mem_singleton]
  simp
theorem put_names {R : List Row} {x : List Nat} {n : Int} (h : Names R) : Names (R.filter (fun r => !decide (r.1 = x)) ++ [(x, n)]) := by
  unfold Names
  rw [List.map_append]
  refine List.pairwise_append.mpr ⟨List.Pairwise.sublist (List.Sublist.map _ List.filter_sublist) h, List.pairwise_singleton _ _, ?_⟩
  intro a ha b hb
  obtain ⟨r, hr, rfl⟩ := List.mem_map.mp ha
  have hb : b = x := by simpa using hb
  have := (List.mem_filter.mp hr).2
  rw [hb]; simpa using this
end RT

/-! a name taken out -/
namespace RT
open PySem PySem.Spec PyProof.Rows L2
/-- the tree of a fork's branches, of which one alone may be left -/
def knt (t : List Nat) : List (List Nat × Tr) → Option Tr
  | [] => none
  | [b] => some (b.2.ahd (t ++ b.1))
  | bs => some (.fork t bs)
mutual
def wot : Tr → List Nat → Option Tr
  | .leaf _ _, _ => none
  | .fork t bs, x =>
    match wotIn bs ((x.drop t.length).take 1) ((x.drop t.length).drop 1) with
    | some u => some (.fork t (placed bs ((x.drop t.length).take 1, u)))
    | none => knt t (bs.filter fun b => !decide (b.1 = (x.drop t.length).take 1))
def wotIn : List (List Nat × Tr) → List Nat → List Nat → Option Tr
  | [], _, _ => none
  | (a, t) :: r, s, y => if a = s then wot t y else wotIn r s y
end
theorem wotIn_eq : ∀ (bs : List (List Nat × Tr)) (s y : List Nat), wotIn bs s y = (innr bs s).bind fun t => wot t y
  | [], _, _ => rfl
  | (a, t) :: r, s, y => by
    unfold wotIn innr
    by_cases h : a = s
    · rw [if_pos h, if_pos h]; rfl
    · rw [if_neg h, if_neg h]; exact wotIn_eq r s y
/-- what is left behind: nothing, or a tree of the document -/
def Left (t : Tr) (x : List Nat) : Option Tr → Prop
  | none => ∀ y m, (y, m) ∈ t.rws → y = x
  | some u => Wf u ∧ ∀ y m, (y, m) ∈ u.rws ↔ (y, m) ∈ t.rws ∧ y ≠ x
theorem knt_ok {t : List Nat} {bs : List (List Nat × Tr)} (h : (∀ b ∈ bs, OkB b) ∧ bs.Pairwise fun a b => a.1 < b.1) (ne : bs ≠ []) :
    ∃ u, knt t bs = some u ∧ Wf u ∧ ∀ y m, (y, m) ∈ u.rws ↔ ∃ z, y = t ++ z ∧ (z, m) ∈ rwss bs := by
  match bs, h, ne with
  | [b], h, _ =>
    refine ⟨_, rfl, wf_ahd (h.1 b (List.mem_cons_self ..)).2.2, fun y m => ?_⟩
    rw [rws_ahd, List.mem_map]
    constructor
    · rintro ⟨⟨w, k⟩, hw, e⟩
      injection e with e1 e2
      refine ⟨b.1 ++ w, by rw [← e1, List.append_assoc], mem_rwss.mpr ⟨b, List.mem_cons_self .., w, rfl, by rw [← e2]; exact hw⟩⟩
    · rintro ⟨z, rfl, hz⟩
      obtain ⟨c, hc, w, rfl, hw⟩ := mem_rwss.mp hz
      have : c = b := by simpa using hc
      subst this
      exact ⟨(w, m), hw, by simp [pre, List.append_assoc]⟩
  | a :: b :: r, h, _ =>
    refine ⟨_, rfl, ⟨by simp, wfB_iff.mpr h⟩, fun y m => mem_fork⟩
theorem wot_ok : ∀ t : Tr, Wf t → ∀ x n, (x, n) ∈ t.rws → Left t x (wot t x) := by
  refine Tr.ind (fun t k _ x n hx => ?_) (fun t bs ih h x n hx => ?_)
  · intro y m hy
    rw [(mem_leaf.mp hx).1]; exact (mem_leaf.mp hy).1
  · have w := wfB_iff.mp h.2
    obtain ⟨z, rfl, hz⟩ := mem_fork.mp hx
    obtain ⟨b, hb, v, rfl, hv⟩ := mem_rwss.mp hz
    obtain ⟨s1, s2⟩ := sign_of (w.1 b hb) hv
    have hi : innr bs b.1 = some b.2 := mem_innr w.2 hb
    unfold wot
    rw [List.drop_left, ← s1, ← s2, wotIn_eq, hi]
    show Left _ _ (match wot b.2 v with | some u => some (.fork t (placed bs (b.1, u))) | none => knt t (bs.filter fun c => !decide (c.1 = b.1)))
    have ihb := ih b hb (w.1 b hb).2.2 v n hv
    cases hw : wot b.2 v with
    | none =>
      rw [hw] at ihb
      have hb2 : ∀ y m, (y, m) ∈ b.2.rws → y = v := ihb
      have h' : (∀ c ∈ bs.filter (fun c => !decide (c.1 = b.1)), OkB c) ∧ (bs.filter fun c => !decide (c.1 = b.1)).Pairwise fun a b => a.1 < b.1 := ⟨fun c hc => w.1 c (List.mem_filter.mp hc).1, w.2.filter _⟩
      have ne : bs.filter (fun c => !decide (c.1 = b.1)) ≠ [] := fun e => by
        have all : ∀ c ∈ bs, c.1 = b.1 := fun c hc => by
          have := List.filter_eq_nil_iff.mp e c hc
          simpa using this
        match bs, h.1, w.2, all with
        | x :: y :: r, _, pw, all =>
          have lt := (List.pairwise_cons.mp pw).1 y (List.mem_cons_self ..)
          rw [all x (List.mem_cons_self ..), all y (List.mem_cons_of_mem _ (List.mem_cons_self ..))] at lt
          exact lt_irr _ lt
      obtain ⟨u, e, hu, hm⟩ := knt_ok (t := t) h' ne
      show Left _ _ (knt t (bs.filter fun c => !decide (c.1 = b.1)))
      rw [e]
      refine ⟨hu, fun y m => ?_⟩
      rw [hm, mem_fork]
      constructor
      · rintro ⟨q, rfl, hq⟩
        obtain ⟨c, hc, p, rfl, hp⟩ := mem_rwss.mp hq
        obtain ⟨hc1, hc2⟩ := List.mem_filter.mp hc
        have hc2 : ¬ c.1 = b.1 := by simpa using hc2
        refine ⟨⟨_, rfl, mem_rwss.mpr ⟨c, hc1, p, rfl, hp⟩⟩, fun e => hc2 ?_⟩
        have e := List.append_cancel_left e
        rw [(sign_of (w.1 c hc1) hp).1, e, ← s1]
      · rintro ⟨⟨q, rfl, hq⟩, ne'⟩
        obtain ⟨c, hc, p, rfl, hp⟩ := mem_rwss.mp hq
        refine ⟨_, rfl, mem_rwss.mpr ⟨c, List.mem_filter.mpr ⟨hc, ?_⟩, p, rfl, hp⟩⟩
        have : ¬ c.1 = b.1 := fun e => by
          have e2 := pair_eq w.2 hc hb e
          subst e2
          exact ne' (by rw [hb2 p m hp])
        simpa using this
    | some u =>
      rw [hw] at ihb
      obtain ⟨hu, hm⟩ := ihb
      have okb : OkB (b.1, u) := by
        refine ⟨(w.1 b hb).1, fun e => ?_, hu⟩
        obtain ⟨k, ek⟩ := (w.1 b hb).2.1 e
        rw [ek] at hw
        simp [wot] at hw
      refine ⟨⟨placed_two w.2 h.1, wfB_iff.mpr ⟨fun c hc => ?_, placed_pw w.2⟩⟩, fun y m => ?_⟩
      · rcases mem_placed.mp hc with ⟨hc, _⟩ | e
        · exact w.1 c hc
        · rw [e]; exact okb
      · rw [mem_fork, mem_fork]
        constructor
        · rintro ⟨q, rfl, hq⟩
          obtain ⟨c, hc, p, rfl, hp⟩ := mem_rwss.mp hq
          rcases mem_placed.mp hc with ⟨hc, ne'⟩ | e
          · refine ⟨⟨_, rfl, mem_rwss.mpr ⟨c, hc, p, rfl, hp⟩⟩, fun e => ne' ?_⟩
            have e := List.append_cancel_left e
            show c.1 = b.1
            rw [(sign_of (w.1 c hc) hp).1, e, ← s1]
          · subst e
            obtain ⟨h1, h2⟩ := (hm p m).mp hp
            refine ⟨⟨_, rfl, mem_rwss.mpr ⟨b, hb, p, rfl, h1⟩⟩, fun e => h2 ?_⟩
            have e := List.append_cancel_left e
            exact List.append_cancel_left e
        · rintro ⟨⟨q, rfl, hq⟩, ne'⟩
          obtain ⟨c, hc, p, rfl, hp⟩ := mem_rwss.mp hq
          refine ⟨_, rfl, ?_⟩
          by_cases e : c.1 = b.1
          · have e2 := pair_eq w.2 hc hb e
            subst e2
            exact mem_rwss.mpr ⟨_, mem_placed.mpr (.inr rfl), p, rfl, (hm p m).mpr ⟨hp, fun e => ne' (by rw [e])⟩⟩
          · exact mem_rwss.mpr ⟨c, mem_placed.mpr (.inl ⟨hc, e⟩), p, rfl, hp⟩
def wotO (o : Option Tr) (x : List Nat) : Option Tr := o.bind fun t => wot t x
/-- rows without a name's -/
theorem wotO_ok {o : Option Tr} {R : List Row} {x : List Nat} (h : Treed o R) (up : Up R) {n : Int} (hx : fndO o x = some n) : Treed (wotO o x) (R.filter fun r => !decide (r.1 = x)) := by
  cases o with
  | none => cases hx
  | some t =>
    have hm := (fnd_iff t h.1 x n).mp hx
    have l := wot_ok t h.1 x n hm
    show Treed (wot t x) _
    cases hw : wot t x with
    | none =>
      rw [hw] at l
      refine List.filter_eq_nil_iff.mpr fun r hr => ?_
      rw [← h.2] at hr
      have : r.1 = x := l r.1 r.2 hr
      simpa using this
    | some u =>
      rw [hw] at l
      refine ⟨l.1, up_ext (up_rws _ l.1) (up.filter _) fun ⟨y, m⟩ => ?_⟩
      rw [l.2, h.2, List.mem_filter]
      simp
/-! ### promises -/
def spLess (K : PySem.W.Frag) (n : Nat) : Sp := fun vs H Q _ => ∃ (v : V) (t : Tr) (x : List Nat) (k : Int), vs = [v, .str (st x)] ∧ Dp K H v t.toD ∧ Fits t ∧ t.deep < n ∧ (x, k) ∈ t.rws ∧ gives K H (oD (wot t x)) Q
def spKnt (K : PySem.W.Frag) : Sp := fun vs H Q _ => ∃ (v : V) (t : List Nat) (bs : List (List Nat × Tr)), vs = [.str (st t), v] ∧ Dp K H v (.list (bs.map brD)) ∧ bs ≠ [] ∧ bs.length ≤ 5000 ∧ t.length ≤ 1000 ∧ (∀ b ∈ bs, b.1.length ≤ 1 ∧ b.2.text.length ≤ 1000) ∧ gives K H (oD (knt t bs)) Q
/-- without: the name that is not kept is refused by the class at CN -/
def spWithout (K : PySem.W.Frag) (CN : Addr) (n : Nat) : Sp := fun vs H Q E => ∃ (v : V) (o : Option Tr) (x : List Nat), vs = [v, .str (st x)] ∧ Dp K H v (oD o) ∧ FitsO o ∧ dpt o < n ∧ x.length ≤ 900 ∧ (∀ c ∈ x, c < 127) ∧
  (fndO o x = none → E (.ref CN) none H) ∧ ∀ k, fndO o x = some k → gives K H (oD (wotO o x)) Q
theorem repr_small {l : List Nat} (h : l.length ≤ 1000) (ht : ∀ c ∈ l, c < 127) : (reprText (st l)).length ≤ 100000 := by
  have h1 := PySem.StrLaws.reprText_len (st l) (fun c hc => by
    have hc : c ∈ l := by simpa using hc
    have := ht c hc
    have : (127 : Nat) < 16 ^ 8 := by decide
    omega)
  rw [st_len l] at h1
  omega
end RT
namespace RT
open PySem PySem.Spec PyProof.Rows L2
/-- the classes of refusals, as the top has them -/
structure ErrTxt (K : PySem.W.Frag) (mg : Str → Option Value) (x : Str) (CN CT : Addr) : Prop where
  gN : mg x = some (.ref CN)
  xN : PySem.W.excIn K CN [.type "ValueError", .type "Exception", .type "BaseException", .type "object"] "ValueError.__new__" = true
  kN : PySem.W.keepIn K (.ref CN) = true
  bN : PySem.W.subIn K (.ref CN) (.type "BaseException") = some true
  tN : PySem.W.typeIn K (.ref CN) = some (.type "type")
  eN : PySem.W.exmOne K (.ref CN) (.ref CN) = some true
  gT : mg "TrailError" = some (.ref CT)
  iT : PySem.W.kitOne K (.ref CN) (.ref CT) = some true
  iV : PySem.W.kitOne K (.ref CN) (.type "ValueError") = some true
  cN : ExcC K CN
def spRefused (K : PySem.W.Frag) : Sp := fun vs H Q _ => ∃ (v : V) (o : Option Tr) (x : List Nat), vs = [v, .str (st x)] ∧ Dp K H v (oD o) ∧ FitsO o ∧ dpt o < 50 ∧ x.length ≤ 900 ∧ (∀ c ∈ x, c < 127) ∧ fndO o x = none ∧ Q (.bl true) H
end RT
namespace RT
open PySem PySem.Spec PyProof.Rows L2
theorem errTxt {K : PySem.W.Frag} {h : Heap} {mg : Str → Option Value} {x : Str} {CN CT : Addr} (X : K.In h) (G : h.Ns mainGlobals mg) (aN : PySem.W.nsIn K mainGlobals x = some (some (.ref CN)))
    (xN : PySem.W.excIn K CN [.type "ValueError", .type "Exception", .type "BaseException", .type "object"] "ValueError.__new__" = true) (kN : PySem.W.keepIn K (.ref CN) = true) (bN : PySem.W.subIn K (.ref CN) (.type "BaseException") = some true)
    (tN : PySem.W.typeIn K (.ref CN) = some (.type "type")) (sN : PySem.W.subIn K (.ref CN) (.ref CN) = some true) (aT : PySem.W.nsIn K mainGlobals "TrailError" = some (some (.ref CT)))
    (iT : PySem.W.kitOne K (.ref CN) (.ref CT) = some true) (iV : PySem.W.kitOne K (.ref CN) (.type "ValueError") = some true)
    (hg : PySem.W.findIn K (.ref CN) "__getattribute__" = some (some (.builtin "BaseException.__getattribute__"))) (hk : PySem.W.findIn K (.ref CN) "__getattr__" = some none) (hd : PySem.W.hasDictIn K CN = true)
    (ha : PySem.W.findIn K (.ref CN) "__class__" = some (some (.builtin "object.__class__"))) (hn : PySem.W.specialIn K (.builtin "object.__class__") "__get__" = some (some (.builtin "getset_descriptor.__get__")))
    (ht : PySem.W.takesIn K (.builtin "object.__class__") = some true) (hm : PySem.W.mroIn K CN (.type "object") = some true) : ErrTxt K mg x CN CT :=
  ⟨PySem.W.mg_of X G aN, xN, kN, bN, tN, PySem.W.exm_ref bN hd tN sN, PySem.W.mg_of X G aT, iT, iV, ⟨hg, hk, bN, hd, ha, hn, ht, hm⟩⟩
end RT

/-! len(set(xs)) of a list of texts -/
namespace RT
open PySem PySem.Spec PyProof.Rows L2
/-- each once, as first met -/
def uq1 (ks : List Str) (a : Str) : List Str := if a ∈ ks then ks else ks ++ [a]
def uq (l : List Str) : List Str := l.foldl uq1 []
theorem uq_snoc (l : List Str) (a : Str) : uq (l ++ [a]) = uq1 (uq l) a := by unfold uq; rw [List.foldl_append]; rfl
theorem uq_both : ∀ n (l : List Str), l.length = n → (uq l).Nodup ∧ (∀ x, x ∈ uq l ↔ x ∈ l) ∧ (uq l).length ≤ n
  | 0, l, h => by
    have : l = [] := List.length_eq_zero_iff.mp h
    subst this
    exact ⟨List.nodup_nil, fun x => Iff.rfl, Nat.le_refl _⟩
  | n + 1, l, h => by
    have hne : l ≠ [] := fun e => by rw [e] at h; simp at h
    have e := List.dropLast_concat_getLast hne
    generalize l.dropLast = a, l.getLast hne = z at e
    subst e
    obtain ⟨i1, i2, i3⟩ := uq_both n a (by simpa using h)
    rw [uq_snoc]
    unfold uq1
    by_cases m : z ∈ uq a
    · rw [if_pos m]
      refine ⟨i1, fun x => ?_, by omega⟩
      rw [i2, List.mem_append, List.mem_singleton]
      exact ⟨.inl, fun q => q.elim id fun e => by rw [e]; exact (i2 z).mp m⟩
    · rw [if_neg m]
      refine ⟨List.nodup_append.mpr ⟨i1, by simp, fun x hx y hy => ?_⟩, fun x => ?_, by rw [List.length_append]; simp; omega⟩
      · have : y = z := by simpa using hy
        rw [this]; exact fun e => m (e ▸ hx)
      · rw [List.mem_append, List.mem_append, i2]
/-- how many there are -/
theorem uq_count {l : List Str} {α : Type} {L : List α} {f : α → Str} (nd : (L.map f).Nodup) (h : ∀ x, x ∈ l ↔ x ∈ L.map f) : (uq l).length = L.length := by
  obtain ⟨i1, i2, _⟩ := uq_both _ l rfl
  have p := (List.perm_ext_iff_of_nodup i1 nd).mpr fun x => (i2 x).trans (h x)
  rw [p.length_eq, List.length_map]
def has (ks : List Str) : Str → Bool := fun k => decide (k ∈ ks)
section
variable {P : Program} {w : World} {A : Around} {s : Shared}
abbrev TS' (P : Program) (w : World) (h : Heap) (S : Addr) (ks : List Str) : Prop := h.SetOf (PySem.strKind P w) S (has ks) ks.length
theorem ts_kept {h h' : Heap} {S : Addr} {ks : List Str} (H : TS' P w h S ks) (k : ∀ o, h.get? S = some o → h'.get? S = some o) : TS' P w h' S ks := by
  obtain ⟨o, es, ep, t, ho, r⟩ := H
  exact ⟨o, es, ep, t, k o ho, r⟩
theorem ts_add {h : Heap} {S : Addr} {ks : List Str} {a : Str} (H : h.SetOf (PySem.strKind P w) S (fun k => has ks k || decide (k = a)) (if has ks a then ks.length else ks.length + 1)) : TS' P w h S (uq1 ks a) := by
  refine PyProof.Rows.SetOf_congr H (fun k => ?_) ?_
  · unfold has uq1
    by_cases m : a ∈ ks
    · rw [if_pos m]
      by_cases e : k = a
      · rw [e, decide_eq_true m]; rfl
      · rw [decide_eq_false e, Bool.or_false]
    · rw [if_neg m]
      by_cases e : k = a
      · rw [e]; simp
      · rw [decide_eq_false e, Bool.or_false]
        exact decide_eq_decide.mpr (by simp [e])
  · unfold has uq1
    by_cases m : a ∈ ks
    · rw [if_pos m, decide_eq_true m, if_pos rfl]
    · rw [if_neg m, decide_eq_false m, if_neg (by decide), List.length_append]; rfl
theorem add_all {R : Result → Shared → Prop} {I : Addr} {fp wr : List Addr} {G : Array GenState → Array GenState → Prop} {n : Nat} {Pv : Nat → Value → Prop} {T : Nat → Shared → Prop}
    (W : WalksS P w A.in1 I fp wr G n Pv T) {S : Addr} (away : S ∉ fp) {xs : List Str} (sz : xs.length = n) (few : n < 64)
    (each : ∀ i v, Pv i v → ∃ t, v = .str (xs.getD i Str.empty) t) : ∀ (k i : Nat) (s : Shared), i + k = n → T i s → TS' P w s.heap S (uq (xs.take i)) →
      (∀ s', Moved (S :: wr) G s s' → TS' P w s'.heap S (uq xs) → R (.ok (.ret .none)) s') →
      codeAny (model P w) A (.builtin "set.update.loop" ⟨[.ref S, .ref I], []⟩) R s := by
  have notW : S ∉ wr := fun z => away (W.sub _ z)
  have wider : ∀ b ∈ wr, b ∈ S :: wr := fun _ m => List.mem_cons_of_mem _ m
  intro k
  induction k with
  | zero =>
    intro i s e st hs fin
    refine codeAny_builtin F.entry_set_update_loop ?_
    rw [Around.under_plainId F.plain_set_update_loop _]
    have e' : i = n := e
    subst e'
    rw [← sz, List.take_length] at hs
    exact wpAny_bind (W.done s _ _ st fun s1 mv => wpAny_pure (fin s1 (mv.mono wider) (ts_kept hs fun o q => mv.heap S _ notW q)))
  | succ k ih =>
    intro i s e st hs fin
    have lt : i < n := by omega
    refine codeAny_builtin F.entry_set_update_loop ?_
    rw [Around.under_plainId F.plain_set_update_loop _]
    refine wpAny_bind (W.item i s _ _ lt st fun v s1 pv st1 mv => ?_)
    obtain ⟨t, rfl⟩ := each i v pv
    have hs1 := ts_kept (h' := s1.heap) hs fun o q => mv.heap S _ notW q
    have few' : (uq (xs.take i)).length ≤ i := Nat.le_trans (uq_both _ (xs.take i) rfl).2.2 (by rw [List.length_take]; omega)
    show wpAny _ A.in1 (holding [Value.str (xs.getD i Str.empty) t] (setAdd S (.str (xs.getD i Str.empty) t)) >>= _) _ _ s1
    refine wpAny_bind (wpAny_holding ?_)
    unfold setAdd
    refine wpAny_holding (wpAny_bind ((PySem.strKind P w).pyHash (k := xs.getD i Str.empty) (strKind_is _ _ _ _) ?_))
    refine wpAny_setAddHashed_of (knd := PySem.strKind P w) (s := { s1 with toks := s1.toks + 1 }) (strKind_is _ _ _ _) rfl hs1 (by unfold scanBound; omega) fun h2 only hs2 => ?_
    have hx : xs.take (i + 1) = xs.take i ++ [xs.getD i Str.empty] := by
      rw [List.take_add_one, List.getD_eq_getElem?_getD, List.getElem?_eq_getElem (by omega)]; rfl
    have hs3 := ts_add hs2
    rw [← uq_snoc, ← hx] at hs3
    refine wpAny_pure ⟨plainId_quiet F.plain_set_update_loop _, ih (i + 1) _ (by omega) (W.frame _ s1 _ _ st1 (Nat.le_succ _) fun b m o q => ?_) hs3 fun s4 mv4 hs4 => fin s4 (Moved.trans W.gtrans ((mv.mono wider).then_heap (Nat.le_succ _) fun b o m q => ?_) mv4) hs4⟩
    · rw [only.2 b fun z => away (by rw [← z]; exact m)]; exact q
    · rw [only.2 b fun z => m (by rw [z]; exact List.mem_cons_self)]; exact q
abbrev eo (led : Bool) : Obj := { cls := .type "set", dict := none, data := .set #[] 0 (.fresh 0 0 led) }
set_option maxHeartbeats 3200000 in
/-- set(xs), of texts -/
theorem set_texts {E : Value → Shared → Prop} {Q : Value → Shared → Prop} {l : Addr} {items : Array Value} {xs : List Str} (quiet : A.handled = none) (isL : s.heap.IsList l items) (are : PyProof.Rows.StrsAre items.toList xs) (few : xs.length < 64)
    (fin : ∀ (h : Heap) (tk : Nat), TS' P w h s.heap.objs.size (uq xs) → (∀ b o, b < s.heap.objs.size → s.heap.get? b = some o → h.get? b = some o) → Q (.ref s.heap.objs.size) { s with heap := h, toks := tk }) :
    wpAny (model P w) A (call (.type "set") [.ref l]) Q E s := by
  have made := PySem.F.called_set.made
  have below := PySem.F.called_set.sub
  have other := PySem.F.called_set.notType
  have can := PySem.F.called_set.canCreate
  have one := PySem.F.typeCall_set_1 (.ref l)
  obtain ⟨_, _, mro⟩ := PySem.F.called_set.mro
  have mute : (Code.builtin "type.__call__" ⟨[.type "set", .ref l], []⟩).quiet = true := Code.quiet_builtin _ (by decide +kernel)
  refine wpAny_call (codeAny_of_tree (show wpAny _ _ (callAny (.type "set") _) _ _ _ from wpAny_pure ⟨mute, codeAny_builtin PySem.F.entry_type_call ?_⟩))
  have light := weight_type_call_type "set" [.ref l] []
  rw [Around.under_plain light rfl]
  repeat any_goals first | assumption | wp_step
  -- the empty set at its place
  refine codeAny_mono (code_set_new_1 (.ref l) (E := E) (Q₁ := fun u s1 => ∃ led : Bool, u = .ref s.heap.objs.size ∧ s1 = { s with heap := s.heap.push (eo led) }) fun led => ⟨led, rfl, rfl⟩) fun r s1 g => ?_
  match r, g with
  | .error _, g => exact g
  | .ok (.ret u), ⟨led, e1, e2⟩ =>
    subst e1
    subst e2
    have at0 : (s.heap.push (eo led)).get? s.heap.objs.size = some (eo led) := Heap.get?_push_size _ rfl
    have ty0 : Shared.TypeIs { s with heap := s.heap.push (eo led) } (.ref s.heap.objs.size) "set" := ⟨_, at0, rfl⟩
    have look := PySem.F.called_set.init.lookup
    have bind := PySem.F.called_set.init.bind (.ref s.heap.objs.size)
    repeat any_goals first | assumption | wp_step
    refine codeAny_mono (codeAny_call_builtin (R := wants (fun u s2 => u = .none ∧ ∃ h tk, s2 = { s with heap := h, toks := tk } ∧ TS' P w h s.heap.objs.size (uq xs) ∧ ∀ b o, b < s.heap.objs.size → s.heap.get? b = some o → h.get? b = some o) E)
      PySem.F.called_set.init.plain PySem.F.entry_set_init (check_set_init_1 ty0 ?_)) fun r2 s2 g2 => ?_
    · obtain ⟨ol, hol, hcl, nl, hdl⟩ := isL
      obtain ⟨c, d, dat, sls⟩ := ol
      simp only at hcl hdl
      subst hcl
      subst hdl
      have there : (s.heap.push (eo led)).get? l = some { cls := .type "list", dict := d, data := .seq items nl, slots := sls } := Heap.get?_push_of_some _ hol
      have isL1 : (s.heap.push (eo led)).IsList l items := ⟨_, there, rfl, nl, rfl⟩
      have n1 := PySem.F.sub_list_set
      have n2 := PySem.F.sub_list_frozenset
      have n3 : (Value.type "list" == Value.type "dict") = false := by decide
      unfold Builtin.«set.__init__» noKeywords Builtin.Frozenset.updateFrom
      generalize hPI : pyIter = PI
      wp_walk
      subst hPI
      refine wpAny_pyIter_list isL1 (wpAny_bind (wpAny_runValue ?_))
      have low : l < s.heap.objs.size := Heap.lt_size hol
      have sz1 : (s.heap.push (eo led)).objs.size = s.heap.objs.size + 1 := Heap.size_push ..
      have q3 : A.in1.in1.in1.handled = none := by simp [quiet]
      have len : xs.length = items.size := by rw [← StrsAre.len_eq are, Array.length_toList]
      refine add_all ((Walks.list q3 _ l (by rw [sz1]; exact Nat.ne_of_lt (Nat.lt_succ_of_lt low)) items).toS) (S := s.heap.objs.size) ?_ len (by omega) (fun i v hv => SS.strs_at are i v (by rw [Array.getElem?_toList]; exact hv)) items.size 0 _ (Nat.zero_add _) ⟨⟨_, Heap.get?_push_size _ rfl, rfl, rfl⟩, isL1.push _⟩ ?_ ?_
      · rw [sz1]
        intro z
        rcases List.mem_cons.mp z with e | z
        · exact Nat.ne_of_lt (Nat.lt_succ_self _) e
        · exact Nat.ne_of_gt low (List.mem_singleton.mp z)
      · exact PyProof.Rows.SetOf_congr ((PyProof.Rows.setObjOf_fresh (knd := PySem.strKind P w) led).setOf (Heap.get?_push_of_some _ at0) (by unfold scanBound; omega)) (fun _ => rfl) rfl
      · intro s3 mv hs
        obtain ⟨h3, g3, d3, k3, o3⟩ := s3
        have e1 : g3 = s.gens := mv.gens
        have e2 : d3 = s.drawn := mv.drawn
        have e3 : o3 = s.os := mv.os
        subst e1 e2 e3
        refine wpAny_pure (wpAny_pure ⟨rfl, h3, k3, rfl, hs, fun b o lt q => mv.heap b o ?_ (Heap.get?_push_of_some _ (Heap.get?_push_of_some _ q))⟩)
        rw [sz1]
        intro z
        rcases List.mem_cons.mp z with e | z
        · exact Nat.ne_of_lt lt e
        · exact Nat.ne_of_lt (Nat.lt_succ_of_lt lt) (List.mem_singleton.mp z)
    · match r2, g2 with
      | .error _, g => exact g
      | .ok (.ret _), ⟨e1, h, tk, e2, hs, kp⟩ =>
        subst e1
        subst e2
        repeat any_goals first | assumption | wp_step
        exact fin _ _ hs kp
/-- len(set(xs)) -/
def tLenT (K : PySem.W.Frag) (t : TE) : TE := fun σ H Q => t σ H fun x H1 => ∃ (l : Addr) (xs : List Str), x = .ref l ∧ SqL K H1 l (xs.map V.str) ∧ xs.length < 64 ∧ Q (.int (uq xs).length) H1
theorem pe_lenT {X : Cx} {a : Expr} {ta : TE} {p p2 q pos : Pos} (ha : PE X a ta) (hm : X.mg "len" = none) (hm2 : X.mg "set" = none) (hc : X.calm = true := by rfl) (hg : Gl X "len" := by rfl) (hg2 : Gl X "set" := by rfl)
    (na : starEach [a] X.env = (false, eval a X.env) :: starEach [] X.env := by rfl) : PE X (.Call (.Name "len" p) [.Call (.Name "set" p2) [a] [] q] [] pos) (tLenT X.K ta) := by
  refine ⟨fun pins s σ H Q I h => Call_ (ld_blt I hg hm PySem.boot_len (PyProof.Rows.callWith_builtin1 (PyProof.Rows.args_cons (Call_ (ld_blt I hg2 hm2 PyProof.Rows.boot_set ?_)) rfl) rfl rfl))⟩
  refine PyProof.Rows.callWith_type1 (PyProof.Rows.args_cons (thn (ha.run pins s σ H _ I h) fun v s1 ⟨x, H1, I1, r1, l, xs, ex, hq, few, q1⟩ => PyProof.Rows.args_nil ?_) na) na rfl
  subst ex
  cases r1
  obtain ⟨its, r, pl, _⟩ := I1.list hq
  refine set_texts (I1.ok.hd hc) pl.isList (by simpa using strsAre_of r) few fun h' tk hs kp => PyProof.Rows.args_nil ?_
  obtain ⟨o, es, ep, t, ho, hex, hd, _, _, _, hf, hn⟩ := hs
  have lim := (uq_both _ xs rfl).2.2
  have I2 : Inv X pins σ H1 { s1 with heap := h', toks := tk } := I1.kept fun b o e => kp b o (Heap.lt_size e) e
  exact call_len_set ho hex hd hf (by rw [hn]; omega) ⟨.int (uq xs).length, H1, I2.tok _, ⟨_, by rw [hn]⟩, q1⟩
end
end RT

/-! names and knots of a tree -/
namespace RT
open PySem PySem.Spec PyProof.Rows L2
/-- the branches' rows by a function of trees -/
def gat (f : Tr → List Row) (bs : List (List Nat × Tr)) : List Row := bs.flatMap fun b => (f b.2).map (pre b.1)
theorem gat_rws : ∀ bs, rwss bs = gat Tr.rws bs
  | [] => rfl
  | (s, t) :: r => by
    show t.rws.map (pre s) ++ rwss r = gat Tr.rws ((s, t) :: r)
    rw [gat_rws r]; rfl
theorem gat_app (f : Tr → List Row) (a b : List (List Nat × Tr)) : gat f (a ++ b) = gat f a ++ gat f b := by unfold gat; rw [List.flatMap_append]
theorem gat_one (f : Tr → List Row) (b : List Nat × Tr) : gat f [b] = (f b.2).map (pre b.1) := by unfold gat; simp
theorem gat_next {f : Tr → List Row} {bs : List (List Nat × Tr)} {i : Nat} {b : List Nat × Tr} (h : bs[i]? = some b) : gat f (bs.take (i + 1)) = gat f (bs.take i) ++ (f b.2).map (pre b.1) := by
  rw [List.take_add_one, h, gat_app]
  show _ ++ gat f [b] = _
  rw [gat_one]
theorem gat_take (f : Tr → List Row) (bs : List (List Nat × Tr)) (i : Nat) : (gat f (bs.take i)).length ≤ (gat f bs).length := by
  conv => rhs; rw [← List.take_append_drop i bs, gat_app, List.length_append]
  omega
theorem pre_pre (p q : List Nat) (R : List Row) : (R.map (pre q)).map (pre p) = R.map (pre (p ++ q)) := by
  rw [List.map_map]
  refine List.map_congr_left fun r _ => ?_
  show (p ++ (q ++ r.1), r.2) = (p ++ q ++ r.1, r.2)
  rw [List.append_assoc]
mutual
/-- all knots, a fork ahead of what is in it -/
def Tr.kn : Tr → List Row
  | .leaf t _ => [(t, 0)]
  | .fork t bs => (t, (bs.length : Int)) :: (knn bs).map (pre t)
def knn : List (List Nat × Tr) → List Row
  | [] => []
  | (s, t) :: r => t.kn.map (pre s) ++ knn r
end
theorem gat_kn : ∀ bs, knn bs = gat Tr.kn bs
  | [] => rfl
  | (s, t) :: r => by
    show t.kn.map (pre s) ++ knn r = gat Tr.kn ((s, t) :: r)
    rw [gat_kn r]; rfl
theorem kn_len : ∀ t : Tr, t.kn.length = t.many := by
  refine Tr.ind (fun t n => rfl) fun t bs ih => ?_
  have : ∀ bs : List (List Nat × Tr), (∀ b ∈ bs, b.2.kn.length = b.2.many) → (knn bs).length = manys bs := fun bs h => by
    induction bs with
    | nil => rfl
    | cons x r ih =>
      obtain ⟨s, u⟩ := x
      have h1 : u.kn.length = u.many := h (s, u) (List.mem_cons_self ..)
      have h2 := ih fun b hb => h b (List.mem_cons_of_mem _ hb)
      show (u.kn.map (pre s) ++ knn r).length = u.many + manys r
      rw [List.length_append, List.length_map, h1, h2]
  have := this bs ih
  simp [Tr.kn, Tr.many, this]
/-- a knot's text is a name's beginning; none has one branch -/
theorem kn_in : ∀ t : Tr, Wf t → ∀ r ∈ t.kn, (∃ x m, (x, m) ∈ t.rws ∧ r.1 <+: x) ∧ r.2 ≠ 1 := by
  refine Tr.ind (fun t n _ r hr => ?_) (fun t bs ih h r hr => ?_)
  · have : r = (t, 0) := by simpa [Tr.kn] using hr
    rw [this]
    exact ⟨⟨t, n, by simp [Tr.rws], List.prefix_refl _⟩, show (0 : Int) ≠ 1 by decide⟩
  · have w := wfB_iff.mp h.2
    obtain ⟨⟨x, m⟩, hx⟩ := rws_ne _ h
    rcases List.mem_cons.mp hr with e | hm
    · rw [e]
      obtain ⟨y, ey, _⟩ := mem_fork.mp hx
      have := h.1
      exact ⟨⟨x, m, hx, by rw [ey]; exact List.prefix_append _ _⟩, by show ((bs.length : Nat) : Int) ≠ 1; omega⟩
    · rw [gat_kn] at hm
      obtain ⟨r1, hr1, e1⟩ := List.mem_map.mp hm
      obtain ⟨b, hb, hr2⟩ := List.mem_flatMap.mp hr1
      obtain ⟨r3, hr3, e3⟩ := List.mem_map.mp hr2
      obtain ⟨⟨y, k, hy, hp⟩, h1⟩ := ih b hb (w.1 b hb).2.2 r3 hr3
      subst e1; subst e3
      refine ⟨⟨t ++ (b.1 ++ y), k, mem_fork.mpr ⟨_, rfl, mem_rwss.mpr ⟨b, hb, y, rfl, hy⟩⟩, ?_⟩, h1⟩
      show t ++ (b.1 ++ r3.1) <+: _
      exact (List.prefix_append_right_inj _).mpr ((List.prefix_append_right_inj _).mpr hp)
/-- a function whose rows stay small -/
def Bnd (f : Tr → List Row) : Prop := ∀ t, Fits t → (∀ r ∈ f t, r.1.length ≤ 1000) ∧ (f t).length ≤ 10000
theorem bnd_rws : Bnd Tr.rws := fun t h => ⟨fun r hr => h.2.1 r.1 r.2 hr, by have := h.2.2; omega⟩
theorem bnd_kn : Bnd Tr.kn := fun t h => ⟨fun r hr => by
    obtain ⟨⟨x, m, hx, hp⟩, _⟩ := kn_in t h.1 r hr
    have := h.2.1 x m hx
    have := hp.length_le
    omega, by rw [kn_len]; have := many_le t h.1; have := h.2.2; omega⟩
/-- what a fork's branches give, put together -/
theorem gat_small {f : Tr → List Row} {g : Nat} (hf : ∀ t bs, (f (.fork t bs)).length = g + (gat f bs).length) (B : Bnd f) {t : List Nat} {bs : List (List Nat × Tr)} (h : Fits (.fork t bs)) : (gat f bs).length ≤ 10000 := by
  have := (B _ h).2
  rw [hf] at this
  omega
/-! ### promises -/
def rowsOf (f : Tr → List Row) : Option Tr → List Row
  | none => []
  | some t => f t
def spList (K : PySem.W.Frag) (f : Tr → List Row) (n : Nat) : Sp := fun vs H Q _ => ∃ (v : V) (o : Option Tr), vs = [v] ∧ Dp K H v (oD o) ∧ FitsO o ∧ dpt o < n ∧
  ∀ (L : Addr) (acc : List V) (H' : Hp), H L = none → Same H H' → H' L = some (.lst acc) → DpAll K H' acc ((rowsOf f o).map rowD) → Q (.ref L) H'
abbrev spNames (K : PySem.W.Frag) (n : Nat) : Sp := spList K Tr.rws n
abbrev spKnots (K : PySem.W.Frag) (n : Nat) : Sp := spList K Tr.kn n
def spWalked (K : PySem.W.Frag) (n : Nat) : Sp := fun vs H Q _ => ∃ (v : V) (t : Tr) (s : List Nat), vs = [v, .str (st s)] ∧ Dp K H v t.toD ∧ Fits t ∧ t.deep < n ∧ (∀ x m, (x, m) ∈ t.rws → s.length + x.length ≤ 1000) ∧
  ∀ (L : Addr) (acc : List V) (H' : Hp), H L = none → Same H H' → H' L = some (.lst acc) → DpAll K H' acc ((t.kn.map (pre s)).map rowD) → Q (.ref L) H'
/-! ### the law's knots of rows -/
def sgs (R : List Row) (p : List Nat) : List Str := (R.filter fun r => decide (r.1.take p.length = p)).map fun r => st (sg p.length r)
def cnt (R : List Row) (p : List Nat) : Nat := (uq (sgs R p)).length
def stp (R : List Row) (d : List Row) (p : List Nat) : List Row := if 1 < cnt R p ∧ (p, (cnt R p : Int)) ∉ d then d ++ [(p, (cnt R p : Int))] else d
def stps (R : List Row) (x : List Nat) (d : List Row) (k : Nat) : List Row := (List.range k).foldl (fun d k => stp R d (x.take k)) d
def rgo (R : List Row) (d : List Row) (r : Row) : List Row := stps R r.1 d (r.1.length + 1) ++ [(r.1, 0)]
def lk (R : List Row) : List Row := R.foldl (rgo R) []
theorem stps_succ (R : List Row) (x : List Nat) (d : List Row) (k : Nat) : stps R x d (k + 1) = stp R (stps R x d k) (x.take k) := by
  unfold stps; rw [List.range_succ, List.foldl_append]; rfl
theorem mem_sgs {R : List Row} {p : List Nat} {z : Str} : z ∈ sgs R p ↔ ∃ r ∈ R, p <+: r.1 ∧ st (sg p.length r) = z := by
  unfold sgs
  simp only [List.mem_map, List.mem_filter, decide_eq_true_eq]
  constructor
  · rintro ⟨r, ⟨h1, h2⟩, e⟩; exact ⟨r, h1, List.prefix_iff_eq_take.mpr h2.symm, e⟩
  · rintro ⟨r, h1, h2, e⟩; exact ⟨r, ⟨h1, (List.prefix_iff_eq_take.mp h2).symm⟩, e⟩
theorem cnt_one {R : List Row} {p s : List Nat} (h : ∀ r ∈ R, p <+: r.1 → sg p.length r = s) : cnt R p ≤ 1 := by
  obtain ⟨i1, i2, _⟩ := uq_both _ (sgs R p) rfl
  have all : ∀ z ∈ uq (sgs R p), z = st s := fun z hz => by
    obtain ⟨r, h1, h2, e⟩ := mem_sgs.mp ((i2 z).mp hz)
    rw [← e, h r h1 h2]
  show (uq (sgs R p)).length ≤ 1
  match uq (sgs R p), i1, all with
  | [], _, _ => simp
  | [_], _, _ => simp
  | a :: b :: r, nd, all =>
    have e1 := all a (List.mem_cons_self ..)
    have e2 := all b (List.mem_cons_of_mem _ (List.mem_cons_self ..))
    exact absurd (List.mem_cons_self ..) ((List.nodup_cons.mp nd).1 |> fun h => by rw [e1, ← e2] at h; exact h)
theorem stp_no {R d : List Row} {p : List Nat} (h : 1 < cnt R p → (p, (cnt R p : Int)) ∈ d) : stp R d p = d := if_neg fun z => z.2 (h z.1)
theorem stps_no {R d : List Row} {x : List Nat} : ∀ {k : Nat}, (∀ i, i < k → 1 < cnt R (x.take i) → (x.take i, (cnt R (x.take i) : Int)) ∈ d) → stps R x d k = d
  | 0, _ => rfl
  | k + 1, h => by
    rw [stps_succ, stps_no fun i hi => h i (by omega)]
    exact stp_no (h k (by omega))
/-- the tree's rows are those of R behind P -/
def Sub (R : List Row) (P : List Nat) (t : Tr) : Prop := ∀ x m, (P ++ x, m) ∈ R ↔ (x, m) ∈ t.rws
def Done (R d : List Row) (q : List Nat) : Prop := ∀ p, p <+: q → p.length < q.length → 1 < cnt R p → (p, (cnt R p : Int)) ∈ d
def Fresh (d : List Row) (q : List Nat) : Prop := ∀ r ∈ d, ¬ q <+: r.1
theorem rgo_plain {R d : List Row} {r : Row} (h : ∀ p, p <+: r.1 → 1 < cnt R p → (p, (cnt R p : Int)) ∈ d) : rgo R d r = d ++ [(r.1, 0)] := by
  unfold rgo
  rw [stps_no fun i _ => h _ (List.take_prefix _ _)]
theorem short_pre {p q x : List Nat} (h1 : p <+: x) (h2 : q <+: x) (h : p.length ≤ q.length) : p <+: q := List.prefix_of_prefix_length_le h1 h2 h
section
variable {R : List Row} {P u : List Nat} {bs : List (List Nat × Tr)}
/-- inside a fork's text there is one sign alone -/
theorem cnt_in (sb : Sub R P (.fork u bs)) {p : List Nat} (h1 : p <+: P ++ u) (h2 : P.length ≤ p.length) (h3 : p.length < (P ++ u).length) : cnt R p ≤ 1 := by
  refine cnt_one (s := ((P ++ u).drop p.length).take 1) fun r hr hp => ?_
  have hP : P <+: r.1 := (short_pre (List.prefix_append P u) h1 h2).trans hp
  obtain ⟨x, ex⟩ := hP
  have hm : (x, r.2) ∈ (Tr.fork u bs).rws := (sb x r.2).mp (by rw [ex]; exact hr)
  obtain ⟨y, ey, _⟩ := mem_fork.mp hm
  unfold sg
  have e : r.1 = (P ++ u) ++ y := by rw [← ex, ey, List.append_assoc]
  rw [e, List.drop_append_of_le_length (by omega), List.take_append_of_le_length (by rw [List.length_drop]; omega)]
theorem cnt_at (w : Wf (.fork u bs)) (sb : Sub R P (.fork u bs)) : cnt R (P ++ u) = bs.length := by
  have w' := wfB_iff.mp w.2
  refine uq_count (L := bs) (f := fun b => st b.1) (List.pairwise_map.mpr (w'.2.imp fun h e => ?_)) fun z => ?_
  · have e := st_inj e
    rw [e] at h; exact lt_irr _ h
  · rw [mem_sgs, List.mem_map]
    constructor
    · rintro ⟨r, hr, hp, e⟩
      obtain ⟨x, ex⟩ := hp
      have hm : (u ++ x, r.2) ∈ (Tr.fork u bs).rws := (sb _ r.2).mp (by rw [← List.append_assoc, ex]; exact hr)
      obtain ⟨y, ey, hy⟩ := mem_fork.mp hm
      have ey := List.append_cancel_left ey
      subst ey
      obtain ⟨b, hb, v, ev, hv⟩ := mem_rwss.mp hy
      refine ⟨b, hb, ?_⟩
      rw [← e]
      unfold sg
      rw [← ex, List.drop_left, (sign_of (w'.1 b hb) hv).1, ← ev]
    · rintro ⟨b, hb, e⟩
      obtain ⟨⟨v, m⟩, hv⟩ := rws_ne b.2 (w'.1 b hb).2.2
      refine ⟨(P ++ (u ++ (b.1 ++ v)), m), (sb _ _).mpr (mem_fork.mpr ⟨_, rfl, mem_rwss.mpr ⟨b, hb, v, rfl, hv⟩⟩), ?_, ?_⟩
      · show P ++ u <+: P ++ (u ++ (b.1 ++ v))
        rw [← List.append_assoc]; exact List.prefix_append _ _
      · rw [← e]
        unfold sg
        show st (((P ++ (u ++ (b.1 ++ v))).drop (P ++ u).length).take 1) = _
        rw [← List.append_assoc, List.drop_left, ← (sign_of (w'.1 b hb) hv).1]
/-- what is due at a fork's text -/
theorem done_at (sb : Sub R P (.fork u bs)) {d : List Row} (dn : Done R d P) : Done R d (P ++ u) := fun p hp hl hc => by
  by_cases h : p.length < P.length
  · exact dn p (short_pre hp (List.prefix_append P u) (by omega)) h hc
  · have := cnt_in sb hp (by omega) hl
    omega
theorem stps_mid {d : List Row} {q x : List Nat} (hq : q <+: x) (dn : Done R d q) (hc : 1 < cnt R q) (hn : (q, (cnt R q : Int)) ∉ d) : rgo R d (x, 0) = rgo R (d ++ [(q, (cnt R q : Int))]) (x, 0) := by
  have lq := hq.length_le
  have tq : x.take q.length = q := (List.prefix_iff_eq_take.mp hq).symm
  have small : ∀ i, i < q.length → 1 < cnt R (x.take i) → (x.take i, (cnt R (x.take i) : Int)) ∈ d := fun i hi h =>
    dn _ (short_pre (List.take_prefix _ _) hq (by rw [List.length_take]; omega)) (by rw [List.length_take]; omega) h
  have a1 : stps R x d q.length = d := stps_no small
  have a2 : stps R x (d ++ [(q, (cnt R q : Int))]) q.length = d ++ [(q, (cnt R q : Int))] := stps_no fun i hi h => List.mem_append_left _ (small i hi h)
  have b1 : stps R x d (q.length + 1) = d ++ [(q, (cnt R q : Int))] := by
    rw [stps_succ, a1, tq]; exact if_pos ⟨hc, hn⟩
  have b2 : stps R x (d ++ [(q, (cnt R q : Int))]) (q.length + 1) = d ++ [(q, (cnt R q : Int))] := by
    rw [stps_succ, a2, tq]; exact stp_no fun _ => List.mem_append_right _ (List.mem_singleton.mpr rfl)
  have more : ∀ j, stps R x d (q.length + 1 + j) = stps R x (d ++ [(q, (cnt R q : Int))]) (q.length + 1 + j) := fun j => by
    induction j with
    | zero => exact b1.trans b2.symm
    | succ j ih => rw [← Nat.add_assoc, stps_succ, stps_succ, ih]
  unfold rgo
  have e : x.length + 1 = q.length + 1 + (x.length - q.length) := by omega
  show stps R x d (x.length + 1) ++ _ = stps R x _ (x.length + 1) ++ _
  rw [e, more]
end
theorem rgo_num (R d : List Row) (x : List Nat) (n m : Int) : rgo R d (x, n) = rgo R d (x, m) := rfl
/-- rows of one tree, done one behind the other -/
theorem lk_sub {R : List Row} : ∀ t : Tr, Wf t → ∀ P d, Sub R P t → Done R d P → Fresh d P → (t.rws.map (pre P)).foldl (rgo R) d = d ++ t.kn.map (pre P) := by
  refine Tr.ind (fun u n _ P d sb dn fr => ?_) (fun u bs ih w P d sb dn fr => ?_)
  · show rgo R d (P ++ u, n) = d ++ [(P ++ u, 0)]
    refine rgo_plain fun p hp hc => ?_
    have hp : p <+: P ++ u := hp
    by_cases h : p.length < P.length
    · exact dn p (short_pre hp (List.prefix_append P u) (by omega)) h hc
    · exfalso
      have : cnt R p ≤ 1 := cnt_one (s := ((P ++ u).drop p.length).take 1) fun r hr hpr => by
        obtain ⟨x, ex⟩ := (short_pre (List.prefix_append P u) hp (by omega)).trans hpr
        have hm : (x, r.2) ∈ (Tr.leaf u n).rws := (sb x r.2).mp (by rw [ex]; exact hr)
        have e := (mem_leaf.mp hm).1
        unfold sg
        rw [← ex, e]
      omega
  · have w' := wfB_iff.mp w.2
    have hcq : cnt R (P ++ u) = bs.length := cnt_at w sb
    have dq := done_at sb dn
    have h2 := w.1
    have fq : ∀ r ∈ d, ¬ P ++ u <+: r.1 := fun r hr z => fr r hr ((List.prefix_append P u).trans z)
    generalize hq : P ++ u = q at hcq dq fq
    -- the branches, one behind the other
    have go : ∀ B A : List (List Nat × Tr), bs = A ++ B → ((gat Tr.rws B).map (pre q)).foldl (rgo R) (d ++ [(q, (bs.length : Int))] ++ (gat Tr.kn A).map (pre q)) = d ++ [(q, (bs.length : Int))] ++ (gat Tr.kn bs).map (pre q) := by
      intro B
      induction B with
      | nil => intro A e; rw [List.append_nil] at e; rw [e]; rfl
      | cons b B ihB =>
        intro A e
        have hb : b ∈ bs := by rw [e]; exact List.mem_append_right _ (List.mem_cons_self ..)
        have hA : ∀ a ∈ A, a.1 < b.1 ∧ a ∈ bs := fun a ha => by
          have := w'.2
          rw [e] at this
          exact ⟨(List.pairwise_append.mp this).2.2 a ha b (List.mem_cons_self ..), by rw [e]; exact List.mem_append_left _ ha⟩
        have key : ((b.2.rws.map (pre b.1)).map (pre q)).foldl (rgo R) (d ++ [(q, (bs.length : Int))] ++ (gat Tr.kn A).map (pre q)) = d ++ [(q, (bs.length : Int))] ++ (gat Tr.kn A).map (pre q) ++ (b.2.kn.map (pre b.1)).map (pre q) := by
          have here : (q, (cnt R q : Int)) ∈ d ++ [(q, (bs.length : Int))] ++ (gat Tr.kn A).map (pre q) := by rw [hcq]; simp
          obtain ⟨k1, k2, k3⟩ := w'.1 b hb
          by_cases es : b.1 = []
          · obtain ⟨n, en⟩ := k2 es
            rw [en, es]
            show rgo R _ (q ++ ([] ++ []), n) = _ ++ [(q ++ ([] ++ []), 0)]
            refine rgo_plain fun p hp hc => ?_
            have hp : p <+: q := by have hp : p <+: q ++ ([] ++ []) := hp; rwa [List.append_nil, List.append_nil] at hp
            by_cases l : p.length < q.length
            · exact List.mem_append_left _ (List.mem_append_left _ (dq p hp l hc))
            · have : p = q := List.IsPrefix.eq_of_length hp (Nat.le_antisymm hp.length_le (by omega))
              rw [this]; exact here
          · have ls : b.1.length = 1 := by have := List.length_pos_iff.mpr es; omega
            rw [pre_pre, pre_pre]
            refine ih b hb k3 (q ++ b.1) _ (fun x m => ?_) (fun p hp hl hc => ?_) (fun r hr z => ?_)
            · rw [List.append_assoc, ← hq, List.append_assoc]
              rw [sb, mem_fork]
              constructor
              · rintro ⟨y, ey, hy⟩
                have ey := List.append_cancel_left ey
                subst ey
                obtain ⟨c, hc, v, ev, hv⟩ := mem_rwss.mp hy
                have s1 := (sign_of (w'.1 c hc) hv).1
                have ec : c.1 = b.1 := by
                  rw [s1, ← ev, List.take_append_of_le_length (by omega), List.take_of_length_le (by omega)]
                have := pair_eq w'.2 hc hb ec
                subst this
                rw [List.append_cancel_left ev]; exact hv
              · intro hx
                exact ⟨_, rfl, mem_rwss.mpr ⟨b, hb, x, rfl, hx⟩⟩
            · rw [List.length_append] at hl
              have hpq : p <+: q := short_pre hp (List.prefix_append q b.1) (by omega)
              by_cases l : p.length < q.length
              · exact List.mem_append_left _ (List.mem_append_left _ (dq p hpq l hc))
              · have : p = q := List.IsPrefix.eq_of_length hpq (Nat.le_antisymm hpq.length_le (by omega))
                rw [this]; exact here
            · have zq : q <+: r.1 := (List.prefix_append q b.1).trans z
              rcases List.mem_append.mp hr with hr | hr
              · rcases List.mem_append.mp hr with hr | hr
                · exact fq r hr zq
                · have e1 : r = (q, (bs.length : Int)) := List.mem_singleton.mp hr
                  rw [e1] at z
                  have := z.length_le
                  rw [List.length_append] at this
                  show False
                  have : (q.length) + b.1.length ≤ q.length := this
                  omega
              · obtain ⟨r1, hr1, e1⟩ := List.mem_map.mp hr
                obtain ⟨a, ha, hr2⟩ := List.mem_flatMap.mp hr1
                obtain ⟨r3, hr3, e3⟩ := List.mem_map.mp hr2
                obtain ⟨lt, hab⟩ := hA a ha
                obtain ⟨g1, g2, g3⟩ := w'.1 a hab
                rw [← e1, ← e3] at z
                have z : q ++ b.1 <+: q ++ (a.1 ++ r3.1) := z
                have z := (List.prefix_append_right_inj q).mp z
                by_cases ea : a.1 = []
                · obtain ⟨n, en⟩ := g2 ea
                  rw [en] at hr3
                  have : r3 = ([], 0) := by simpa [Tr.kn] using hr3
                  rw [ea, this] at z
                  have z0 : b.1.length ≤ 0 := z.length_le
                  omega
                · have la : a.1.length = 1 := by have := List.length_pos_iff.mpr ea; omega
                  have e2 := short_pre z (List.prefix_append a.1 r3.1) (by omega)
                  have e2 := List.IsPrefix.eq_of_length e2 (by omega)
                  rw [e2] at lt; exact lt_irr _ lt
        rw [show gat Tr.rws (b :: B) = b.2.rws.map (pre b.1) ++ gat Tr.rws B from rfl, List.map_append, List.foldl_append, key]
        have e2 : bs = (A ++ [b]) ++ B := by rw [List.append_assoc]; exact e
        have := ihB (A ++ [b]) e2
        rw [gat_app, gat_one, List.map_append, ← List.append_assoc] at this
        exact this
    have all : (Tr.fork u bs).rws.map (pre P) = (gat Tr.rws bs).map (pre q) := by
      show ((rwss bs).map (pre u)).map (pre P) = _
      rw [pre_pre, hq, gat_rws]
    have alk : (Tr.fork u bs).kn.map (pre P) = (q, (bs.length : Int)) :: (gat Tr.kn bs).map (pre q) := by
      show (P ++ u, (bs.length : Int)) :: ((knn bs).map (pre u)).map (pre P) = _
      rw [pre_pre, hq, gat_kn]
    rw [all, alk]
    have g0 := go bs [] rfl
    rw [show (gat Tr.kn []).map (pre q) = [] from rfl, List.append_nil] at g0
    rw [show d ++ (q, (bs.length : Int)) :: (gat Tr.kn bs).map (pre q) = d ++ [(q, (bs.length : Int))] ++ (gat Tr.kn bs).map (pre q) by rw [List.append_assoc]; rfl]
    rw [← g0]
    -- the first row
    obtain ⟨r0, hr0⟩ := rws_ne _ w
    have ne : (gat Tr.rws bs).map (pre q) ≠ [] := fun z => by
      rw [← all] at z
      have z := List.map_eq_nil_iff.mp z
      rw [z] at hr0; simp at hr0
    cases hl : (gat Tr.rws bs).map (pre q) with
    | nil => exact absurd hl ne
    | cons y ys =>
      have hy : y ∈ (gat Tr.rws bs).map (pre q) := by rw [hl]; exact List.mem_cons_self ..
      obtain ⟨y0, _, ey⟩ := List.mem_map.mp hy
      rw [List.foldl_cons, List.foldl_cons]
      have := stps_mid (R := R) (d := d) (q := q) (x := y.1) (by rw [← ey]; exact List.prefix_append _ _) dq (by omega) (fun z => fq _ z (List.prefix_refl _))
      rw [hcq] at this
      exact congrArg (fun z => ys.foldl (rgo R) z) this
/-- the knots that the law counts are the tree's -/
theorem lk_kn {t : Tr} (w : Wf t) : lk t.rws = t.kn := by
  have := lk_sub (R := t.rws) t w [] [] (fun x m => Iff.rfl) (fun p hp hl => by simp at hl) (fun r hr => by simp at hr)
  have e : ∀ l : List Row, l.map (pre []) = l := fun l => by
    conv => rhs; rw [← List.map_id l]
    rfl
  rw [e, e] at this
  exact this
end RT
namespace RT
open PySem PySem.Spec PyProof.Rows L2
theorem rows_nolist : ∀ R : List Row, nolists (R.map rowD) = true
  | [] => rfl
  | x :: r => by
    rw [List.map_cons]
    simp [nolists, rowD, nolist, rows_nolist r]
theorem none_back {H H' : Hp} {L : Addr} (s : Same H H') (h : H' L = none) : H L = none := by
  cases e : H L with
  | none => rfl
  | some o => have := s _ _ e; rw [h] at this; cases this
/-- a list put behind a list -/
theorem list_grow {K : PySem.W.Frag} {H H1 H2 : Hp} {L : Addr} {acc zs : List V} {A B : List Row} (nL : H L = none) (s1 : Same H H1) (s2 : Same H1 H2) (hL : H1 L = some (.lst acc)) (ha : DpAll K H1 acc (A.map rowD)) (hz : DpAll K H2 zs (B.map rowD)) :
    Same H (upd H2 L (.lst (acc ++ zs))) ∧ (upd H2 L (.lst (acc ++ zs))) L = some (.lst (acc ++ zs)) ∧ DpAll K (upd H2 L (.lst (acc ++ zs))) (acc ++ zs) ((A ++ B).map rowD) := by
  have k := keep_upd (s2 _ _ hL) (.lst (acc ++ zs))
  refine ⟨same_off nL (s1.trans s2) _, upd_same, ?_⟩
  rw [List.map_append]
  exact DpAll_app (DpAll_keep k (rows_nolist _) (DpAll_same s2 ha)) (DpAll_keep k (rows_nolist _) hz)
theorem fm_true {α : Type} {l : List α} {g : α → PyData} : fm l (fun _ => true) g l.length = l.map g := by
  rw [fm_all]
  rw [List.filter_eq_self.mpr fun _ _ => rfl]
end RT
namespace RT
open PySem PySem.Spec PyProof.Rows L2
theorem room65 {k : Nat} {A : Around} (r : Room k A) : A.units + 65 < cLine := by have := r.un; omega
theorem rowD_eqv (a b : Row) : PyData.eqv (rowD a) (rowD b) = decide (a = b) := by
  have e : PyData.eqv (rowD a) (rowD b) = ((st a.1 == st b.1) && ((a.2 == b.2) && true)) := by simp only [rowD, PyData.eqv, PyData.eqvAll]
  rw [e, Bool.and_true]
  by_cases h : a = b
  · subst h; simp
  · rw [decide_eq_false h, Bool.and_eq_false_iff]
    by_cases h1 : a.1 = b.1
    · exact .inr (beq_eq_false_iff_ne.mpr fun h2 => h (Prod.ext h1 h2))
    · exact .inl (beq_eq_false_iff_ne.mpr fun h2 => h1 (st_inj h2))
theorem any_rowD (d : List Row) (r : Row) : ((d.map rowD).any fun z => PyData.eqv z (rowD r)) = decide (r ∈ d) := by
  rw [Bool.eq_iff_iff, List.any_eq_true, decide_eq_true_eq]
  constructor
  · rintro ⟨z, hz, e⟩
    obtain ⟨x, hx, rfl⟩ := List.mem_map.mp hz
    rw [rowD_eqv, decide_eq_true_eq] at e
    rw [← e]; exact hx
  · intro h
    exact ⟨rowD r, List.mem_map.mpr ⟨r, h, rfl⟩, by rw [rowD_eqv]; exact decide_eq_true rfl⟩
theorem rowD_shaped {r : Row} (h : ∀ c ∈ r.1, c ∈ signTab) : SeqAt.shaped (rowD r) = true := by
  unfold SeqAt.shaped
  rw [show PyData.canLay0 (rowD r) = true by simp [rowD, PyData.canLay0, PyData.canLayAll0, st_ok h], decide_eq_true (show PyData.depth (rowD r) ≤ 64 by simp only [rowD, PyData.depth, PyData.depthAll]; omega)]
  rfl
theorem strs_of {K : PySem.W.Frag} {H : Hp} : ∀ {acc : List V} {zs : List Str}, DpAll K H acc (zs.map PyData.str) → acc = zs.map V.str
  | _, [], h => DpAll_nil h
  | _, z :: zs, h => by
    obtain ⟨x, xs, rfl, hx, hr⟩ := DpAll_cons h
    cases Dp_str hx
    rw [strs_of hr]; rfl
/-- texts of the signs -/
def Signs (d : List Row) : Prop := ∀ r ∈ d, ∀ c ∈ r.1, c ∈ signTab
theorem stp_ok {R d : List Row} {p : List Nat} (hp : ∀ c ∈ p, c ∈ signTab) (hd : Signs d) : Signs (stp R d p) ∧ (stp R d p).length ≤ d.length + 1 := by
  unfold stp
  split
  · refine ⟨fun r hr => ?_, by rw [List.length_append]; exact Nat.le_refl _⟩
    rcases List.mem_append.mp hr with m | m
    · exact hd r m
    · rw [List.mem_singleton.mp m]; exact hp
  · exact ⟨hd, by omega⟩
theorem stps_ok {R d : List Row} {x : List Nat} (hx : ∀ c ∈ x, c ∈ signTab) (hd : Signs d) : ∀ k, Signs (stps R x d k) ∧ (stps R x d k).length ≤ d.length + k
  | 0 => ⟨hd, Nat.le_refl _⟩
  | k + 1 => by
    obtain ⟨h1, h2⟩ := stps_ok hx hd k
    rw [stps_succ]
    obtain ⟨h3, h4⟩ := stp_ok (R := R) (p := x.take k) (fun c hc => hx c (List.mem_of_mem_take hc)) h1
    exact ⟨h3, by omega⟩
theorem stp_yes {R d : List Row} {p : List Nat} (h : 1 < cnt R p) (n : (p, (cnt R p : Int)) ∉ d) : stp R d p = d ++ [(p, (cnt R p : Int))] := if_pos ⟨h, n⟩
def spLKnots (K : PySem.W.Frag) : Sp := fun vs H Q _ => ∃ (v : V) (R : List Row), vs = [v] ∧ Dp K H v (.list (R.map rowD)) ∧ R.length ≤ 40 ∧ (∀ r ∈ R, r.1.length ≤ 40 ∧ ∀ c ∈ r.1, c ∈ signTab) ∧
  ∀ (L : Addr) (acc : List V) (H' : Hp), H L = none → Same H H' → H' L = some (.lst acc) → DpAll K H' acc ((lk R).map rowD) → Q (.ref L) H'
end RT
namespace RT
open PySem PySem.Spec PyProof.Rows L2
theorem rowsOf_rws {o : Option Tr} {R : List Row} (h : Treed o R) : rowsOf Tr.rws o = R := by
  cases o with
  | none => exact (show R = [] from h).symm
  | some t => exact h.2
theorem lk_of {o : Option Tr} {R : List Row} (h : Treed o R) : lk R = rowsOf Tr.kn o := by
  cases o with
  | none =>
    have e : R = [] := h
    rw [e]; rfl
  | some t =>
    have := lk_kn h.1
    rw [h.2] at this; exact this
theorem rows_plain {R : List Row} (h : R.length ≤ 10000) : plain (.list (R.map rowD)) = true ∧ dep (.list (R.map rowD)) ≤ 3 := by
  have h1 : ∀ R : List Row, plains (R.map rowD) = true ∧ deps (R.map rowD) ≤ 2 := fun R => by
    induction R with
    | nil => exact ⟨rfl, by simp [deps]⟩
    | cons x r ih =>
      rw [List.map_cons]
      refine ⟨by simp [plains, rowD, plain, ih.1], ?_⟩
      have := ih.2
      simp [deps, rowD, dep]; omega
  obtain ⟨a, b⟩ := h1 R
  refine ⟨by simp [plain, a, h], ?_⟩
  show deps (R.map rowD) + 1 ≤ 3
  omega
theorem rows_eqv (R : List Row) : PyData.eqv (.list (R.map rowD)) (.list (R.map rowD)) = true := by
  show PyData.eqvAll (R.map rowD) (R.map rowD) = true
  induction R with
  | nil => rfl
  | cons x r ih =>
    rw [List.map_cons]
    show (PyData.eqv (rowD x) (rowD x) && PyData.eqvAll (r.map rowD) (r.map rowD)) = true
    rw [rowD_eqv, ih]; simp
theorem kn_good {o : Option Tr} {R : List Row} (h : Treed o R) (g : Good R) : Signs (rowsOf Tr.kn o) ∧ (rowsOf Tr.kn o).length ≤ 300 ∧ ∀ r ∈ rowsOf Tr.kn o, r.2 ≠ 1 := by
  cases o with
  | none => exact ⟨fun r hr => by simp [rowsOf] at hr, by simp [rowsOf], fun r hr => by simp [rowsOf] at hr⟩
  | some t =>
    have h1 := kn_in t h.1
    have h2 := many_le t h.1
    refine ⟨fun r hr c hc => ?_, ?_, fun r hr => (h1 r hr).2⟩
    · obtain ⟨⟨x, m, hx, hp⟩, _⟩ := h1 r hr
      rw [h.2] at hx
      exact (g.2.2 _ hx).2.1 c (hp.subset hc)
    · show t.kn.length ≤ 300
      have := g.2.1
      rw [kn_len]; rw [h.2] at h2; omega
theorem cut_last (xs : List V) (x : V) : cutV (xs ++ [x]) none (some (-1)) = xs := by
  show (((xs ++ [x]).drop 0).take (((-1 : Int) + (((xs ++ [x]).length : Nat) : Int)).toNat - 0)) = xs
  have e : ((-1 : Int) + (((xs ++ [x]).length : Nat) : Int)).toNat - 0 = xs.length := by rw [List.length_append, List.length_singleton]; omega
  rw [e, List.drop_zero, List.take_left]
theorem upd_other {H : Hp} {p q : Addr} {o : HO} {u : HO} (h : H q = some u) (n : H p = none) : upd H p o q = some u := by
  rw [upd_ne (ne_of_none h n)]; exact h
end RT

/-! branches cut, joined, moved: rows -/
namespace RT
open PySem PySem.Spec PyProof.Rows L2
/-- the name begins so -/
def tk (b : List Nat) (r : Row) : Bool := decide (r.1.take b.length = b)
def dropR (b : List Nat) (r : Row) : Row := (r.1.drop b.length, r.2)
def stayR (b : List Nat) (R : List Row) : List Row := R.filter fun r => !tk b r
def goneR (b : List Nat) (R : List Row) : List Row := (R.filter (tk b)).map (dropR b)
theorem tk_iff {b : List Nat} {r : Row} : tk b r = true ↔ b <+: r.1 := by
  unfold tk
  rw [decide_eq_true_eq, List.prefix_iff_eq_take]
  exact eq_comm
theorem tk_split {b : List Nat} {r : Row} (h : tk b r = true) : r.1 = b ++ (dropR b r).1 := by
  obtain ⟨y, hy⟩ := tk_iff.mp h
  unfold dropR
  show r.1 = b ++ r.1.drop b.length
  rw [← hy, List.drop_left]
theorem stay_up {b : List Nat} {R : List Row} (h : Up R) : Up (stayR b R) := h.filter _
theorem gone_up {b : List Nat} {R : List Row} (h : Up R) : Up (goneR b R) := by
  refine List.pairwise_map.mpr (List.Pairwise.imp_of_mem (fun {x y} hx hy hlt => ?_) (h.filter _))
  have ex := tk_split (List.mem_filter.mp hx).2
  have ey := tk_split (List.mem_filter.mp hy).2
  rw [ex, ey] at hlt
  exact (app_lt b).mp hlt
theorem mem_gone {b y : List Nat} {m : Int} {R : List Row} : (y, m) ∈ goneR b R ↔ (b ++ y, m) ∈ R := by
  unfold goneR
  rw [List.mem_map]
  constructor
  · rintro ⟨r, hr, e⟩
    obtain ⟨h1, h2⟩ := List.mem_filter.mp hr
    have e1 := tk_split h2
    have : r = (b ++ y, m) := by
      injection e with e2 e3
      exact Prod.ext (by rw [e1]; show b ++ r.1.drop b.length = b ++ y; rw [e2]) e3
    rw [← this]; exact h1
  · intro h
    refine ⟨(b ++ y, m), List.mem_filter.mpr ⟨h, tk_iff.mpr (List.prefix_append b y)⟩, ?_⟩
    unfold dropR
    show ((b ++ y).drop b.length, m) = _
    rw [List.drop_left]
theorem mem_stay {b : List Nat} {r : Row} {R : List Row} : r ∈ stayR b R ↔ r ∈ R ∧ ¬ b <+: r.1 := by
  unfold stayR
  rw [List.mem_filter]
  refine and_congr Iff.rfl ?_
  rw [← tk_iff]
  cases tk b r <;> simp
theorem stay_good {b : List Nat} {R : List Row} (g : Good R) : Good (stayR b R) :=
  ⟨stay_up g.1, Nat.le_trans (List.length_filter_le _ _) g.2.1, fun r hr => g.2.2 r (mem_stay.mp hr).1⟩
theorem gone_good {b : List Nat} {R : List Row} (g : Good R) : Good (goneR b R) := by
  refine ⟨gone_up g.1, ?_, fun r hr => ?_⟩
  · unfold goneR
    rw [List.length_map]
    exact Nat.le_trans (List.length_filter_le _ _) g.2.1
  · have := g.2.2 _ (mem_gone.mp hr)
    obtain ⟨h1, h2, h3⟩ := this
    have h1 : (b ++ r.1).length ≤ 40 := h1
    rw [List.length_append] at h1
    exact ⟨by omega, fun c hc => h2 c (List.mem_append_right _ hc), h3⟩
/-- what the law's own tree wants of good rows -/
theorem good_tree {R : List Row} (g : Good R) : Up R ∧ R.length ≤ 4000 ∧ (∀ r ∈ R, (∀ c ∈ r.1, c ∈ signTab) ∧ r.1.length ≤ 1000) ∧ (R.length ≤ 1 ∨ ∀ r ∈ R, r.1.length + 2 ≤ 43) :=
  ⟨g.1, by have := g.2.1; omega, fun r hr => ⟨(g.2.2 r hr).2.1, by have := (g.2.2 r hr).1; omega⟩, .inr fun r hr => by have := (g.2.2 r hr).1; omega⟩
theorem good_small {o : Option Tr} {R : List Row} (h : Treed o R) (g : Good R) : plain (oD o) = true ∧ dep (oD o) ≤ 123 := by
  obtain ⟨a, b⟩ := treed_small h (by have := g.2.1; omega) fun r hr => (g.2.2 r hr).1
  exact ⟨a, by omega⟩
/-! ### promises -/
def spCut (K : PySem.W.Frag) : Sp := fun vs H Q _ => ∃ (v : V) (o : Option Tr) (b : List Nat) (R : List Row), vs = [v, .str (st b)] ∧ Dp K H v (oD o) ∧ Treed o R ∧ FitsO o ∧ dpt o < 50 ∧ b.length ≤ 1000 ∧
  ∀ (u : V) (o1 o2 : Option Tr) (H' : Hp), Treed o1 (stayR b R) → Treed o2 (goneR b R) → Same H H' → Dp K H' u (.tuple [oD o1, oD o2]) → Q u H'
end RT
namespace RT
open PySem PySem.Spec PyProof.Rows L2
/-- good rows, at most N -/
def GR (N : Nat) (R : List Row) : Prop := Up R ∧ R.length ≤ N ∧ ∀ r ∈ R, GoodR r
theorem gr_mono {N M : Nat} {R : List Row} (g : GR N R) (h : N ≤ M) : GR M R := ⟨g.1, Nat.le_trans g.2.1 h, g.2.2⟩
theorem gr_tree {N : Nat} {R : List Row} (g : GR N R) (h : N ≤ 4000) : Up R ∧ R.length ≤ 4000 ∧ (∀ r ∈ R, (∀ c ∈ r.1, c ∈ signTab) ∧ r.1.length ≤ 1000) ∧ (R.length ≤ 1 ∨ ∀ r ∈ R, r.1.length + 2 ≤ 43) :=
  ⟨g.1, by have := g.2.1; omega, fun r hr => ⟨(g.2.2 r hr).2.1, by have := (g.2.2 r hr).1; omega⟩, .inr fun r hr => by have := (g.2.2 r hr).1; omega⟩
theorem gr_small {N : Nat} {o : Option Tr} {R : List Row} (h : Treed o R) (g : GR N R) (hN : N ≤ 4000) : plain (oD o) = true ∧ dep (oD o) ≤ 123 := by
  obtain ⟨a, b⟩ := treed_small h (by have := g.2.1; omega) fun r hr => (g.2.2 r hr).1
  exact ⟨a, by omega⟩
theorem gr_fits {N : Nat} {o : Option Tr} {R : List Row} (h : Treed o R) (g : GR N R) (hN : N ≤ 4000) : FitsO o ∧ dpt o < 50 := by
  refine ⟨treed_fits h (by have := g.2.1; omega) (fun r hr => by have := (g.2.2 r hr).1; omega), ?_⟩
  cases o with
  | none => show 0 < 50; decide
  | some t =>
    have := deep_le t h.1 40 fun x m hx => (g.2.2 (x, m) (by rw [← h.2]; exact hx)).1
    show t.deep < 50
    omega
/-- a name of these rows -/
def inn (R : List Row) (x : List Nat) : Bool := R.any fun r => decide (r.1 = x)
theorem inn_iff {R : List Row} {x : List Nat} : inn R x = true ↔ ∃ m, (x, m) ∈ R := by
  unfold inn
  rw [List.any_eq_true]
  constructor
  · rintro ⟨r, hr, e⟩
    have e : r.1 = x := of_decide_eq_true e
    exact ⟨r.2, by rw [← e]; exact hr⟩
  · rintro ⟨m, h⟩
    exact ⟨_, h, decide_eq_true rfl⟩
def txts (R : List Row) : List V := R.map fun r => V.str (st r.1)
theorem txts_flat (R : List Row) : (txts R).all flatV = true := by
  unfold txts
  rw [List.all_map]
  exact List.all_eq_true.mpr fun _ _ => rfl
theorem inn_V (R : List Row) (x : List Nat) : inV (.str (st x)) (txts R) = inn R x := by
  unfold txts inn
  induction R with
  | nil => rfl
  | cons r R ih =>
    have e : (st r.1 == st x) = decide (r.1 = x) := by
      rw [Bool.eq_iff_iff, beq_iff_eq, decide_eq_true_eq]
      exact ⟨st_inj, fun h => by rw [h]⟩
    show ((st r.1 == st x) || inV (.str (st x)) (R.map fun r => V.str (st r.1))) = _
    rw [e, ih]
    rfl
/-- the rows of two trees -/
def Both (R S T : List Row) : Prop := Up T ∧ ∀ r, r ∈ T ↔ r ∈ R ∨ r ∈ S
def Share (R S : List Row) : Prop := ∃ x m k, (x, m) ∈ R ∧ (x, k) ∈ S
/-- what joined wants of a tree -/
def InJ (K : PySem.W.Frag) (H : Hp) (v : V) (o : Option Tr) (R : List Row) : Prop := Dp K H v (oD o) ∧ Treed o R ∧ FitsO o ∧ dpt o < 50 ∧ R.length ≤ 1000 ∧ ∀ r ∈ R, r.1.length ≤ 200 ∧ ∀ c ∈ r.1, c < 127
def spJoined (K : PySem.W.Frag) (CN : Addr) : Sp := fun vs H Q E => ∃ (v w : V) (o1 o2 : Option Tr) (R S : List Row), vs = [v, w] ∧ InJ K H v o1 R ∧ InJ K H w o2 S ∧
  (Share R S → ∀ H', Same H H' → E (.ref CN) none H') ∧ (¬ Share R S → ∀ (o : Option Tr) (T : List Row) (u : V) (H' : Hp), Both R S T → Treed o T → Same H H' → Dp K H' u (oD o) → Q u H')
def spRefusedJ (K : PySem.W.Frag) : Sp := fun vs H Q _ => ∃ (v w : V) (o1 o2 : Option Tr) (R S : List Row), vs = [v, w] ∧ InJ K H v o1 R ∧ InJ K H w o2 S ∧ Share R S ∧ ∀ H', Same H H' → Q (.bl true) H'
end RT
namespace RT
open PySem PySem.Spec PyProof.Rows L2
theorem txts_of {K : PySem.W.Frag} {H : Hp} {acc : List V} {R : List Row} (h : DpAll K H acc (R.map fun r => PyData.str (st r.1))) : acc = txts R := by
  induction R generalizing acc with
  | nil => exact DpAll_nil h
  | cons r R ih =>
    obtain ⟨x, xs, rfl, hx, hr⟩ := DpAll_cons h
    cases Dp_str hx
    rw [ih hr]; rfl
theorem names_both {R S : List Row} (h1 : Names R) (h2 : Names S) (n : ∀ r ∈ S, inn R r.1 = false) : Names (R ++ S) := by
  unfold Names at *
  rw [List.map_append]
  refine List.nodup_append.mpr ⟨h1, h2, fun x hx y hy e => ?_⟩
  obtain ⟨r, hr, rfl⟩ := List.mem_map.mp hx
  obtain ⟨s, hs, rfl⟩ := List.mem_map.mp hy
  have : inn R s.1 = true := inn_iff.mpr ⟨r.2, by rw [← e]; exact hr⟩
  rw [n s hs] at this; cases this
theorem share_iff {R S : List Row} : Share R S ↔ ∃ r ∈ S, inn R r.1 = true := by
  constructor
  · rintro ⟨x, m, k, h1, h2⟩; exact ⟨_, h2, inn_iff.mpr ⟨m, h1⟩⟩
  · rintro ⟨r, hr, e⟩
    obtain ⟨m, hm⟩ := inn_iff.mp e
    exact ⟨r.1, m, r.2, hm, hr⟩
theorem share_symm {R S : List Row} (h : Share R S) : Share S R := by
  obtain ⟨x, m, k, h1, h2⟩ := h
  exact ⟨x, k, m, h2, h1⟩
theorem gr_perm {N : Nat} {R S : List Row} (p : S.Perm R) (u : Up S) (hl : R.length ≤ N) (h : ∀ r ∈ R, GoodR r) : GR N S := ⟨u, by rw [p.length_eq]; exact hl, fun r hr => h r (p.mem_iff.mp hr)⟩
theorem gr_inJ {K : PySem.W.Frag} {H : Hp} {v : V} {o : Option Tr} {R : List Row} {N : Nat} (h : Dp K H v (oD o)) (t : Treed o R) (g : GR N R) (hN : N ≤ 1000) : InJ K H v o R := by
  obtain ⟨f1, f2⟩ := gr_fits t g (by omega)
  exact ⟨h, t, f1, f2, by have := g.2.1; omega, fun r hr => ⟨by have := (g.2.2 r hr).1; omega, fun c hc => tab_ok c ((g.2.2 r hr).2.1 c hc)⟩⟩
end RT

/-! questions to trees: what plain rows tell -/
namespace RT
open PySem PySem.Spec PyProof.Rows L2
/-- texts, each once, as first met -/
def dd1 (ks : List (List Nat)) (a : List Nat) : List (List Nat) := if a ∈ ks then ks else ks ++ [a]
def dd (l : List (List Nat)) : List (List Nat) := l.foldl dd1 []
theorem dd_snoc (l : List (List Nat)) (a : List Nat) : dd (l ++ [a]) = dd1 (dd l) a := by unfold dd; rw [List.foldl_append]; rfl
theorem dd_ok : ∀ n (l : List (List Nat)), l.length = n → (∀ x, x ∈ dd l ↔ x ∈ l) ∧ (dd l).length ≤ n ∧ (l.Pairwise (fun x y => ¬ y < x) → (dd l).Pairwise fun x y => x < y)
  | 0, l, h => by
    have : l = [] := List.length_eq_zero_iff.mp h
    subst this
    exact ⟨fun x => Iff.rfl, Nat.le_refl _, fun _ => List.Pairwise.nil⟩
  | n + 1, l, h => by
    have hne : l ≠ [] := fun e => by rw [e] at h; simp at h
    have e := List.dropLast_concat_getLast hne
    generalize l.dropLast = a, l.getLast hne = z at e
    subst e
    obtain ⟨i1, i2, i3⟩ := dd_ok n a (by simpa using h)
    rw [dd_snoc]
    unfold dd1
    by_cases m : z ∈ dd a
    · rw [if_pos m]
      refine ⟨fun x => ?_, by omega, fun p => i3 (List.pairwise_append.mp p).1⟩
      rw [i1, List.mem_append, List.mem_singleton]
      exact ⟨.inl, fun q => q.elim id fun e => by rw [e]; exact (i1 z).mp m⟩
    · rw [if_neg m]
      refine ⟨fun x => by rw [List.mem_append, List.mem_append, i1], by rw [List.length_append]; simp; omega, fun p => ?_⟩
      obtain ⟨p1, _, p2⟩ := List.pairwise_append.mp p
      refine List.pairwise_append.mpr ⟨i3 p1, List.pairwise_singleton _ _, fun x hx y hy => ?_⟩
      have ey : y = z := List.mem_singleton.mp hy
      rw [ey]
      have h1 := p2 x ((i1 x).mp hx) z (List.mem_singleton.mpr rfl)
      exact Decidable.byContradiction fun h2 => m (by rw [← lt_tri h2 h1]; exact hx)
/-- rising texts with the same members -/
theorem rise_ext {a b : List (List Nat)} (ha : a.Pairwise fun x y => x < y) (hb : b.Pairwise fun x y => x < y) (h : ∀ x, x ∈ a ↔ x ∈ b) : a = b := by
  have inj : ∀ l : List (List Nat), (l.map fun x => ((x, 0) : Row)).map (·.1) = l := fun l => by
    rw [List.map_map]
    conv => rhs; rw [← List.map_id l]
    rfl
  have e : a.map (fun x => ((x, 0) : Row)) = b.map (fun x => ((x, 0) : Row)) := by
    refine up_ext (List.pairwise_map.mpr ha) (List.pairwise_map.mpr hb) fun ⟨x, m⟩ => ?_
    rw [List.mem_map, List.mem_map]
    constructor
    · rintro ⟨y, hy, e⟩; exact ⟨y, (h y).mp hy, e⟩
    · rintro ⟨y, hy, e⟩; exact ⟨y, (h y).mpr hy, e⟩
  rw [← inj a, e, inj b]
/-- the rows under a beginning -/
def below (b : List Nat) (R : List Row) : List Row := R.filter (tk b)
/-- their longest common beginning -/
def cmOf (R : List Row) : Option (List Nat) := match R.head?, R.getLast? with
  | some a, some b => some (a.1.take (lcp a.1 b.1))
  | _, _ => none
def optT : Option (List Nat) → V
  | none => .non
  | some x => .str (st x)
def optTD : Option (List Nat) → PyData
  | none => .none
  | some x => .str (st x)
theorem Dp_optT {K : PySem.W.Frag} {H : Hp} (o : Option (List Nat)) : Dp K H (optT o) (optTD o) := by
  cases o with
  | none => exact .non
  | some x => exact .str _
theorem optTD_ok (o : Option (List Nat)) : plain (optTD o) = true ∧ dep (optTD o) = 1 := by cases o <;> exact ⟨rfl, rfl⟩
def lgs (R : List Row) (x : List Nat) : Option (List Nat) := ((R.filter fun r => decide (x.take r.1.length = r.1)).getLast?).map (·.1)
def aft (R : List Row) (x : List Nat) : Option (List Nat) := ((R.filter fun r => decide (x < r.1)).head?).map (·.1)
def txD (s : List Nat) : PyData := .str (st s)
/-- what can come next -/
def Nxt (b : List Nat) (R : List Row) (ss : List (List Nat)) : Prop := (ss.Pairwise fun x y => x < y) ∧ ∀ s, s ∈ ss ↔ ∃ r ∈ below b R, sg b.length r = s
theorem nxt_dd {b : List Nat} {R : List Row} (up : Up R) : Nxt b R (dd ((below b R).map (sg b.length))) := by
  obtain ⟨i1, _, i3⟩ := dd_ok _ ((below b R).map (sg b.length)) rfl
  refine ⟨i3 (List.pairwise_map.mpr (List.Pairwise.imp_of_mem (fun {x y} hx hy h => ?_) (up.filter _))), fun s => by rw [i1, List.mem_map]⟩
  exact sg_mono (tk_iff.mp (List.mem_filter.mp hx).2) (tk_iff.mp (List.mem_filter.mp hy).2) h
theorem nxt_one {b : List Nat} {R : List Row} {s t : List (List Nat)} (h1 : Nxt b R s) (h2 : Nxt b R t) : s = t := rise_ext h1.1 h2.1 fun x => by rw [h1.2, h2.2]
theorem below_good {b : List Nat} {R : List Row} (g : Good R) : Good (below b R) := ⟨g.1.filter _, Nat.le_trans (List.length_filter_le _ _) g.2.1, fun r hr => g.2.2 r (List.mem_filter.mp hr).1⟩
/-! ### promises -/
/-- a tree of good rows, as the asked functions take it -/
def InA (K : PySem.W.Frag) (H : Hp) (v : V) (o : Option Tr) (R : List Row) : Prop := Dp K H v (oD o) ∧ Treed o R ∧ Good R
def newL (K : PySem.W.Frag) (H : Hp) (ds : List PyData) (Q : VK) : Prop := ∀ (L : Addr) (acc : List V) (H' : Hp), H L = none → Same H H' → H' L = some (.lst acc) → DpAll K H' acc ds → Q (.ref L) H'
def spUnder (K : PySem.W.Frag) : Sp := fun vs H Q _ => ∃ (v : V) (o : Option Tr) (R : List Row) (b : List Nat), vs = [v, .str (st b)] ∧ InA K H v o R ∧ b.length ≤ 300 ∧ newL K H ((below b R).map rowD) Q
def spMany (K : PySem.W.Frag) : Sp := fun vs H Q _ => ∃ (v : V) (o : Option Tr) (R : List Row) (b : List Nat), vs = [v, .str (st b)] ∧ InA K H v o R ∧ b.length ≤ 300 ∧ ∀ H', Same H H' → Q (.int ((below b R).length : Nat)) H'
def spCommonOf (K : PySem.W.Frag) : Sp := fun vs H Q _ => ∃ (v : V) (o : Option Tr) (R : List Row) (b : List Nat), vs = [v, .str (st b)] ∧ InA K H v o R ∧ b.length ≤ 300 ∧ ∀ H', Same H H' → Q (optT (cmOf (below b R))) H'
def spNext (K : PySem.W.Frag) : Sp := fun vs H Q _ => ∃ (v : V) (o : Option Tr) (R : List Row) (b : List Nat), vs = [v, .str (st b)] ∧ InA K H v o R ∧ b.length ≤ 300 ∧ ∀ ss, Nxt b R ss → newL K H (ss.map txD) Q
def spLongest (K : PySem.W.Frag) : Sp := fun vs H Q _ => ∃ (v : V) (o : Option Tr) (R : List Row) (x : List Nat), vs = [v, .str (st x)] ∧ InA K H v o R ∧ x.length ≤ 300 ∧ ∀ H', Same H H' → Q (optT (lgs R x)) H'
def spAfter (K : PySem.W.Frag) : Sp := fun vs H Q _ => ∃ (v : V) (o : Option Tr) (R : List Row) (x : List Nat), vs = [v, .str (st x)] ∧ InA K H v o R ∧ x.length ≤ 300 ∧ ∀ H', Same H H' → Q (optT (aft R x)) H'
def spShared (K : PySem.W.Frag) : Sp := fun vs H Q _ => ∃ (v : V) (R : List Row), vs = [v] ∧ Dp K H v (.list (R.map rowD)) ∧ Good R ∧ ∀ H', Same H H' → Q (optT (cmOf R)) H'
def spSigns (K : PySem.W.Frag) : Sp := fun vs H Q _ => ∃ (v : V) (R : List Row) (k : Nat), vs = [v, .int k] ∧ Dp K H v (.list (R.map rowD)) ∧ Good R ∧ newL K H ((dd (R.map (sg k))).map txD) Q
end RT
namespace RT
open PySem PySem.Spec PyProof.Rows L2
theorem inV_txt (d : List (List Nat)) (z : List Nat) : inV (V.str (st z)) (d.map fun s => V.str (st s)) = decide (z ∈ d) := by
  induction d with
  | nil => rfl
  | cons y d ih =>
    show ((st y == st z) || inV (.str (st z)) (d.map fun s => V.str (st s))) = _
    rw [ih]
    rw [Bool.eq_iff_iff, Bool.or_eq_true, beq_iff_eq, decide_eq_true_eq, decide_eq_true_eq, List.mem_cons]
    exact or_congr ⟨fun h => (st_inj h).symm, fun h => by rw [h]⟩ Iff.rfl
end RT
namespace RT
open PySem PySem.Spec PyProof.Rows L2
def tys (F : List Row) : List PyData := F.map fun r => .str (st r.1)
theorem tys_shaped {F : List Row} (h : ∀ r ∈ F, ∀ c ∈ r.1, c ∈ signTab) : SeqAt.shaped (.list (tys F)) = true := by
  have h1 : ∀ F : List Row, (∀ r ∈ F, ∀ c ∈ r.1, c ∈ signTab) → PyData.canLayAll0 (tys F) = true ∧ PyData.depthAll (tys F) ≤ 1 := fun F h => by
    induction F with
    | nil => exact ⟨rfl, by simp [tys, PyData.depthAll]⟩
    | cons x r ih =>
      obtain ⟨i1, i2⟩ := ih fun a ha => h a (List.mem_cons_of_mem _ ha)
      have hx := st_ok (h x (List.mem_cons_self ..))
      have e : tys (x :: r) = .str (st x.1) :: tys r := rfl
      rw [e]
      constructor
      · simp [PyData.canLayAll0, PyData.canLay0, hx, i1]
      · simp only [PyData.depthAll, PyData.depth]; omega
  obtain ⟨a, b⟩ := h1 F h
  unfold SeqAt.shaped
  rw [show PyData.canLay0 (.list (tys F)) = true by simpa [PyData.canLay0] using a]
  rw [decide_eq_true (show PyData.depth (.list (tys F)) ≤ 64 by simp only [PyData.depth]; omega)]
  rfl
theorem tys_Dp {K : PySem.W.Frag} {H : Hp} : ∀ F : List Row, DpAll K H (txts F) (tys F)
  | [] => .nil
  | _ :: r => .cons (.str _) (tys_Dp r)
theorem txD_plain (l : List (List Nat)) (h : l.length ≤ 10000) : plain (.list (l.map txD)) = true ∧ dep (.list (l.map txD)) ≤ 3 := by
  have h1 : plains (l.map txD) = true ∧ deps (l.map txD) ≤ 1 := by
    clear h
    induction l with
    | nil => exact ⟨rfl, by simp [deps]⟩
    | cons x r ih =>
      refine ⟨by simp [plains, txD, plain, ih.1], ?_⟩
      have := ih.2
      simp [deps, txD, dep]; omega
  obtain ⟨a, b⟩ := h1
  refine ⟨by simp [plain, a, h], ?_⟩
  show deps (l.map txD) + 1 ≤ 3
  omega
theorem txs_nolist (l : List (List Nat)) : nolists (l.map txD) = true := by
  induction l with
  | nil => rfl
  | cons x r ih => simp [nolists, txD, nolist, ih]
theorem txts_last {F : List Row} {r : Row} (h : F.getLast? = some r) : atI (txts F ++ [V.str (st [])]) ((((txts F).length : Nat) : Int) - 1) = some (.str (st r.1)) := by
  obtain ⟨ys, rfl⟩ := List.getLast?_eq_some_iff.mp h
  have e : ((((txts (ys ++ [r])).length : Nat) : Int) - 1) = ((ys.length : Nat) : Int) := by unfold txts; rw [List.length_map, List.length_append]; simp
  rw [e]
  refine atI_nat ?_
  unfold txts
  rw [List.map_append, List.append_assoc, List.getElem?_append_right (by rw [List.length_map]; exact Nat.le_refl _), List.length_map]
  simp
end RT

/-! branches moved: names of up to M signs -/
namespace RT
open PySem PySem.Spec PyProof.Rows L2
/-- rows of names of at most M signs, at most N of them -/
def GM (M N : Nat) (R : List Row) : Prop := Up R ∧ R.length ≤ N ∧ ∀ r ∈ R, r.1.length ≤ M ∧ ∀ c ∈ r.1, c ∈ signTab
theorem gm_of {N : Nat} {R : List Row} (g : GR N R) : GM 40 N R := ⟨g.1, g.2.1, fun r hr => ⟨(g.2.2 r hr).1, (g.2.2 r hr).2.1⟩⟩
theorem gm_mono {M N M' N' : Nat} {R : List Row} (g : GM M N R) (h : M ≤ M') (h' : N ≤ N') : GM M' N' R := ⟨g.1, Nat.le_trans g.2.1 h', fun r hr => ⟨Nat.le_trans (g.2.2 r hr).1 h, (g.2.2 r hr).2⟩⟩
theorem gm_tree {R : List Row} (g : GM 80 400 R) : Up R ∧ R.length ≤ 4000 ∧ (∀ r ∈ R, (∀ c ∈ r.1, c ∈ signTab) ∧ r.1.length ≤ 1000) ∧ (R.length ≤ 1 ∨ ∀ r ∈ R, r.1.length + 2 ≤ 83) :=
  ⟨g.1, by have := g.2.1; omega, fun r hr => ⟨(g.2.2 r hr).2, by have := (g.2.2 r hr).1; omega⟩, .inr fun r hr => by have := (g.2.2 r hr).1; omega⟩
theorem gm_small {o : Option Tr} {R : List Row} (h : Treed o R) (g : GM 80 400 R) : plain (oD o) = true ∧ dep (oD o) ≤ 243 := by
  obtain ⟨a, b⟩ := treed_small h (by have := g.2.1; omega) fun r hr => (g.2.2 r hr).1
  exact ⟨a, by omega⟩
theorem gm_fits {o : Option Tr} {R : List Row} (h : Treed o R) (g : GM 80 400 R) : FitsO o ∧ dpt o < 100 := by
  refine ⟨treed_fits h (by have := g.2.1; omega) (fun r hr => by have := (g.2.2 r hr).1; omega), ?_⟩
  cases o with
  | none => show 0 < 100; decide
  | some t =>
    have := deep_le t h.1 80 fun x m hx => (g.2.2 (x, m) (by rw [← h.2]; exact hx)).1
    show t.deep < 100
    omega
/-- knots without branches: the names -/
theorem kn_ends : ∀ t : Tr, Wf t → t.kn.filter (fun r => decide (r.2 < 2)) = t.rws.map fun r => (r.1, 0) := by
  refine Tr.ind (fun t n _ => by simp [Tr.kn, Tr.rws]) fun t bs ih w => ?_
  have w' := wfB_iff.mp w.2
  have h2 := w.1
  show (((t, (bs.length : Int)) :: (knn bs).map (pre t)).filter _) = (((rwss bs).map (pre t)).map _)
  rw [List.filter_cons_of_neg (by have : ¬ ((bs.length : Nat) : Int) < 2 := by omega
                                  simpa using this), gat_kn, gat_rws]
  have key : ∀ (p : List Nat) (K R : List Row), K.filter (fun r => decide (r.2 < 2)) = R.map (fun r => (r.1, 0)) → (K.map (pre p)).filter (fun r => decide (r.2 < 2)) = (R.map (pre p)).map fun r => (r.1, 0) := fun p K R h => by
    rw [List.filter_map, List.map_map]
    have e : (fun r : Row => decide (r.2 < 2)) ∘ pre p = fun r : Row => decide (r.2 < 2) := rfl
    rw [e, h, List.map_map]; rfl
  refine key t _ _ ?_
  have all : ∀ bs : List (List Nat × Tr), (∀ b ∈ bs, b.2.kn.filter (fun r => decide (r.2 < 2)) = b.2.rws.map fun r => (r.1, 0)) → (gat Tr.kn bs).filter (fun r => decide (r.2 < 2)) = (gat Tr.rws bs).map fun r => (r.1, 0) := fun bs h => by
    induction bs with
    | nil => rfl
    | cons b r ihh =>
      rw [show gat Tr.kn (b :: r) = b.2.kn.map (pre b.1) ++ gat Tr.kn r from rfl, show gat Tr.rws (b :: r) = b.2.rws.map (pre b.1) ++ gat Tr.rws r from rfl, List.filter_append, List.map_append,
        key b.1 _ _ (h b (List.mem_cons_self ..)), ihh fun c hc => h c (List.mem_cons_of_mem _ hc)]
  exact all bs fun b hb => ih b hb (w'.1 b hb).2.2
def tag (s : Str) : PyData := .tuple [.str s, .bool true]
theorem tag_shaped1 : SeqAt.shaped (tag (Str.ofString "not there")) = true := by decide +kernel
theorem tag_shaped2 : SeqAt.shaped (tag (Str.ofString "taken")) = true := by decide +kernel
def tagT (o : Option Tr) : PyData := .tuple [.str (Str.ofString "told"), oD o]
def spIsDue (K : PySem.W.Frag) : Sp := fun vs H Q _ => ∃ (t : V) (ls lf : Addr) (accS accF : List V) (S F : List Row), vs = [t, .ref ls, .ref lf] ∧ H ls = some (.lst accS) ∧ H lf = some (.lst accF) ∧ DpAll K H accS (S.map rowD) ∧ DpAll K H accF (F.map rowD) ∧ GM 80 200 S ∧ GM 80 200 F ∧
  (F = [] → Dp K H t (tag (Str.ofString "not there"))) ∧ (F ≠ [] → Share S F → Dp K H t (tag (Str.ofString "taken"))) ∧ (F ≠ [] → ¬ Share S F → ∃ o T, Both S F T ∧ Treed o T ∧ Dp K H t (tagT o)) ∧ ∀ H', Same H H' → Q (.bl true) H'
theorem gm_shaped {M N : Nat} {R : List Row} (g : GM M N R) : SeqAt.shaped (.list (R.map rowD)) = true := rows_shaped fun r hr => (g.2.2 r hr).2
theorem ends_of {o : Option Tr} {R : List Row} (h : Treed o R) : (rowsOf Tr.kn o).filter (fun r => decide (r.2 < 2)) = R.map fun r => (r.1, 0) := by
  cases o with
  | none =>
    have e : R = [] := h
    rw [e]; rfl
  | some t => rw [← h.2]; exact kn_ends t h.1
theorem kn_few {o : Option Tr} (f : FitsO o) : (rowsOf Tr.kn o).length ≤ 10000 := by
  cases o with
  | none => show 0 ≤ 10000; decide
  | some t => exact (bnd_kn t (f t rfl)).2
/-- the rows that come: another text in the beginning's place -/
def freshR (b c : List Nat) (R : List Row) : List Row := (goneR b R).map (pre c)
theorem fresh_eq (b c : List Nat) (R : List Row) : freshR b c R = (R.filter (tk b)).map fun r => (c ++ r.1.drop b.length, r.2) := by
  unfold freshR goneR
  rw [List.map_map]; rfl
theorem fresh_gm {b c : List Nat} {R : List Row} (g : Good R) (hc : c.length ≤ 40) (ht : ∀ x ∈ c, x ∈ signTab) : GM 80 200 (freshR b c R) := by
  have g2 := gone_good (b := b) g
  refine ⟨up_map g2.1, ?_, fun r hr => ?_⟩
  · unfold freshR
    rw [List.length_map]
    have := g2.2.1; omega
  · obtain ⟨r0, h0, rfl⟩ := List.mem_map.mp hr
    obtain ⟨a1, a2, _⟩ := g2.2.2 r0 h0
    refine ⟨by show (c ++ r0.1).length ≤ 80; rw [List.length_append]; omega, fun x hx => ?_⟩
    rcases List.mem_append.mp hx with hx | hx
    · exact ht x hx
    · exact a2 x hx
/-- what moved or copied tell, as the law wraps it -/
def spMvd (K : PySem.W.Frag) (stay : List Nat → List Row → List Row) : Sp := fun vs H Q _ => ∃ (v : V) (o : Option Tr) (R : List Row) (b c : List Nat), vs = [v, .str (st b), .str (st c)] ∧ Dp K H v (oD o) ∧ Treed o R ∧ Good R ∧ b.length ≤ 40 ∧ c.length ≤ 40 ∧ (∀ x ∈ b, x ∈ signTab) ∧ (∀ x ∈ c, x ∈ signTab) ∧
  ∀ (t : V) (H' : Hp), Same H H' → (freshR b c R = [] → Dp K H' t (tag (Str.ofString "not there"))) → (freshR b c R ≠ [] → Share (stay b R) (freshR b c R) → Dp K H' t (tag (Str.ofString "taken"))) →
    (freshR b c R ≠ [] → ¬ Share (stay b R) (freshR b c R) → ∃ o T, Both (stay b R) (freshR b c R) T ∧ Treed o T ∧ Dp K H' t (tagT o)) → Q t H'
/-- moved, copied: refused by the classes at CN (NotThere), CT (Taken) -/
def spMoved (K : PySem.W.Frag) (CN CT : Addr) (stay : List Nat → List Row → List Row) : Sp := fun vs H Q E => ∃ (v : V) (o : Option Tr) (R : List Row) (b c : List Nat), vs = [v, .str (st b), .str (st c)] ∧ Dp K H v (oD o) ∧ Treed o R ∧ Good R ∧ b.length ≤ 40 ∧ c.length ≤ 40 ∧ (∀ x ∈ b, x ∈ signTab) ∧ (∀ x ∈ c, x ∈ signTab) ∧
  (freshR b c R = [] → ∀ H', Same H H' → E (.ref CN) none H') ∧ (freshR b c R ≠ [] → Share (stay b R) (freshR b c R) → ∀ H', Same H H' → E (.ref CT) none H') ∧
  (freshR b c R ≠ [] → ¬ Share (stay b R) (freshR b c R) → ∀ (o : Option Tr) (T : List Row) (u : V) (H' : Hp), Both (stay b R) (freshR b c R) T → Treed o T → Same H H' → Dp K H' u (oD o) → Q u H')
end RT

/-! branches behind a text, a branch replaced -/
namespace RT
open PySem PySem.Spec PyProof.Rows L2
/-- the branches of a tree behind a text with which all its names begin -/
def behB (t : Tr) (b : List Nat) : List (List Nat × Tr) := match t with
  | .leaf u n => [brn (.leaf u n) b.length]
  | .fork u bs => if u = b then bs else [brn (.fork u bs) b.length]
/-- signs below 127 -/
def Asc (t : Tr) : Prop := ∀ x m, (x, m) ∈ t.rws → ∀ c ∈ x, c < 127
def AscO (o : Option Tr) : Prop := ∀ t, o = some t → Asc t
theorem Asc.text {t : Tr} (w : Wf t) (h : Asc t) : ∀ c ∈ t.text, c < 127 := by
  obtain ⟨⟨x, m⟩, hx⟩ := rws_ne t w
  intro c hc
  have h1 := h x m hx
  cases t with
  | leaf t n => rw [(mem_leaf.mp hx).1] at h1; exact h1 c hc
  | fork t bs =>
    obtain ⟨y, rfl, _⟩ := mem_fork.mp hx
    exact h1 c (List.mem_append_left _ hc)
theorem Asc.sub {t : List Nat} {bs : List (List Nat × Tr)} (h : Asc (.fork t bs)) {b : List Nat × Tr} (hb : b ∈ bs) : Asc b.2 := fun x m hx c hc =>
  h _ m (mem_fork.mpr ⟨_, rfl, mem_rwss.mpr ⟨b, hb, x, rfl, hx⟩⟩) c (List.mem_append_right _ (List.mem_append_right _ hc))
theorem treed_asc {o : Option Tr} {R : List Row} (h : Treed o R) (hn : ∀ r ∈ R, ∀ c ∈ r.1, c < 127) : AscO o := fun t e => by
  subst e
  exact fun x m hx c hc => hn (x, m) (by rw [← h.2]; exact hx) c hc
theorem beh_one {t : Tr} {b : List Nat} (h : (∃ n, t = .leaf t.text n) ∨ t.text ≠ b) : behB t b = [brn t b.length] := by
  cases t with
  | leaf u n => rfl
  | fork u bs =>
    rcases h with ⟨n, h⟩ | h
    · cases h
    · have h : u ≠ b := h
      show (if u = b then bs else _) = _
      rw [if_neg h]
theorem beh_all {u : List Nat} {bs : List (List Nat × Tr)} : behB (.fork u bs) u = bs := by
  show (if u = u then bs else _) = _
  rw [if_pos rfl]
theorem innr_one {b : List Nat × Tr} {s : List Nat} (h : b.1 ≠ s) : innr [b] s = none := by
  obtain ⟨a, t⟩ := b
  have h : a ≠ s := h
  unfold innr
  rw [if_neg h]; rfl
/-- a name put into a tree that isn't its own leaf -/
theorem ptt_beh (t : Tr) (x : List Nat) (k : Int) (h : ∀ m, t ≠ .leaf x m) :
    ptt t x k = .fork (t.text.take (lcp t.text x)) (placed (behB t (t.text.take (lcp t.text x))) ((x.drop (lcp t.text x)).take 1, pttO (innr (behB t (t.text.take (lcp t.text x))) ((x.drop (lcp t.text x)).take 1)) ((x.drop (lcp t.text x)).drop 1) k)) ∧
    ∀ u, innr (behB t (t.text.take (lcp t.text x))) ((x.drop (lcp t.text x)).take 1) = some u → ∃ bs, t = .fork t.text bs ∧ ∃ s, (s, u) ∈ bs := by
  have cl : (t.text.take (lcp t.text x)).length = lcp t.text x := by
    rw [List.length_take]; have := lcp_le1 t.text x; omega
  have split : behB t (t.text.take (lcp t.text x)) = [brn t (lcp t.text x)] → ¬ (lcp t.text x = t.text.length ∧ lcp t.text x = x.length) → innr (behB t (t.text.take (lcp t.text x))) ((x.drop (lcp t.text x)).take 1) = none := fun e ne => by
    rw [e]
    exact innr_one (drop_ne ne)
  cases t with
  | leaf t m =>
    have ne : t ≠ x := fun e => h m (by rw [e])
    have e1 : behB (.leaf t m) (t.take (lcp t x)) = [brn (.leaf t m) (lcp t x)] := by
      have := beh_one (t := .leaf t m) (b := t.take (lcp t x)) (.inl ⟨m, rfl⟩)
      rw [this]
      exact congrArg (fun z => [brn (.leaf t m) z]) cl
    have e2 := split e1 fun ⟨h1, h2⟩ => ne (List.IsPrefix.eq_of_length (lcp_len_iff.mp h1) (by show t.length = x.length; have h1 : lcp t x = t.length := h1; have h2 : lcp t x = x.length := h2; omega))
    have e2 : innr (behB (.leaf t m) (t.take (lcp t x))) ((x.drop (lcp t x)).take 1) = none := e2
    constructor
    · show ptt (.leaf t m) x k = .fork (t.take (lcp t x)) (placed (behB (.leaf t m) (t.take (lcp t x))) ((x.drop (lcp t x)).take 1, pttO (innr (behB (.leaf t m) (t.take (lcp t x))) ((x.drop (lcp t x)).take 1)) ((x.drop (lcp t x)).drop 1) k))
      rw [e2, e1]
      unfold ptt
      rw [if_neg ne]
      rfl
    · intro u hu
      have hu : innr (behB (.leaf t m) (t.take (lcp t x))) ((x.drop (lcp t x)).take 1) = some u := hu
      rw [e2] at hu; cases hu
  | fork t bs =>
    show ptt (.fork t bs) x k = .fork (t.take (lcp t x)) (placed (behB (.fork t bs) (t.take (lcp t x))) ((x.drop (lcp t x)).take 1, pttO (innr (behB (.fork t bs) (t.take (lcp t x))) ((x.drop (lcp t x)).take 1)) ((x.drop (lcp t x)).drop 1) k)) ∧ ∀ u, innr (behB (.fork t bs) (t.take (lcp t x))) ((x.drop (lcp t x)).take 1) = some u → _
    by_cases c : t <+: x
    · have el : lcp t x = t.length := lcp_len_iff.mpr c
      have es : t.take (lcp t x) = t := lcp_eq_iff.mpr c
      rw [es, beh_all, el]
      refine ⟨?_, fun u hu => ⟨bs, rfl, _, innr_mem hu⟩⟩
      unfold ptt
      rw [if_pos c, pttIn_eq]
    · have ne : t.take (lcp t x) ≠ t := fun e => c (lcp_eq_iff.mp e)
      have e1 : behB (.fork t bs) (t.take (lcp t x)) = [brn (.fork t bs) (lcp t x)] := by
        have := beh_one (t := .fork t bs) (b := t.take (lcp t x)) (.inr fun e => ne (Eq.symm e))
        rw [this]
        exact congrArg (fun z => [brn (.fork t bs) z]) cl
      have e2 : innr (behB (.fork t bs) (t.take (lcp t x))) ((x.drop (lcp t x)).take 1) = none := split e1 fun ⟨h1, _⟩ => c (lcp_len_iff.mp h1)
      refine ⟨?_, fun u hu => by rw [e2] at hu; cases hu⟩
      rw [e2, e1]
      unfold ptt
      rw [if_neg c]
      rfl
/-- the tree of a fork whose branch with a sign now has another tree, or is gone -/
def repl (t : List Nat) (bs : List (List Nat × Tr)) (s : List Nat) : Option Tr → Option Tr
  | some u => some (.fork t (placed bs (s, u)))
  | none => knt t (bs.filter fun b => !decide (b.1 = s))
theorem wot_repl (t : List Nat) (bs : List (List Nat × Tr)) (x : List Nat) : wot (.fork t bs) x = repl t bs ((x.drop t.length).take 1) ((innr bs ((x.drop t.length).take 1)).bind fun u => wot u ((x.drop t.length).drop 1)) := by
  rw [wot, wotIn_eq]
  cases (innr bs ((x.drop t.length).take 1)).bind fun u => wot u ((x.drop t.length).drop 1) <;> rfl
theorem filt_ne {bs : List (List Nat × Tr)} {s : List Nat} (h : bs.Pairwise fun a b => a.1 < b.1) (h2 : 2 ≤ bs.length) : bs.filter (fun c => !decide (c.1 = s)) ≠ [] := fun e => by
  have all : ∀ c ∈ bs, c.1 = s := fun c hc => by
    have := List.filter_eq_nil_iff.mp e c hc
    simpa using this
  match bs, h2, h, all with
  | x :: y :: r, _, pw, all =>
    have lt := (List.pairwise_cons.mp pw).1 y (List.mem_cons_self ..)
    rw [all x (List.mem_cons_self ..), all y (List.mem_cons_of_mem _ (List.mem_cons_self ..))] at lt
    exact lt_irr _ lt
theorem repl_ok {t : List Nat} {bs : List (List Nat × Tr)} {s : List Nat} {o : Option Tr} (h : Wf (.fork t bs)) (hs : s.length ≤ 1) (h0 : s ≠ []) (ho : ∀ u, o = some u → Wf u) :
    ∃ u, repl t bs s o = some u ∧ Wf u ∧ ∀ y m, (y, m) ∈ u.rws ↔ ∃ z, y = t ++ z ∧ ((z.take 1 ≠ s ∧ (z, m) ∈ rwss bs) ∨ ∃ w v, z = s ++ w ∧ o = some v ∧ (w, m) ∈ v.rws) := by
  have w := wfB_iff.mp h.2
  have tk1 : ∀ {b : List Nat × Tr} {p : List Nat} {m : Int}, b ∈ bs → (p, m) ∈ b.2.rws → (b.1 ++ p).take 1 = b.1 := fun hb hp => (sign_of (w.1 _ hb) hp).1.symm
  cases o with
  | none =>
    have h' : (∀ c ∈ bs.filter (fun c => !decide (c.1 = s)), OkB c) ∧ (bs.filter fun c => !decide (c.1 = s)).Pairwise fun a b => a.1 < b.1 := ⟨fun c hc => w.1 c (List.mem_filter.mp hc).1, w.2.filter _⟩
    obtain ⟨u, e, hu, hm⟩ := knt_ok (t := t) h' (filt_ne w.2 h.1)
    refine ⟨u, e, hu, fun y m => ?_⟩
    rw [hm]
    constructor
    · rintro ⟨z, rfl, hz⟩
      obtain ⟨c, hc, p, rfl, hp⟩ := mem_rwss.mp hz
      obtain ⟨hc1, hc2⟩ := List.mem_filter.mp hc
      have hc2 : ¬ c.1 = s := by simpa using hc2
      exact ⟨_, rfl, .inl ⟨by rw [tk1 hc1 hp]; exact hc2, mem_rwss.mpr ⟨c, hc1, p, rfl, hp⟩⟩⟩
    · rintro ⟨z, rfl, (⟨h1, h2⟩ | ⟨_, _, _, e, _⟩)⟩
      · obtain ⟨c, hc, p, rfl, hp⟩ := mem_rwss.mp h2
        rw [tk1 hc hp] at h1
        exact ⟨_, rfl, mem_rwss.mpr ⟨c, List.mem_filter.mpr ⟨hc, by simpa using h1⟩, p, rfl, hp⟩⟩
      · cases e
  | some u =>
    have hu := ho u rfl
    refine ⟨_, rfl, ⟨placed_two w.2 h.1, wfB_iff.mpr ⟨fun c hc => ?_, placed_pw w.2⟩⟩, fun y m => ?_⟩
    · rcases mem_placed.mp hc with ⟨hc, _⟩ | e
      · exact w.1 c hc
      · rw [e]; exact ⟨hs, fun z => absurd z h0, hu⟩
    · rw [mem_fork]
      constructor
      · rintro ⟨z, rfl, hz⟩
        obtain ⟨c, hc, p, rfl, hp⟩ := mem_rwss.mp hz
        rcases mem_placed.mp hc with ⟨hc, ne⟩ | e
        · exact ⟨_, rfl, .inl ⟨by rw [tk1 hc hp]; exact ne, mem_rwss.mpr ⟨c, hc, p, rfl, hp⟩⟩⟩
        · subst e; exact ⟨_, rfl, .inr ⟨p, u, rfl, rfl, hp⟩⟩
      · rintro ⟨z, rfl, (⟨h1, h2⟩ | ⟨p, v, rfl, e, hp⟩)⟩
        · obtain ⟨c, hc, p, rfl, hp⟩ := mem_rwss.mp h2
          rw [tk1 hc hp] at h1
          exact ⟨_, rfl, mem_rwss.mpr ⟨c, mem_placed.mpr (.inl ⟨hc, h1⟩), p, rfl, hp⟩⟩
        · cases e
          exact ⟨_, rfl, mem_rwss.mpr ⟨_, mem_placed.mpr (.inr rfl), p, rfl, hp⟩⟩
/-! ### promises -/
def spBehind (K : PySem.W.Frag) : Sp := fun vs H Q _ => ∃ (v : V) (t : Tr) (b : List Nat), vs = [v, .str (st b)] ∧ Dp K H v t.toD ∧ t.text.length ≤ 1000 ∧ b.length ≤ 1000 ∧ gives K H (.tuple (toDs (behB t b))) Q
def spReplaced (K : PySem.W.Frag) : Sp := fun vs H Q _ => ∃ (v u : V) (t : List Nat) (bs : List (List Nat × Tr)) (s : List Nat) (o : Option Tr), vs = [v, .str (st s), u] ∧ Dp K H v (Tr.fork t bs).toD ∧ Dp K H u (oD o) ∧ bs.length ≤ 5000 ∧ t.length ≤ 1000 ∧ s.length ≤ 1 ∧
  (∀ b ∈ bs, b.1.length ≤ 1 ∧ b.2.text.length ≤ 1000) ∧ (o = none → bs.filter (fun c => !decide (c.1 = s)) ≠ []) ∧ gives K H (oD (repl t bs s o)) Q
/-- put's promise at n calls -/
def spPutN (K : PySem.W.Frag) (n : Nat) : Sp := fun vs H Q _ => ∃ (v : V) (o : Option Tr) (x : List Nat) (k : Int), vs = [v, .str (st x), .int k] ∧ Dp K H v (oD o) ∧ FitsO o ∧ AscO o ∧ dpt o < n ∧ x.length ≤ 1000 ∧ (∀ c ∈ x, c < 127) ∧ gives K H (pttO o x k).toD Q
theorem asc_ok {l : List Nat} (h : ∀ c ∈ l, c < 127) : PyData.strOk (st l) = true := by
  unfold PyData.strOk
  simp only [List.all_toArray, List.all_eq_true, decide_eq_true_eq]
  intro c hc
  have := h c hc
  omega
/-- what a tree's first two tell -/
def headD (s : Str) (x : List Nat) : PyData := .tuple [.str s, .str (st x)]
theorem head_shaped {s : Str} {x : List Nat} (hs : PyData.strOk s = true) (h : ∀ c ∈ x, c < 127) : SeqAt.shaped (headD s x) = true := by
  have hx := asc_ok h
  unfold SeqAt.shaped headD
  simp [PyData.canLay0, PyData.canLayAll0, hs, hx, PyData.depth, PyData.depthAll]
theorem head_eqv {s s' : Str} {x y : List Nat} : PyData.eqv (headD s x) (headD s' y) = (decide (s = s') && decide (x = y)) := by
  unfold headD
  have e : (st x == st y) = decide (x = y) := by
    rw [Bool.eq_iff_iff, beq_iff_eq, decide_eq_true_eq]
    exact ⟨st_inj, fun h => by rw [h]⟩
  have e' : (s == s') = decide (s = s') := by
    rw [Bool.eq_iff_iff, beq_iff_eq, decide_eq_true_eq]
  simp [PyData.eqv, PyData.eqvAll, e, e']
end RT
namespace RT
open PySem PySem.Spec PyProof.Rows L2
theorem fork_two {t : List Nat} {bs : List (List Nat × Tr)} (h : Wf (.fork t bs)) : ∃ b ∈ bs, ∃ c ∈ bs, b ≠ c := by
  have w := wfB_iff.mp h.2
  match bs, h.1, w.2 with
  | x :: y :: r, _, pw =>
    have lt := (List.pairwise_cons.mp pw).1 y (List.mem_cons_self ..)
    exact ⟨x, List.mem_cons_self .., y, List.mem_cons_of_mem _ (List.mem_cons_self ..), fun e => by rw [e] at lt; exact lt_irr _ lt⟩
theorem deeps_pos {t : List Nat} {bs : List (List Nat × Tr)} (h : Wf (.fork t bs)) : 0 < deeps bs := by
  match bs, h.1 with
  | (s, u) :: r, _ => have := u.deep_pos; have : u.deep ≤ deeps ((s, u) :: r) := Nat.le_max_left _ _; omega
/-- the branches behind a beginning of the tree's text, once more as rows -/
theorem beh_wf {t : Tr} (h : Wf t) {c : Nat} (hc : c ≤ t.text.length) : WfB (behB t (t.text.take c)) ∧ ∀ x m, (x, m) ∈ t.rws ↔ ∃ z, x = t.text.take c ++ z ∧ (z, m) ∈ rwss (behB t (t.text.take c)) := by
  have cl : (t.text.take c).length = c := by rw [List.length_take]; omega
  have one : ((∃ n, t = .leaf t.text n) ∨ c < t.text.length) → behB t (t.text.take c) = [brn t c] → WfB (behB t (t.text.take c)) ∧ ∀ x m, (x, m) ∈ t.rws ↔ ∃ z, x = t.text.take c ++ z ∧ (z, m) ∈ rwss (behB t (t.text.take c)) := fun hf e => by
    rw [e]
    refine ⟨wfB_iff.mpr ⟨fun b hb => ?_, List.pairwise_singleton _ _⟩, fun x m => ?_⟩
    · have : b = brn t c := by simpa using hb
      rw [this]; exact brn_ok h hf
    · rw [mem_brn hc]
      constructor
      · rintro ⟨w, e1, hw⟩; exact ⟨_, e1, mem_rwss.mpr ⟨_, List.mem_singleton.mpr rfl, w, rfl, hw⟩⟩
      · rintro ⟨z, e1, hz⟩
        obtain ⟨b, hb, w, e2, hw⟩ := mem_rwss.mp hz
        have : b = brn t c := by simpa using hb
        subst this
        exact ⟨w, by rw [e1, e2], hw⟩
  cases t with
  | leaf u n =>
    refine one (.inl ⟨n, rfl⟩) ?_
    rw [beh_one (.inl ⟨n, rfl⟩), cl]
  | fork u bs =>
    by_cases e : c < u.length
    · refine one (.inr e) ?_
      have ne : (Tr.fork u bs).text ≠ (Tr.fork u bs).text.take c := fun z => by
        have z : u = u.take c := z
        have := congrArg List.length z
        rw [List.length_take] at this; omega
      rw [beh_one (.inr ne), cl]
    · have hc : c ≤ u.length := hc
      have ec : u.take c = u := by rw [show c = u.length by omega, List.take_length]
      show WfB (behB (.fork u bs) (u.take c)) ∧ ∀ x m, (x, m) ∈ (Tr.fork u bs).rws ↔ ∃ z, x = u.take c ++ z ∧ (z, m) ∈ rwss (behB (.fork u bs) (u.take c))
      rw [ec, beh_all]
      exact ⟨h.2, fun x m => mem_fork⟩
end RT

/-! a tree cut, two trees joined -/
namespace RT
open PySem PySem.Spec PyProof.Rows L2
def rO : Option Tr → List Row
  | none => []
  | some t => t.rws
theorem treed_rO {o : Option Tr} {R : List Row} (h : Treed o R) : rO o = R ∧ Up R ∧ ∀ t, o = some t → Wf t := by
  cases o with
  | none =>
    have e : R = [] := h
    subst e
    exact ⟨rfl, List.Pairwise.nil, fun t e => by cases e⟩
  | some t => exact ⟨h.2, by rw [← h.2]; exact up_rws t h.1, fun u e => by cases e; exact h.1⟩
theorem treed_of {o : Option Tr} (h : ∀ t, o = some t → Wf t) : Treed o (rO o) := by
  cases o with
  | none => exact rfl
  | some t => exact ⟨h t rfl, rfl⟩
theorem text_pre {t : Tr} {x : List Nat} {m : Int} (h : (x, m) ∈ t.rws) : t.text <+: x := by
  cases t with
  | leaf u n => rw [(mem_leaf.mp h).1]; exact List.prefix_refl _
  | fork u bs =>
    obtain ⟨y, rfl, _⟩ := mem_fork.mp h
    exact List.prefix_append _ _
/-! ### cut -/
theorem cut_all {t : Tr} (w : Wf t) {b : List Nat} (h : b <+: t.text) : Treed none (stayR b t.rws) ∧ Treed (some (t.setText (t.text.drop b.length))) (goneR b t.rws) := by
  have e : t.text = b ++ t.text.drop b.length := by
    obtain ⟨y, hy⟩ := h
    rw [← hy, List.drop_left]
  constructor
  · refine List.eq_nil_iff_forall_not_mem.mpr fun r hr => ?_
    obtain ⟨h1, h2⟩ := mem_stay.mp hr
    exact h2 (h.trans (text_pre (x := r.1) (m := r.2) h1))
  · refine ⟨wf_set w, up_ext (up_rws _ (wf_set w)) (gone_up (up_rws _ w)) fun ⟨y, m⟩ => ?_⟩
    rw [mem_gone, mem_set e]
    constructor
    · intro hy; exact ⟨y, rfl, hy⟩
    · rintro ⟨z, ez, hz⟩; rw [List.append_cancel_left ez]; exact hz
theorem cut_no {t : Tr} (w : Wf t) {b : List Nat} (h : ∀ x m, (x, m) ∈ t.rws → ¬ b <+: x) : Treed (some t) (stayR b t.rws) ∧ Treed none (goneR b t.rws) := by
  constructor
  · refine ⟨w, (List.filter_eq_self.mpr fun r hr => ?_).symm⟩
    have := h r.1 r.2 hr
    cases e : tk b r with
    | true => exact absurd (tk_iff.mp e) this
    | false => rfl
  · refine List.eq_nil_iff_forall_not_mem.mpr fun ⟨y, m⟩ hr => ?_
    exact h _ m (mem_gone.mp hr) (List.prefix_append _ _)
theorem cut_in {t : List Nat} {bs : List (List Nat × Tr)} (w : Wf (.fork t bs)) {z : List Nat} (hz : z ≠ []) {o1 o2 : Option Tr} (h1 : Treed o1 (stayR (z.drop 1) (rO (innr bs (z.take 1))))) (h2 : Treed o2 (goneR (z.drop 1) (rO (innr bs (z.take 1))))) :
    Treed (repl t bs (z.take 1) o1) (stayR (t ++ z) (Tr.fork t bs).rws) ∧ Treed o2 (goneR (t ++ z) (Tr.fork t bs).rws) := by
  have up := up_rws _ w
  have wb := wfB_iff.mp w.2
  have hs1 : (z.take 1).length ≤ 1 := by rw [List.length_take]; omega
  have hs0 : z.take 1 ≠ [] := by cases z with
    | nil => exact absurd rfl hz
    | cons c r => simp
  have inn : ∀ {y : List Nat} {m : Int}, (t ++ z ++ y, m) ∈ (Tr.fork t bs).rws ↔ (z.drop 1 ++ y, m) ∈ rO (innr bs (z.take 1)) := fun {y m} => by
    rw [List.append_assoc, mem_by_sign w]
    have e1 : (z ++ y).take 1 = z.take 1 := by cases z with
      | nil => exact absurd rfl hz
      | cons c r => simp
    have e2 : (z ++ y).drop 1 = z.drop 1 ++ y := by cases z with
      | nil => exact absurd rfl hz
      | cons c r => simp
    rw [e1, e2]
    cases innr bs (z.take 1) with
    | none => simp [rO]
    | some u => simp [rO]
  obtain ⟨r1, u1, w1⟩ := treed_rO h1
  obtain ⟨r2, u2, w2⟩ := treed_rO h2
  constructor
  · obtain ⟨u, e, hu, hm⟩ := repl_ok w hs1 hs0 w1
    rw [e]
    refine ⟨hu, up_ext (up_rws _ hu) (stay_up up) fun ⟨x, m⟩ => ?_⟩
    rw [hm, mem_stay, mem_fork]
    constructor
    · rintro ⟨q, rfl, (⟨n1, n2⟩ | ⟨p, v, rfl, ev, hp⟩)⟩
      · refine ⟨⟨q, rfl, n2⟩, fun pre' => n1 ?_⟩
        have := (List.prefix_append_right_inj t).mp pre'
        obtain ⟨y, rfl⟩ := this
        cases z with
        | nil => exact absurd rfl hz
        | cons c r => simp
      · subst ev
        have hp' : (p, m) ∈ stayR (z.drop 1) (rO (innr bs (z.take 1))) := by rw [← r1]; exact hp
        obtain ⟨a1, a2⟩ := mem_stay.mp hp'
        cases hi : innr bs (z.take 1) with
        | none => rw [hi] at a1; simp [rO] at a1
        | some u' =>
          rw [hi] at a1
          refine ⟨⟨_, rfl, mem_rwss.mpr ⟨_, innr_mem hi, p, rfl, a1⟩⟩, fun pre' => a2 ?_⟩
          have := (List.prefix_append_right_inj t).mp pre'
          have this : z <+: z.take 1 ++ p := this
          obtain ⟨y, hy⟩ := this
          refine ⟨y, ?_⟩
          have : z.take 1 ++ (z.drop 1 ++ y) = z.take 1 ++ p := by rw [← List.append_assoc, List.take_append_drop, hy]
          exact List.append_cancel_left this
    · rintro ⟨⟨q, rfl, hq⟩, hn⟩
      refine ⟨q, rfl, ?_⟩
      by_cases e : q.take 1 = z.take 1
      · have hq' : (t ++ q, m) ∈ (Tr.fork t bs).rws := mem_fork.mpr ⟨q, rfl, hq⟩
        obtain ⟨u', hi, hd⟩ := (mem_by_sign w).mp hq'
        rw [e] at hi
        have hd' : (q.drop 1, m) ∈ stayR (z.drop 1) (rO (innr bs (z.take 1))) := by
          rw [hi]
          refine mem_stay.mpr ⟨hd, fun pre' => hn ?_⟩
          obtain ⟨y, hy⟩ := pre'
          have hy : z.drop 1 ++ y = q.drop 1 := hy
          refine (List.prefix_append_right_inj t).mpr ⟨y, ?_⟩
          rw [← List.take_append_drop 1 q, ← hy, e, ← List.append_assoc, List.take_append_drop]
        rw [← r1] at hd'
        cases ho : o1 with
        | none => rw [ho] at hd'; simp [rO] at hd'
        | some v => rw [ho] at hd'; exact .inr ⟨q.drop 1, v, by rw [← e, List.take_append_drop], rfl, hd'⟩
      · exact .inl ⟨e, hq⟩
  · have e : goneR (t ++ z) (Tr.fork t bs).rws = goneR (z.drop 1) (rO (innr bs (z.take 1))) := by
      rw [← r2] at u2 ⊢
      refine up_ext (gone_up up) u2 fun ⟨y, m⟩ => ?_
      rw [r2, mem_gone, mem_gone]
      exact inn
    rw [e]; exact h2
/-- cut's promise at n calls -/
def spCutN (K : PySem.W.Frag) (n : Nat) : Sp := fun vs H Q _ => ∃ (v : V) (o : Option Tr) (b : List Nat) (R : List Row), vs = [v, .str (st b)] ∧ Dp K H v (oD o) ∧ Treed o R ∧ FitsO o ∧ dpt o < n ∧ b.length ≤ 1000 ∧
  ∀ (u : V) (o1 o2 : Option Tr) (H' : Hp), Treed o1 (stayR b R) → Treed o2 (goneR b R) → Same H H' → Dp K H' u (.tuple [oD o1, oD o2]) → Q u H'
/-! ### branches by their signs -/
theorem innr_app (s : List Nat) : ∀ a b : List (List Nat × Tr), innr (a ++ b) s = (innr a s).or (innr b s)
  | [], b => by simp [innr]
  | (c, t) :: r, b => by
    rw [List.cons_append]
    by_cases h : c = s
    · rw [innr, if_pos h, innr, if_pos h]; rfl
    · rw [innr, if_neg h, innr_app s r b, innr, if_neg h]
theorem innr_sing (b : List Nat × Tr) (s : List Nat) : innr [b] s = if b.1 = s then some b.2 else none := by
  obtain ⟨a, t⟩ := b
  rw [innr]; rfl
theorem innr_iff {bs : List (List Nat × Tr)} (h : bs.Pairwise fun a b => a.1 < b.1) {s : List Nat} {u : Tr} : innr bs s = some u ↔ (s, u) ∈ bs := ⟨innr_mem, mem_innr h⟩
theorem innr_placed {bs : List (List Nat × Tr)} (h : bs.Pairwise fun a b => a.1 < b.1) {b : List Nat × Tr} (s : List Nat) : innr (placed bs b) s = if b.1 = s then some b.2 else innr bs s := by
  have hp := placed_pw (b := b) h
  by_cases e : b.1 = s
  · rw [if_pos e]
    exact (innr_iff hp).mpr (mem_placed.mpr (.inr (by rw [← e])))
  · rw [if_neg e]
    cases hi : innr bs s with
    | some u =>
      exact (innr_iff hp).mpr (mem_placed.mpr (.inl ⟨innr_mem hi, fun z => e (Eq.symm z)⟩))
    | none =>
      cases hj : innr (placed bs b) s with
      | none => rfl
      | some u =>
        rcases mem_placed.mp (innr_mem hj) with ⟨m, _⟩ | z
        · rw [mem_innr h m] at hi; cases hi
        · exact absurd (by rw [← z]) e
theorem rwss_iff {bs : List (List Nat × Tr)} (h : WfB bs) {z : List Nat} {m : Int} : (z, m) ∈ rwss bs ↔ (z.drop 1, m) ∈ rO (innr bs (z.take 1)) := by
  have w := wfB_iff.mp h
  rw [mem_rwss]
  constructor
  · rintro ⟨b, hb, v, rfl, hv⟩
    obtain ⟨s1, s2⟩ := sign_of (w.1 b hb) hv
    rw [← s1, ← s2, mem_innr w.2 hb]
    exact hv
  · intro hz
    cases hi : innr bs (z.take 1) with
    | none => rw [hi] at hz; simp [rO] at hz
    | some u =>
      rw [hi] at hz
      exact ⟨_, innr_mem hi, z.drop 1, (List.take_append_drop 1 z).symm, hz⟩
/-- a tree that joined takes -/
structure JT (t : Tr) : Prop where
  wf : Wf t
  len : ∀ x m, (x, m) ∈ t.rws → x.length ≤ 200
  asc : Asc t
  many : t.rws.length ≤ 1000
theorem JT.fits {t : Tr} (h : JT t) : Fits t := ⟨h.wf, fun x m hx => by have := h.len x m hx; omega, by have := h.many; omega⟩
theorem set_deep (t : Tr) (u : List Nat) : (t.setText u).deep = t.deep := by cases t <;> rfl
theorem set_rws_len (t : Tr) (u : List Nat) : (t.setText u).rws.length = t.rws.length := by
  cases t with
  | leaf t n => rfl
  | fork t bs => show ((rwss bs).map (pre u)).length = ((rwss bs).map (pre t)).length; rw [List.length_map, List.length_map]
theorem JT.beh {t : Tr} (h : JT t) {c : Nat} (hc : c ≤ t.text.length) {b : List Nat × Tr} (hb : b ∈ behB t (t.text.take c)) : JT b.2 ∧ b.1.length ≤ 1 ∧ b.2.deep ≤ t.deep ∧ ((∃ bs, t = .fork t.text bs ∧ behB t (t.text.take c) = bs) → b.2.deep < t.deep) := by
  have cl : (t.text.take c).length = c := by rw [List.length_take]; omega
  have one : behB t (t.text.take c) = [brn t c] → JT b.2 ∧ b.1.length ≤ 1 ∧ b.2.deep ≤ t.deep := fun e => by
    rw [e] at hb
    have eb : b = brn t c := by simpa using hb
    subst eb
    refine ⟨⟨wf_set h.wf, fun x m hx => ?_, fun x m hx d hd => ?_, ?_⟩, ?_, Nat.le_of_eq (set_deep t _)⟩
    · have := h.len _ m ((mem_brn hc).mpr ⟨x, rfl, hx⟩)
      simp at this; omega
    · exact h.asc _ m ((mem_brn hc).mpr ⟨x, rfl, hx⟩) d (List.mem_append_right _ (List.mem_append_right _ hd))
    · show (t.setText _).rws.length ≤ 1000
      rw [set_rws_len]; exact h.many
    · show ((t.text.drop c).take 1).length ≤ 1
      rw [List.length_take]; omega
  cases t with
  | leaf u n =>
    have e : behB (.leaf u n) (u.take c) = [brn (.leaf u n) c] := by
      rw [beh_one (.inl ⟨n, rfl⟩)]; exact congrArg (fun z => [brn (.leaf u n) z]) cl
    obtain ⟨a1, a2, a3⟩ := one e
    exact ⟨a1, a2, a3, fun ⟨bs, z, _⟩ => by cases z⟩
  | fork u bs =>
    by_cases e : u.take c = u
    · have e0 : behB (.fork u bs) ((Tr.fork u bs).text.take c) = bs := by
        show behB (.fork u bs) (u.take c) = bs
        rw [e]; exact beh_all
      rw [e0] at hb
      obtain ⟨f1, f2, f3⟩ := h.fits.sub hb
      refine ⟨⟨f1.1, fun x m hx => ?_, h.asc.sub hb, ?_⟩, f3, Nat.le_of_lt f2, fun _ => f2⟩
      · have := h.len _ m (mem_fork.mpr ⟨_, rfl, mem_rwss.mpr ⟨b, hb, x, rfl, hx⟩⟩)
        simp at this; omega
      · have h1 := rwss_len hb
        have h2 := h.many
        simp only [Tr.rws, List.length_map] at h2
        omega
    · have e0 : behB (.fork u bs) (u.take c) = [brn (.fork u bs) c] := by
        rw [beh_one (t := .fork u bs) (.inr fun z => e (Eq.symm z))]; exact congrArg (fun z => [brn (.fork u bs) z]) cl
      obtain ⟨a1, a2, a3⟩ := one e0
      refine ⟨a1, a2, a3, fun ⟨ds, z, z2⟩ => ?_⟩
      exfalso
      have ez : bs = ds := by injection z
      subst ez
      have z2 : behB (.fork u bs) (u.take c) = bs := z2
      rw [e0] at z2
      have := h.wf.1
      rw [← z2] at this
      simp at this
/-- two trees, the branches of the one joined so far with i of the other's -/
structure Jn (bs cs : List (List Nat × Tr)) (i : Nat) (ds : List (List Nat × Tr)) : Prop where
  wf : WfB ds
  mem : ∀ s r, r ∈ rO (innr ds s) ↔ r ∈ rO (innr bs s) ∨ r ∈ rO (innr (cs.take i) s)
  old : ∀ s, innr (cs.take i) s = none → innr ds s = innr bs s
  non : ∀ s, ¬ Share (rO (innr bs s)) (rO (innr (cs.take i) s))
theorem jn0 {bs cs : List (List Nat × Tr)} (w : WfB bs) : Jn bs cs 0 bs := by
  refine ⟨w, fun s r => ?_, fun s _ => rfl, fun s => ?_⟩
  · simp [innr, rO]
  · rintro ⟨x, m, k, _, h⟩
    simp [innr, rO] at h
theorem jn_ahead {cs : List (List Nat × Tr)} (w : WfB cs) {i : Nat} {c : List Nat × Tr} (hc : cs[i]? = some c) : innr (cs.take i) c.1 = none := by
  cases h : innr (cs.take i) c.1 with
  | none => rfl
  | some u =>
    have w' := (wfB_iff.mp w).2
    have hlt := (List.getElem?_eq_some_iff.mp hc).1
    have e : cs = cs.take i ++ c :: cs.drop (i + 1) := by
      have := List.drop_eq_getElem_cons hlt
      rw [(List.getElem?_eq_some_iff.mp hc).2] at this
      rw [← this, List.take_append_drop]
    rw [e] at w'
    have := (List.pairwise_append.mp w').2.2 _ (innr_mem h) c (List.mem_cons_self ..)
    exact absurd this (lt_irr _)
theorem jn_succ {bs cs ds : List (List Nat × Tr)} {i : Nat} (j : Jn bs cs i ds) (wb : WfB bs) (wc : WfB cs) {c : List Nat × Tr} (hc : cs[i]? = some c) (hn : ¬ Share (rO (innr bs c.1)) c.2.rws) {u : Tr} (wu : Wf u) (hu : ∀ r, r ∈ u.rws ↔ r ∈ rO (innr bs c.1) ∨ r ∈ c.2.rws) :
    Jn bs cs (i + 1) (placed ds (c.1, u)) := by
  have hd := wfB_iff.mp j.wf
  have hcm : c ∈ cs := List.mem_of_getElem? hc
  have okc := (wfB_iff.mp wc).1 c hcm
  have ah := jn_ahead wc hc
  have tk : ∀ s, innr (cs.take (i + 1)) s = (innr (cs.take i) s).or (if c.1 = s then some c.2 else none) := fun s => by
    rw [List.take_add_one, hc]
    show innr (cs.take i ++ [c]) s = _
    rw [innr_app, innr_sing]
  have ok : OkB (c.1, u) := by
    refine ⟨okc.1, fun e => ?_, wu⟩
    have e : c.1 = [] := e
    obtain ⟨n, en⟩ := okc.2.1 e
    refine ⟨n, one_tree u wu (.leaf [] n) trivial fun ⟨x, m⟩ => ?_⟩
    show (x, m) ∈ u.rws ↔ _
    rw [hu, en]
    cases hi : innr bs c.1 with
    | none => simp [rO]
    | some v =>
      exfalso
      have mv := innr_mem hi
      obtain ⟨k, ek⟩ := ((wfB_iff.mp wb).1 _ mv).2.1 e
      have ek : v = .leaf [] k := ek
      refine hn ⟨[], k, n, ?_, ?_⟩
      · rw [hi, ek]; simp [rO, Tr.rws]
      · rw [en]; simp [Tr.rws]
  have ip := fun s => innr_placed (b := (c.1, u)) hd.2 s
  refine ⟨wfB_iff.mpr ⟨fun b hb => ?_, placed_pw hd.2⟩, fun s r => ?_, fun s hs => ?_, fun s => ?_⟩
  · rcases mem_placed.mp hb with ⟨hb, _⟩ | e
    · exact hd.1 b hb
    · rw [e]; exact ok
  · rw [ip s, tk s]
    by_cases e : c.1 = s
    · subst e
      rw [if_pos rfl, if_pos rfl, ah]
      exact hu r
    · rw [if_neg (show ¬ (c.1, u).1 = s from e), if_neg e, j.mem]
      cases innr (cs.take i) s <;> rfl
  · rw [tk s] at hs
    rw [ip s]
    by_cases e : c.1 = s
    · subst e
      rw [if_pos rfl, ah] at hs; cases hs
    · rw [if_neg e] at hs
      rw [if_neg (show ¬ (c.1, u).1 = s from e)]
      refine j.old s ?_
      cases h : innr (cs.take i) s with
      | none => rfl
      | some v => rw [h] at hs; cases hs
  · rw [tk s]
    by_cases e : c.1 = s
    · subst e
      rw [if_pos rfl, ah]
      exact hn
    · rw [if_neg e]
      have := j.non s
      cases h : innr (cs.take i) s with
      | none => rw [h] at this; exact this
      | some v => rw [h] at this; exact this
/-- all branches joined: the fork -/
theorem jn_all {t u : Tr} (ht : Wf t) (hu : Wf u) (ne : ¬ ((∃ n, t = .leaf t.text n) ∧ (∃ n, u = .leaf u.text n) ∧ t.text = u.text)) {ds : List (List Nat × Tr)} {k : Nat} (hk : (behB u (t.text.take (lcp t.text u.text))).length ≤ k) (j : Jn (behB t (t.text.take (lcp t.text u.text))) (behB u (t.text.take (lcp t.text u.text))) k ds) :
    Wf (.fork (t.text.take (lcp t.text u.text)) ds) ∧ (∀ r, r ∈ (Tr.fork (t.text.take (lcp t.text u.text)) ds).rws ↔ r ∈ t.rws ∨ r ∈ u.rws) ∧ ¬ Share t.rws u.rws := by
  have l1 := lcp_le1 t.text u.text
  have l2 := lcp_le2 t.text u.text
  obtain ⟨wb, mb⟩ := beh_wf ht l1
  have hc := beh_wf hu l2
  rw [← lcp_take] at hc
  obtain ⟨wc, mc⟩ := hc
  have cl : (t.text.take (lcp t.text u.text)).length = lcp t.text u.text := by rw [List.length_take]; omega
  have hk' : (behB u (t.text.take (lcp t.text u.text))).take k = behB u (t.text.take (lcp t.text u.text)) := List.take_of_length_le hk
  have hmem := j.mem
  have hnon := j.non
  rw [hk'] at hmem hnon
  have some_of : ∀ {s : List Nat} {v : Tr} (bs : List (List Nat × Tr)), WfB bs → (s, v) ∈ bs → ∃ r, r ∈ rO (innr bs s) := fun {s v} bs w hv => by
    obtain ⟨r, hr⟩ := rws_ne v ((wfB_iff.mp w).1 _ hv).2.2
    exact ⟨r, by rw [mem_innr (wfB_iff.mp w).2 hv]; exact hr⟩
  have in_ds : ∀ {s : List Nat}, (∃ r, r ∈ rO (innr (behB t (t.text.take (lcp t.text u.text))) s)) ∨ (∃ r, r ∈ rO (innr (behB u (t.text.take (lcp t.text u.text))) s)) → ∃ v, (s, v) ∈ ds := fun {s} h => by
    have : ∃ r, r ∈ rO (innr ds s) := h.elim (fun ⟨r, hr⟩ => ⟨r, (hmem s r).mpr (.inl hr)⟩) fun ⟨r, hr⟩ => ⟨r, (hmem s r).mpr (.inr hr)⟩
    obtain ⟨r, hr⟩ := this
    cases hi : innr ds s with
    | none => rw [hi] at hr; simp [rO] at hr
    | some v => exact ⟨v, innr_mem hi⟩
  have two : 2 ≤ ds.length := by
    have byfork : ∀ (bs : List (List Nat × Tr)) (p : List Nat), Wf (.fork p bs) → (∀ s v, (s, v) ∈ bs → ∃ v', (s, v') ∈ ds) → 2 ≤ ds.length := fun bs p w h => by
      have pw := (wfB_iff.mp w.2).2
      obtain ⟨b, hb, c, hc, n⟩ := fork_two w
      obtain ⟨v1, m1⟩ := h b.1 b.2 hb
      obtain ⟨v2, m2⟩ := h c.1 c.2 hc
      exact two_of m1 m2 fun e => n (pair_eq pw hb hc (by injection e))
    by_cases f1 : (∃ n, t = .leaf t.text n) ∨ t.text ≠ t.text.take (lcp t.text u.text)
    · by_cases f2 : (∃ n, u = .leaf u.text n) ∨ u.text ≠ t.text.take (lcp t.text u.text)
      · have e1 := beh_one f1
        have e2 := beh_one f2
        rw [cl] at e1 e2
        have dn : (brn t (lcp t.text u.text)).1 ≠ (brn u (lcp t.text u.text)).1 := drop_ne fun ⟨h1, h2⟩ => by
          have et : t.text = t.text.take (lcp t.text u.text) := by rw [h1, List.take_length]
          have eu : u.text = t.text.take (lcp t.text u.text) := by rw [lcp_take, h2, List.take_length]
          refine ne ⟨f1.elim id fun z => absurd et z, f2.elim id fun z => absurd eu z, ?_⟩
          rw [eu]; exact et
        rw [e1, e2] at in_ds
        rw [e1] at wb
        rw [e2] at wc
        obtain ⟨v1, m1⟩ := in_ds (.inl (some_of (v := (brn t (lcp t.text u.text)).2) _ wb (List.mem_singleton.mpr rfl)))
        obtain ⟨v2, m2⟩ := in_ds (.inr (some_of (v := (brn u (lcp t.text u.text)).2) _ wc (List.mem_singleton.mpr rfl)))
        exact two_of m1 m2 fun e => dn (by injection e)
      · obtain ⟨n1, n2⟩ := not_or.mp f2
        have eu : u.text = t.text.take (lcp t.text u.text) := Decidable.byContradiction fun z => n2 z
        cases u with
        | leaf x m => exact absurd ⟨m, rfl⟩ n1
        | fork x cs =>
          have eu : x = t.text.take (lcp t.text x) := eu
          refine byfork cs x hu fun s v hv => ?_
          refine in_ds (.inr ?_)
          show ∃ r, r ∈ rO (innr (behB (.fork x cs) (t.text.take (lcp t.text x))) s)
          rw [← eu, beh_all]
          exact some_of cs hu.2 hv
    · obtain ⟨n1, n2⟩ := not_or.mp f1
      have et : t.text = t.text.take (lcp t.text u.text) := Decidable.byContradiction fun z => n2 z
      cases t with
      | leaf x m => exact absurd ⟨m, rfl⟩ n1
      | fork x bs =>
        have et : x = x.take (lcp x u.text) := et
        refine byfork bs x ht fun s v hv => ?_
        refine in_ds (.inl ?_)
        show ∃ r, r ∈ rO (innr (behB (.fork x bs) (x.take (lcp x u.text))) s)
        rw [← et, beh_all]
        exact some_of bs ht.2 hv
  have wf : Wf (.fork (t.text.take (lcp t.text u.text)) ds) := ⟨two, j.wf⟩
  refine ⟨wf, fun ⟨x, m⟩ => ?_, ?_⟩
  · rw [mem_fork, mb, mc]
    constructor
    · rintro ⟨z, e, hz⟩
      rw [rwss_iff j.wf, hmem] at hz
      rcases hz with hz | hz
      · exact .inl ⟨z, e, (rwss_iff wb).mpr hz⟩
      · exact .inr ⟨z, e, (rwss_iff wc).mpr hz⟩
    · rintro (⟨z, e, hz⟩ | ⟨z, e, hz⟩)
      · exact ⟨z, e, (rwss_iff j.wf).mpr ((hmem _ _).mpr (.inl ((rwss_iff wb).mp hz)))⟩
      · exact ⟨z, e, (rwss_iff j.wf).mpr ((hmem _ _).mpr (.inr ((rwss_iff wc).mp hz)))⟩
  · rintro ⟨x, m, k', h1, h2⟩
    obtain ⟨z, e, hz⟩ := (mb x m).mp h1
    obtain ⟨z', e', hz'⟩ := (mc x k').mp h2
    have ez : z' = z := List.append_cancel_left (e'.symm.trans e)
    subst ez
    exact hnon _ ⟨_, m, k', (rwss_iff wb).mp hz, (rwss_iff wc).mp hz'⟩
/-- where a branch's names are shared, the trees' are -/
theorem share_up {t u : Tr} (ht : Wf t) (hu : Wf u) {s : List Nat} (h : Share (rO (innr (behB t (t.text.take (lcp t.text u.text))) s)) (rO (innr (behB u (t.text.take (lcp t.text u.text))) s))) : Share t.rws u.rws := by
  obtain ⟨wb, mb⟩ := beh_wf ht (lcp_le1 t.text u.text)
  have hc := beh_wf hu (lcp_le2 t.text u.text)
  rw [← lcp_take] at hc
  obtain ⟨wc, mc⟩ := hc
  obtain ⟨x, m, k, h1, h2⟩ := h
  refine ⟨t.text.take (lcp t.text u.text) ++ (s ++ x), m, k, (mb _ _).mpr ⟨_, rfl, ?_⟩, (mc _ _).mpr ⟨_, rfl, ?_⟩⟩
  · cases hi : innr (behB t (t.text.take (lcp t.text u.text))) s with
    | none => rw [hi] at h1; simp [rO] at h1
    | some v => rw [hi] at h1; exact mem_rwss.mpr ⟨_, innr_mem hi, x, rfl, h1⟩
  · cases hi : innr (behB u (t.text.take (lcp t.text u.text))) s with
    | none => rw [hi] at h2; simp [rO] at h2
    | some v => rw [hi] at h2; exact mem_rwss.mpr ⟨_, innr_mem hi, x, rfl, h2⟩
/-- a branch of the one and one of the other with the same sign: together less deep -/
theorem beh_deep {t u : Tr} (ht : JT t) (hu : JT u) (ne : ¬ ((∃ n, t = .leaf t.text n) ∧ (∃ n, u = .leaf u.text n) ∧ t.text = u.text)) {c : List Nat × Tr} (hc : c ∈ behB u (t.text.take (lcp t.text u.text))) :
    dpt (innr (behB t (t.text.take (lcp t.text u.text))) c.1) + c.2.deep < t.deep + u.deep := by
  have l1 := lcp_le1 t.text u.text
  have l2 := lcp_le2 t.text u.text
  have cl : (t.text.take (lcp t.text u.text)).length = lcp t.text u.text := by rw [List.length_take]; omega
  have hc' := hc
  rw [lcp_take] at hc'
  obtain ⟨_, _, c3, c4⟩ := hu.beh l2 hc'
  cases hi : innr (behB t (t.text.take (lcp t.text u.text))) c.1 with
  | none =>
    have := t.deep_pos
    show 0 + c.2.deep < _
    omega
  | some v =>
    obtain ⟨_, _, v3, v4⟩ := ht.beh l1 (innr_mem hi)
    show v.deep + c.2.deep < _
    have v3 : v.deep ≤ t.deep := v3
    have v4 : (∃ bs, t = .fork t.text bs ∧ behB t (t.text.take (lcp t.text u.text)) = bs) → v.deep < t.deep := v4
    by_cases f1 : (∃ n, t = .leaf t.text n) ∨ t.text ≠ t.text.take (lcp t.text u.text)
    · by_cases f2 : (∃ n, u = .leaf u.text n) ∨ u.text ≠ t.text.take (lcp t.text u.text)
      · exfalso
        have e1 := beh_one f1
        have e2 := beh_one f2
        rw [cl] at e1 e2
        rw [e2] at hc
        have ec : c = brn u (lcp t.text u.text) := by simpa using hc
        rw [e1, ec] at hi
        have dn : (brn t (lcp t.text u.text)).1 ≠ (brn u (lcp t.text u.text)).1 := drop_ne fun ⟨h1, h2⟩ => by
          have et : t.text = t.text.take (lcp t.text u.text) := by rw [h1, List.take_length]
          have eu : u.text = t.text.take (lcp t.text u.text) := by rw [lcp_take, h2, List.take_length]
          refine ne ⟨f1.elim id fun z => absurd et z, f2.elim id fun z => absurd eu z, ?_⟩
          rw [eu]; exact et
        rw [innr_one dn] at hi; cases hi
      · obtain ⟨n1, n2⟩ := not_or.mp f2
        have eu : u.text = t.text.take (lcp t.text u.text) := Decidable.byContradiction fun z => n2 z
        have : c.2.deep < u.deep := by
          refine c4 ?_
          rw [← lcp_take, ← eu]
          cases u with
          | leaf x m => exact absurd ⟨m, rfl⟩ n1
          | fork x cs => exact ⟨cs, rfl, beh_all⟩
        omega
    · obtain ⟨n1, n2⟩ := not_or.mp f1
      have et : t.text = t.text.take (lcp t.text u.text) := Decidable.byContradiction fun z => n2 z
      have : v.deep < t.deep := by
        refine v4 ?_
        rw [← et]
        cases t with
        | leaf x m => exact absurd ⟨m, rfl⟩ n1
        | fork x cs => exact ⟨cs, rfl, beh_all⟩
      omega
/-- joined's promise at n calls -/
def InN (K : PySem.W.Frag) (H : Hp) (v : V) (o : Option Tr) : Prop := Dp K H v (oD o) ∧ ∀ t, o = some t → JT t
def spJoinedN (K : PySem.W.Frag) (CN : Addr) (n : Nat) : Sp := fun vs H Q E => ∃ (v w : V) (o1 o2 : Option Tr), vs = [v, w] ∧ InN K H v o1 ∧ InN K H w o2 ∧ dpt o1 + dpt o2 < n ∧
  (Share (rO o1) (rO o2) → ∀ H', Same H H' → E (.ref CN) none H') ∧ (¬ Share (rO o1) (rO o2) → ∀ (o : Option Tr) (u : V) (H' : Hp), (∀ t, o = some t → Wf t) → (∀ r, r ∈ rO o ↔ r ∈ rO o1 ∨ r ∈ rO o2) → Same H H' → Dp K H' u (oD o) → Q u H')
theorem joined_imp {K : PySem.W.Frag} {CN : Addr} (vs : List V) (H : Hp) (Q : VK) (E : XK) (h : spJoined K CN vs H Q E) : spJoinedN K CN 99 vs H Q E := by
  obtain ⟨v, w, o1, o2, R, S, rfl, ⟨a1, a2, a3, a4, a5, a6⟩, ⟨b1, b2, b3, b4, b5, b6⟩, q1, q2⟩ := h
  obtain ⟨e1, up1, w1⟩ := treed_rO a2
  obtain ⟨e2, up2, w2⟩ := treed_rO b2
  have jt : ∀ {o : Option Tr} {R : List Row}, Treed o R → R.length ≤ 1000 → (∀ r ∈ R, r.1.length ≤ 200 ∧ ∀ c ∈ r.1, c < 127) → ∀ t, o = some t → JT t := fun {o R} ht hl hr t e => by
    subst e
    have hm : ∀ x m, (x, m) ∈ t.rws → (x, m) ∈ R := fun x m hx => by rw [← ht.2]; exact hx
    exact ⟨ht.1, fun x m hx => (hr _ (hm x m hx)).1, fun x m hx => (hr _ (hm x m hx)).2, by rw [ht.2]; exact hl⟩
  refine ⟨v, w, o1, o2, rfl, ⟨a1, jt a2 a5 a6⟩, ⟨b1, jt b2 b5 b6⟩, by omega, fun sh => q1 (by rw [← e1, ← e2]; exact sh), fun ns o u H' wf hm s hu => ?_⟩
  have ho := treed_of wf
  exact q2 (by rw [← e1, ← e2]; exact ns) o (rO o) u H' ⟨(treed_rO ho).2.1, fun r => by rw [hm, e1, e2]⟩ ho s hu
end RT

/-! what is asked of trees -/
namespace RT
open PySem PySem.Spec PyProof.Rows L2
def spBelow (K : PySem.W.Frag) : Sp := fun vs H Q _ => ∃ (v : V) (o : Option Tr) (b : List Nat) (R : List Row), vs = [v, .str (st b)] ∧ Dp K H v (oD o) ∧ Treed o R ∧ FitsO o ∧ dpt o < 50 ∧ b.length ≤ 1000 ∧
  ∀ (u : V) (o2 : Option Tr) (H' : Hp), Treed o2 (goneR b R) → Same H H' → Dp K H' u (oD o2) → Q u H'
theorem below_gone {b : List Nat} (R : List Row) : below b R = (goneR b R).map (pre b) := by
  unfold below goneR
  rw [List.map_map]
  conv => lhs; rw [← List.map_id (R.filter (tk b))]
  refine List.map_congr_left fun r hr => ?_
  have := tk_split (List.mem_filter.mp hr).2
  exact Prod.ext this rfl
theorem rows_rO (o : Option Tr) : rowsOf Tr.rws o = rO o := by cases o <;> rfl
/-! ### the longest name with which a text begins -/
def IsLg (R : List Row) (x : List Nat) : Option (List Nat) → Prop
  | none => ∀ z m, (z, m) ∈ R → ¬ z <+: x
  | some z => z <+: x ∧ (∃ m, (z, m) ∈ R) ∧ ∀ z' m', (z', m') ∈ R → z' <+: x → z' <+: z
theorem pre_not_lt {a b : List Nat} (h : a <+: b) : ¬ b < a := by
  obtain ⟨y, rfl⟩ := h
  intro z
  have := (app_lt a (a := y) (b := [])).mp (by rw [List.append_nil]; exact z)
  exact lt_nil _ this
theorem lg_lgs {R : List Row} (up : Up R) {x : List Nat} {r : Option (List Nat)} (h : IsLg R x r) : r = lgs R x := by
  have mem : ∀ y, y ∈ R.filter (fun r => decide (x.take r.1.length = r.1)) ↔ y ∈ R ∧ y.1 <+: x := fun y => by
    rw [List.mem_filter, decide_eq_true_eq, List.prefix_iff_eq_take]
    exact and_congr Iff.rfl eq_comm
  unfold lgs
  have upF : Up (R.filter fun r => decide (x.take r.1.length = r.1)) := up.filter _
  generalize R.filter (fun r => decide (x.take r.1.length = r.1)) = F at mem upF
  cases r with
  | none =>
    have : F = [] := List.eq_nil_iff_forall_not_mem.mpr fun y hy => by
      obtain ⟨h1, h2⟩ := (mem y).mp hy
      exact h y.1 y.2 h1 h2
    rw [this]; rfl
  | some z =>
    obtain ⟨h1, ⟨m, h2⟩, h3⟩ := h
    have hz := (mem (z, m)).mpr ⟨h2, h1⟩
    have ne : F ≠ [] := fun e => by rw [e] at hz; simp at hz
    have e := List.dropLast_concat_getLast ne
    rw [List.getLast?_eq_some_getLast ne]
    show some z = some (F.getLast ne).1
    have hl := (mem _).mp (List.getLast_mem ne)
    have p1 := h3 (F.getLast ne).1 (F.getLast ne).2 hl.1 hl.2
    rw [← e] at hz upF
    rcases List.mem_append.mp hz with hz | hz
    · have := (List.pairwise_append.mp upF).2.2 _ hz _ (List.mem_singleton.mpr rfl)
      exact absurd this (pre_not_lt p1)
    · rw [← List.mem_singleton.mp hz]
section
variable {t : List Nat} {bs : List (List Nat × Tr)}
theorem lg_in (w : Wf (.fork t bs)) {y x' : List Nat} {m : Int} (hx : (x', m) ∈ (Tr.fork t bs).rws) (hp : x' <+: t ++ y) : ∃ q, x' = t ++ q ∧ (q.drop 1, m) ∈ rO (innr bs (q.take 1)) ∧ (q = [] ∨ (q.take 1 = y.take 1 ∧ q.drop 1 <+: y.drop 1)) := by
  obtain ⟨q, rfl, hq⟩ := mem_fork.mp hx
  have hq' := (rwss_iff w.2).mp hq
  refine ⟨q, rfl, hq', ?_⟩
  obtain ⟨s, hs⟩ := (List.prefix_append_right_inj t).mp hp
  cases q with
  | nil => exact .inl rfl
  | cons c r =>
    refine .inr ?_
    rw [← hs]
    exact ⟨rfl, List.prefix_append _ _⟩
theorem lg_first (w : Wf (.fork t bs)) {y z : List Nat} (h : IsLg (rO (innr bs (y.take 1))) (y.drop 1) (some z)) : IsLg (Tr.fork t bs).rws (t ++ y) (some (t ++ y.take 1 ++ z)) := by
  obtain ⟨h1, ⟨m, h2⟩, h3⟩ := h
  refine ⟨?_, ⟨m, ?_⟩, fun x' m' hx hp => ?_⟩
  · rw [List.append_assoc]
    refine (List.prefix_append_right_inj t).mpr ?_
    conv => rhs; rw [← List.take_append_drop 1 y]
    exact (List.prefix_append_right_inj _).mpr h1
  · cases hi : innr bs (y.take 1) with
    | none => rw [hi] at h2; simp [rO] at h2
    | some u =>
      rw [hi] at h2
      exact mem_fork.mpr ⟨y.take 1 ++ z, by rw [List.append_assoc], mem_rwss.mpr ⟨_, innr_mem hi, z, rfl, h2⟩⟩
  · obtain ⟨q, rfl, hq, c⟩ := lg_in w hx hp
    rw [List.append_assoc]
    refine (List.prefix_append_right_inj t).mpr ?_
    rcases c with rfl | ⟨e1, e2⟩
    · exact List.nil_prefix
    · rw [e1] at hq
      have := h3 _ m' hq e2
      conv => lhs; rw [← List.take_append_drop 1 q]
      rw [e1]
      exact (List.prefix_append_right_inj _).mpr this
theorem lg_end (w : Wf (.fork t bs)) {y z : List Nat} (h : IsLg (rO (innr bs (y.take 1))) (y.drop 1) none) (h2 : IsLg (rO (innr bs [])) (y.drop 1) (some z)) : IsLg (Tr.fork t bs).rws (t ++ y) (some (t ++ [] ++ z)) := by
  obtain ⟨_, ⟨m, h2⟩, _⟩ := h2
  cases hi : innr bs [] with
  | none => rw [hi] at h2; simp [rO] at h2
  | some u =>
    have mu := innr_mem hi
    obtain ⟨n, en⟩ := ((wfB_iff.mp w.2).1 _ mu).2.1 rfl
    have en : u = .leaf [] n := en
    rw [hi, en] at h2
    have ez : z = [] := (mem_leaf.mp h2).1
    subst ez
    refine ⟨by rw [List.append_nil, List.append_nil]; exact List.prefix_append _ _, ⟨m, ?_⟩, fun x' m' hx hp => ?_⟩
    · refine mem_fork.mpr ⟨[], by simp, mem_rwss.mpr ⟨_, mu, [], rfl, ?_⟩⟩
      rw [en]; exact h2
    · obtain ⟨q, rfl, hq, c⟩ := lg_in w hx hp
      rcases c with rfl | ⟨e1, e2⟩
      · simp
      · rw [e1] at hq
        exact absurd e2 (h _ m' hq)
theorem lg_none (w : Wf (.fork t bs)) {y : List Nat} (h : IsLg (rO (innr bs (y.take 1))) (y.drop 1) none) (h2 : IsLg (rO (innr bs [])) (y.drop 1) none) : IsLg (Tr.fork t bs).rws (t ++ y) none := fun x' m' hx hp => by
  obtain ⟨q, rfl, hq, c⟩ := lg_in w hx hp
  rcases c with rfl | ⟨e1, e2⟩
  · exact h2 _ m' hq List.nil_prefix
  · rw [e1] at hq
    exact h _ m' hq e2
end
def spLongestN (K : PySem.W.Frag) (n : Nat) : Sp := fun vs H Q _ => ∃ (v : V) (o : Option Tr) (x : List Nat), vs = [v, .str (st x)] ∧ Dp K H v (oD o) ∧ FitsO o ∧ dpt o < n ∧ x.length ≤ 1000 ∧ ∀ (r : Option (List Nat)) (H' : Hp), IsLg (rO o) x r → Same H H' → Q (optT r) H'
theorem longest_imp {K : PySem.W.Frag} (vs : List V) (H : Hp) (Q : VK) (E : XK) (h : spLongest K vs H Q E) : spLongestN K 50 vs H Q E := by
  obtain ⟨v, o, R, x, rfl, ⟨hv, tr, g⟩, hx, q⟩ := h
  obtain ⟨ff, fd⟩ := good_fits tr g
  refine ⟨v, o, x, rfl, hv, ff, fd, by omega, fun r H' h s => ?_⟩
  rw [(treed_rO tr).1] at h
  rw [lg_lgs g.1 h]
  exact q H' s
/-! ### the first name behind a text -/
theorem aft_at {R : List Row} {x : List Nat} {i : Nat} {r : Row} (hr : R[i]? = some r) (h : x < r.1) (n : (R.take i).filter (fun r => decide (x < r.1)) = []) : aft R x = some r.1 := by
  have hlt := (List.getElem?_eq_some_iff.mp hr).1
  have e : R = R.take i ++ r :: R.drop (i + 1) := by
    have := List.drop_eq_getElem_cons hlt
    rw [(List.getElem?_eq_some_iff.mp hr).2] at this
    rw [← this, List.take_append_drop]
  unfold aft
  rw [e, List.filter_append, n, List.nil_append, List.filter_cons_of_pos (by simpa using h)]
  rfl
theorem aft_no {R : List Row} {x : List Nat} (n : R.filter (fun r => decide (x < r.1)) = []) : aft R x = none := by
  unfold aft; rw [n]; rfl
theorem aft_step {R : List Row} {x : List Nat} {i : Nat} {r : Row} (hr : R[i]? = some r) (h : ¬ x < r.1) (n : (R.take i).filter (fun r => decide (x < r.1)) = []) : (R.take (i + 1)).filter (fun r => decide (x < r.1)) = [] := by
  rw [List.take_add_one, hr, List.filter_append, n]
  simp [h]
/-! ### the longest common beginning -/
theorem cm_tree {t : Tr} {b : List Nat} {R : List Row} (h : Treed (some t) (goneR b R)) : cmOf (below b R) = some (b ++ t.text) := by
  rw [below_gone, ← h.2]
  have up := up_rws t h.1
  obtain ⟨r0, hr0⟩ := rws_ne t h.1
  have ne : t.rws ≠ [] := fun e => by rw [e] at hr0; simp at hr0
  obtain ⟨a, ha⟩ : ∃ a, t.rws.head? = some a := by
    cases e : t.rws with
    | nil => exact absurd e ne
    | cons x r => exact ⟨x, rfl⟩
  obtain ⟨l, hl⟩ : ∃ l, t.rws.getLast? = some l := ⟨_, List.getLast?_eq_some_getLast ne⟩
  unfold cmOf
  rw [List.head?_map, List.getLast?_map, ha, hl]
  show some ((pre b a).1.take (lcp (pre b a).1 (pre b l).1)) = _
  have ma : a ∈ t.rws := List.mem_of_mem_head? (by rw [ha]; rfl)
  have ml : l ∈ t.rws := List.mem_of_getLast? hl
  have key : a.1.take (lcp a.1 l.1) = t.text := by
    have pa := text_pre (x := a.1) (m := a.2) ma
    have pl := text_pre (x := l.1) (m := l.2) ml
    have ab := all_begin up ha hl
    have p1 : a.1.take (lcp a.1 l.1) <+: t.text := by
      cases t with
      | leaf u n => rw [(mem_leaf (x := a.1) (m := a.2)).mp ma |>.1]; exact List.take_prefix _ _
      | fork u bs => exact fork_text h.1 fun x m hx => ab _ hx
    have p2 : t.text <+: a.1.take (lcp a.1 l.1) := by
      have more : ∀ {a b : List Nat} {p : List Nat}, p <+: a → p <+: b → p <+: a.take (lcp a b) := by
        intro a
        induction a with
        | nil => intro b p h1 _; simpa [lcp] using h1
        | cons x r ih =>
          intro b p h1 h2
          cases p with
          | nil => exact List.nil_prefix
          | cons c p =>
            obtain ⟨y, hy⟩ := h1
            obtain ⟨z, hz⟩ := h2
            simp only [List.cons_append, List.cons.injEq] at hy
            obtain ⟨rfl, hy⟩ := hy
            cases b with
            | nil => simp at hz
            | cons d s =>
              simp only [List.cons_append, List.cons.injEq] at hz
              obtain ⟨rfl, hz⟩ := hz
              have := ih (b := s) (p := p) ⟨y, hy⟩ ⟨z, hz⟩
              unfold lcp
              rw [if_pos rfl, List.take_succ_cons]
              exact (List.prefix_cons_inj c).mpr this
      exact more pa pl
    exact List.IsPrefix.eq_of_length p1 (Nat.le_antisymm p1.length_le p2.length_le)
  have grow : ∀ p a l : List Nat, (p ++ a).take (lcp (p ++ a) (p ++ l)) = p ++ a.take (lcp a l) := fun p a l => by
    induction p with
    | nil => rfl
    | cons c p ih =>
      rw [List.cons_append, List.cons_append, lcp, if_pos rfl, List.take_succ_cons, ih, List.cons_append]
  show some ((b ++ a.1).take (lcp (b ++ a.1) (b ++ l.1))) = _
  rw [grow, key]
/-! ### what can come next -/
theorem sg_pre (b : List Nat) (r : Row) : sg b.length (pre b r) = r.1.take 1 := by
  unfold sg pre
  show ((b ++ r.1).drop b.length).take 1 = _
  rw [List.drop_left]
theorem nxt_none {b : List Nat} {R : List Row} (h : goneR b R = []) : Nxt b R [] := by
  refine ⟨List.Pairwise.nil, fun s => ?_⟩
  rw [below_gone, h]; simp
theorem nxt_one' {t : Tr} {b : List Nat} {R : List Row} (h : Treed (some t) (goneR b R)) (c : (∃ n, t = .leaf t.text n) ∨ t.text ≠ []) : Nxt b R [t.text.take 1] := by
  refine ⟨List.pairwise_singleton _ _, fun s => ?_⟩
  rw [below_gone, ← h.2, List.mem_singleton]
  have all : ∀ r ∈ t.rws, r.1.take 1 = t.text.take 1 := fun r hr => by
    rcases c with ⟨n, e⟩ | ne
    · rw [e] at hr
      rw [(mem_leaf (x := r.1) (m := r.2)).mp hr |>.1]
    · obtain ⟨y, hy⟩ := text_pre (x := r.1) (m := r.2) hr
      rw [← hy]
      cases ht : t.text with
      | nil => exact absurd ht ne
      | cons c r => rfl
  constructor
  · intro e
    obtain ⟨r, hr⟩ := rws_ne t h.1
    exact ⟨pre b r, List.mem_map.mpr ⟨r, hr, rfl⟩, by rw [sg_pre, all r hr, e]⟩
  · rintro ⟨r, hr, e⟩
    obtain ⟨r0, h0, rfl⟩ := List.mem_map.mp hr
    rw [sg_pre, all r0 h0] at e
    exact e.symm
theorem nxt_fork {bs : List (List Nat × Tr)} {b : List Nat} {R : List Row} (h : Treed (some (.fork [] bs)) (goneR b R)) : Nxt b R (bs.map (·.1)) := by
  have w := wfB_iff.mp h.1.2
  refine ⟨List.pairwise_map.mpr w.2, fun s => ?_⟩
  rw [below_gone, ← h.2, List.mem_map]
  constructor
  · rintro ⟨c, hc, rfl⟩
    obtain ⟨⟨y, m⟩, hy⟩ := rws_ne c.2 (w.1 c hc).2.2
    refine ⟨pre b (c.1 ++ y, m), List.mem_map.mpr ⟨_, mem_fork.mpr ⟨c.1 ++ y, rfl, mem_rwss.mpr ⟨c, hc, y, rfl, hy⟩⟩, rfl⟩, ?_⟩
    rw [sg_pre]
    exact (sign_of (w.1 c hc) hy).1.symm
  · rintro ⟨r, hr, e⟩
    obtain ⟨⟨x, m⟩, h0, rfl⟩ := List.mem_map.mp hr
    rw [sg_pre] at e
    obtain ⟨y, rfl, hy⟩ := mem_fork.mp h0
    obtain ⟨c, hc, v, rfl, hv⟩ := mem_rwss.mp hy
    refine ⟨c, hc, ?_⟩
    rw [← e]
    exact (sign_of (w.1 c hc) hv).1
theorem optT_ne {z : List Nat} : decide (optT (some z) = V.non) = false := decide_eq_false fun e => by cases e
end RT

/-! what is a name -/
namespace RT
open PySem PySem.Spec PyProof.Rows L2
def sgnOk (c : Nat) : Bool := (!decide (c < 32) && !decide (126 < c)) && !decide (c = 37)
def isNm (x : List Nat) : Bool := decide (x.length ≤ 40) && x.all sgnOk
theorem tab_sgn : ∀ c ∈ signTab, sgnOk c = true := by decide
theorem isNm_of {x : List Nat} (h1 : x.length ≤ 40) (h2 : ∀ c ∈ x, c ∈ signTab) : isNm x = true := by
  unfold isNm
  rw [decide_eq_true h1, Bool.true_and, List.all_eq_true]
  exact fun c hc => tab_sgn c (h2 c hc)
theorem isNm_long {x : List Nat} (h : 40 < x.length) : isNm x = false := by
  unfold isNm
  rw [decide_eq_false (by omega), Bool.false_and]
theorem isNm_bad {x : List Nat} {c : Nat} (h : c ∈ x) (b : sgnOk c = false) : isNm x = false := by
  unfold isNm
  rw [Bool.and_eq_false_iff]
  refine .inr (Bool.eq_false_iff.mpr fun z => ?_)
  have := List.all_eq_true.mp z c h
  rw [b] at this; cases this
theorem one_lt (a c : Nat) : decide ((st [a]).cps.toList < (st [c]).cps.toList) = decide (a < c) := by
  refine decide_eq_decide.mpr ?_
  show [a] < [c] ↔ a < c
  rw [cons_lt]
  exact ⟨fun h => h.elim id fun z => absurd z.2 (lt_irr _), .inl⟩
def spIsSign : Sp := fun vs H Q _ => ∃ c : Nat, vs = [.str (st [c])] ∧ Q (.bl (sgnOk c)) H
def spIsName (K : PySem.W.Frag) : Sp := fun vs H Q _ => ∃ v : V, vs = [v] ∧ ((∃ x : List Nat, v = .str (st x) ∧ x.length ≤ 100000 ∧ ∀ H', Same H H' → Q (.bl (isNm x)) H') ∨ ∃ T : String, TyX K H v (.type T) ∧ kitB T "str" = some false ∧ Q (.bl false) H)
theorem bls_of {acc : List V} {l : List Nat} (h : acc = (l.map sgnOk).map V.bl) : acc = (l.map sgnOk).map V.bl := h
theorem all_id (l : List Nat) : (l.map sgnOk).all id = l.all sgnOk := by rw [List.all_map]; rfl
end RT
namespace RT
open PySem PySem.Spec PyProof.Rows L2
/-- the signs' answers, one behind the other -/
def LcB (K : PySem.W.Frag) (H : Hp) (D : Addr) (x : List Nat) (i : Nat) (H' : Hp) : Prop := Same H H' ∧ H' D = some (.lst (((x.take i).map sgnOk).map V.bl))
theorem lcb0 {K : PySem.W.Frag} {H : Hp} {D : Addr} {x : List Nat} (hD : H D = none) : LcB K H D x 0 (upd H D (.lst [])) := ⟨same_new hD _, upd_same⟩
theorem lcb_add {K : PySem.W.Frag} {H H' : Hp} {D : Addr} {x : List Nat} {i c : Nat} (h : LcB K H D x i H') (hD : H D = none) (hc : x[i]? = some c) (hl : i ≤ 20000) :
    ∃ acc, H' D = some (.lst acc) ∧ acc.length < sizeLine ∧ LcB K H D x (i + 1) (upd H' D (.lst (acc ++ [.bl (sgnOk c)]))) := by
  obtain ⟨s, e⟩ := h
  refine ⟨_, e, ?_, same_off hD s _, ?_⟩
  · refine Nat.lt_of_le_of_lt (m := 20000) ?_ (by decide)
    rw [List.length_map, List.length_map, List.length_take]
    omega
  · rw [upd_same, List.take_add_one, hc, List.map_append, List.map_append]; rfl
end RT
namespace RT
open PySem PySem.Spec PyProof.Rows L2
theorem nm_iff {x : List Nat} : isNm x = true ↔ x.length ≤ 40 ∧ ∀ c ∈ x, c ∈ signTab := by
  constructor
  · intro h
    unfold isNm at h
    rw [Bool.and_eq_true, decide_eq_true_eq, List.all_eq_true] at h
    refine ⟨h.1, fun c hc => ?_⟩
    have := h.2 c hc
    have key : ∀ c, c < 127 → sgnOk c = true → c ∈ signTab := by decide
    refine key c ?_ this
    unfold sgnOk at this
    simp at this
    omega
  · intro h
    exact isNm_of h.1 h.2
end RT

/-! defs that may raise -/
namespace RT
open PySem PySem.Spec PyProof.Rows L2
/-- a def of the top that may let exceptions out -/
structure HasX (P : Program) (w : World) (K : PySem.W.Frag) (mg : Str → Option Value) (base : Heap) (x : Str) (ps : List Str) (k : Nat) (sp : Sp) : Prop where
  ex : ∃ (f : Addr) (fd : FuncData), FnOk P w K mg base (L2.CX P w) k f fd ps sp ∧ Binds K fd ps [] ∧ PySem.W.keepIn K (.ref f) = true ∧ mg x = some (.ref f)
section
variable {P : Program} {w : World} {K : PySem.W.Frag} {mg : Str → Option Value} {base : Heap} {x : Str} {ps : List Str} {j k : Nat} {sp sp' : Sp} {s : Stmt} {f : Addr} {fd : FuncData}
theorem HasX.mono (h : HasX P w K mg base x ps j sp) (hl : j ≤ k) : HasX P w K mg base x ps k sp := by
  obtain ⟨f, fd, G, b, kp, m⟩ := h.ex
  exact ⟨f, fd, G.mono hl, b, kp, m⟩
theorem HasX.imp (h : HasX P w K mg base x ps k sp) (i : ∀ vs H Q E, sp' vs H Q E → sp vs H Q E) : HasX P w K mg base x ps k sp' := by
  obtain ⟨f, fd, G, b, kp, m⟩ := h.ex
  exact ⟨f, fd, G.imp i, b, kp, m⟩
theorem DefAt.hasX (D : DefAt K mg x s f fd) (b : Binds K fd ps []) (F : FnOk P w K mg base (L2.CX P w) k f fd ps sp) : HasX P w K mg base x ps k sp :=
  ⟨f, fd, F, b, D.1.kp, D.2⟩
end
section
variable {X : Cx} {x : Str} {ps : List Str} {k j : Nat} {sp : Sp} {e : Expr} {es : List Expr} {t : TA} {p pos : Pos}
/-- a call in a def that lets the callee's exceptions out (or of one that lets none out here) -/
theorem pe_hasX {E : XK} (h : HasX X.prog X.w X.K X.mg X.base x ps k sp) (hr : Room j X.A) (hl : k ≤ j) (hx : Passes (L2.CX X.prog X.w) X E) (ha : PA X (e :: es) t) (hg : Gl X x := by rfl)
    (noDebug : (x == ("__debug__" : Str)) = false := by decide)
    (noStar : starEach (e :: es) X.env = (false, eval e X.env) :: starEach es X.env := by rfl)
    (noStars : (backTo pos (starEach es X.env)).any (·.1) = false := by rfl) :
    PE X (.Call (.Name x p) (e :: es) [] pos) (tCall sp [] E t) := by
  obtain ⟨f, fd, G, b, kp, m⟩ := h.ex
  exact pe_call G (hr.mono hl) hg m kp b .nil hx ha noDebug noStar noStars
/-- a call in a try's body -/
theorem pe_hasS {E : L2.St → XK} (h : HasX X.prog X.w X.K X.mg X.base x ps k sp) (hr : Room j X.A) (hl : k ≤ j) (hx : ∀ σ, PassesAt (L2.CX X.prog X.w) X σ (E σ)) (ha : PA X (e :: es) t) (hg : Gl X x := by rfl)
    (noDebug : (x == ("__debug__" : Str)) = false := by decide)
    (noStar : starEach (e :: es) X.env = (false, eval e X.env) :: starEach es X.env := by rfl)
    (noStars : (backTo pos (starEach es X.env)).any (·.1) = false := by rfl) :
    PE X (.Call (.Name x p) (e :: es) [] pos) (tCallS sp E t) := by
  obtain ⟨f, fd, G, b, kp, m⟩ := h.ex
  exact pe_callS G (hr.mono hl) hg m kp b hx ha noDebug noStar noStars
end
theorem placed_len (bs : List (List Nat × Tr)) (b : List Nat × Tr) : (placed bs b).length ≤ bs.length + 1 := by
  have h : ∀ bs : List (List Nat × Tr), (bs.filter fun a => a.1 < b.1).length + (bs.filter fun a => b.1 < a.1).length ≤ bs.length := fun bs => by
    induction bs with
    | nil => simp
    | cons x r ih =>
      by_cases l : x.1 < b.1
      · have n : ¬ b.1 < x.1 := fun z => lt_irr _ (lt_trans l z)
        rw [List.filter_cons_of_pos (by simpa using l), List.filter_cons_of_neg (by simpa using n)]
        simp only [List.length_cons]; omega
      · rw [List.filter_cons_of_neg (by simpa using l)]
        by_cases l2 : b.1 < x.1
        · rw [List.filter_cons_of_pos (by simpa using l2)]
          simp only [List.length_cons]; omega
        · rw [List.filter_cons_of_neg (by simpa using l2)]
          simp only [List.length_cons]; omega
  have := h bs
  unfold placed
  simp only [List.length_append, List.length_singleton]; omega
theorem JT.beh_len {t : Tr} (h : JT t) {c : Nat} (hc : c ≤ t.text.length) : (behB t (t.text.take c)).length ≤ 1000 := by
  by_cases f : (∃ n, t = .leaf t.text n) ∨ t.text ≠ t.text.take c
  · rw [beh_one f]; show 1 ≤ 1000; omega
  · obtain ⟨n1, n2⟩ := not_or.mp f
    have et : t.text = t.text.take c := Decidable.byContradiction fun z => n2 z
    rw [← et]
    cases t with
    | leaf x m => exact absurd ⟨m, rfl⟩ n1
    | fork x bs =>
      show (behB (.fork x bs) x).length ≤ 1000
      rw [beh_all]
      have w := wfB_iff.mp h.wf.2
      have h1 := bs_len (bs := bs) fun b hb => (w.1 b hb).2.2
      have h2 := h.many
      simp only [Tr.rws, List.length_map] at h2
      omega
/-- a tree's data, looked into, its kind told -/
theorem Dp_kind {K : PySem.W.Frag} {H : Hp} {v : V} {t : Tr} (h : Dp K H v t.toD) : ∃ p s z, v = .ref p ∧ SqT K H p [.str s, .str (st t.text), z] ∧ PyData.strOk s = true ∧
    ((s = Str.ofString "leaf" ∧ ∃ n, t = .leaf t.text n ∧ z = .int n) ∨ (s = Str.ofString "fork" ∧ ∃ bs, t = .fork t.text bs ∧ Dp K H z (.tuple (toDs bs)))) := by
  obtain ⟨p, x, z, rfl, hs, hc⟩ := Dp_tree h
  rcases hc with ⟨n, e, rfl, rfl⟩ | ⟨bs, e, rfl, hz⟩
  · exact ⟨p, _, _, rfl, hs, by decide +kernel, .inl ⟨rfl, n, e, rfl⟩⟩
  · exact ⟨p, _, _, rfl, hs, by decide +kernel, .inr ⟨rfl, bs, e, hz⟩⟩
end RT

/-! branches moved, copied -/
namespace RT
open PySem PySem.Spec PyProof.Rows L2
theorem treed_ahd {o : Option Tr} {R : List Row} (c : List Nat) (h : Treed o R) : Treed (o.map (Tr.ahd c)) (R.map (pre c)) := by
  cases o with
  | none =>
    have e : R = [] := h
    subst e; exact rfl
  | some t => exact ⟨wf_ahd h.1, by rw [rws_ahd, h.2]⟩
theorem ahd_deep (c : List Nat) (t : Tr) : (t.ahd c).deep = t.deep := by cases t <;> rfl
theorem dpt_ahd (c : List Nat) (o : Option Tr) : dpt (o.map (Tr.ahd c)) = dpt o := by
  cases o with
  | none => rfl
  | some t => exact ahd_deep c t
/-- what joined wants, of rows of at most 200 signs, the depth told -/
theorem inJ_of {K : PySem.W.Frag} {H : Hp} {v : V} {o : Option Tr} {R : List Row} (h : Dp K H v (oD o)) (t : Treed o R) (d : dpt o < 50) (hl : R.length ≤ 1000) (hr : ∀ r ∈ R, r.1.length ≤ 200 ∧ ∀ c ∈ r.1, c < 127) : InJ K H v o R :=
  ⟨h, t, treed_fits t (by omega) (fun r hr' => by have := (hr r hr').1; omega), d, hl, hr⟩
theorem good_inJ {K : PySem.W.Frag} {H : Hp} {v : V} {o : Option Tr} {R : List Row} (h : Dp K H v (oD o)) (t : Treed o R) (g : Good R) : InJ K H v o R :=
  inJ_of h t (good_fits t g).2 (by have := g.2.1; omega) fun r hr => ⟨by have := (g.2.2 r hr).1; omega, fun c hc => tab_ok c ((g.2.2 r hr).2.1 c hc)⟩
theorem fresh_inJ {K : PySem.W.Frag} {H : Hp} {v : V} {o : Option Tr} {R : List Row} {b c : List Nat} (h : Dp K H v (oD (o.map (Tr.ahd c)))) (t : Treed o (goneR b R)) (g : Good R) (hc : c.length ≤ 40) (ht : ∀ x ∈ c, x ∈ signTab) :
    InJ K H v (o.map (Tr.ahd c)) (freshR b c R) := by
  have gm := fresh_gm (b := b) g hc ht
  exact inJ_of h (treed_ahd c t) (by rw [dpt_ahd]; exact (good_fits t (gone_good g)).2) (by have := gm.2.1; omega) fun r hr => ⟨by have := (gm.2.2 r hr).1; omega, fun x hx => tab_ok x ((gm.2.2 r hr).2 x hx)⟩
theorem fresh_nil {b c : List Nat} {R : List Row} : freshR b c R = [] ↔ goneR b R = [] := by
  unfold freshR
  rw [List.map_eq_nil_iff]
theorem treed_nil {o : Option Tr} {R : List Row} (h : Treed o R) : o = none ↔ R = [] := by
  constructor
  · intro e; subst e; exact h
  · intro e
    subst e
    exact treed_one h (show Treed none [] from rfl)
/-- cut, or refused with the class at CN -/
def spParted (K : PySem.W.Frag) (CN : Addr) : Sp := fun vs H Q E => ∃ (v : V) (o : Option Tr) (b : List Nat) (R : List Row), vs = [v, .str (st b)] ∧ Dp K H v (oD o) ∧ Treed o R ∧ FitsO o ∧ dpt o < 50 ∧ b.length ≤ 900 ∧ (∀ c ∈ b, c < 127) ∧
  (goneR b R = [] → ∀ H', Same H H' → E (.ref CN) none H') ∧ (goneR b R ≠ [] → ∀ (u : V) (o1 o2 : Option Tr) (H' : Hp), Treed o1 (stayR b R) → Treed o2 (goneR b R) → Same H H' → Dp K H' u (.tuple [oD o1, oD o2]) → Q u H')
theorem str_app_len (a b : Str) : (a ++ b).length = a.length + b.length := by
  show (a.cps ++ b.cps).size = _
  rw [Array.size_append]; rfl
end RT

/-! trails: objects -/
namespace RT
open PySem PySem.Spec PyProof.Rows L2
/-! ### own methods called in a try's body -/
section
variable {X : Cx} {k : Nat} {f C : Addr} {fd : FuncData} {ps : List Str} {sp : Sp} {m : Str} {pos apos : Pos} {e o : Expr} {es : List Expr} {ta : TE} {t : TA}
def tMethE (C : Addr) (m : Str) (sp : Sp) (E : L2.St → XK) (ta : TE) (t : TA) : TE := fun σ H Q =>
  ta σ H fun x H1 => ∃ a dx fs, x = .ref a ∧ H1 a = some (.ins C dx fs) ∧ fs.lookup m = none ∧ t σ H1 fun vs H2 => sp (x :: vs) H2 Q (E σ)
theorem pe_methE {pl : Sem Bool} {E : L2.St → XK} (rcv : PE X o ta) (c : Cls X.K C) (M : Meth X.K C m f) (F : FnOk X.prog X.w X.K X.mg X.base (L2.CX X.prog X.w) k f fd ps sp) (hr : Room k X.A) (b : Binds X.K fd ps []) (out : ∀ σ, PassesAt (L2.CX X.prog X.w) X σ (E σ)) (arg : PA X (e :: es) t)
    (stars : starEach (e :: es) X.env = (false, eval e X.env) :: starEach es X.env := by rfl) (noStars : (backTo pos (starEach es X.env)).any (·.1) = false := by rfl)
    (tree : eval (.Call (.Attribute o m apos) (e :: es) [] pos) X.env = (eval o X.env >>= fun ov => standAt apos.atName >>= fun _ => holding [ov] (getMethod ov m pl) >>= fun fm => callWith pos fm.1 fm.2 (backTo pos (starEach (e :: es) X.env)) (backToKw pos (keywordEach [] X.env))) := by rfl) :
    PE X (.Call (.Attribute o m apos) (e :: es) [] pos) (tMethE C m sp E ta t) := by
  constructor
  intro pins s σ H Q I h
  refine PySem.W.methodCall_KW (pl := pl) ?_ tree
  apply thn (rcv.run pins s σ H _ I h)
  rintro u s1 ⟨x, H1, I1, rx, a, dx, fs, rfl, ea, l, q⟩
  cases (show u = Value.ref a from rx)
  apply getmeth_ok I1 ea c M l
  refine PySem.W.callWith_K (first := [.ref a]) (h₀ := X.base) I.ok.mod.kin M.kp ?_ stars noStars
  apply thn (arg.run pos pins s1 σ H1 _ I1 q)
  rintro us s2 ⟨vs, H2, I2, r, q2⟩
  exact ⟨I2.kIn, run_fnS (E := E) (us := .ref a :: us) (vs := .ref a :: vs) F hr b (out σ) I2 (.cons rfl r) q2⟩
theorem pe_methE0 {pl : Sem Bool} {E : L2.St → XK} (rcv : PE X o ta) (c : Cls X.K C) (M : Meth X.K C m f) (F : FnOk X.prog X.w X.K X.mg X.base (L2.CX X.prog X.w) k f fd ps sp) (hr : Room k X.A) (b : Binds X.K fd ps []) (out : ∀ σ, PassesAt (L2.CX X.prog X.w) X σ (E σ))
    (tree : eval (.Call (.Attribute o m apos) [] [] pos) X.env = (eval o X.env >>= fun ov => standAt apos.atName >>= fun _ => holding [ov] (getMethod ov m pl) >>= fun fm => callWith pos fm.1 fm.2 (backTo pos (starEach [] X.env)) (backToKw pos (keywordEach [] X.env))) := by rfl) :
    PE X (.Call (.Attribute o m apos) [] [] pos) (tMethE C m sp E ta tNil) := by
  constructor
  intro pins s σ H Q I h
  refine PySem.W.methodCall_KW (pl := pl) ?_ tree
  apply thn (rcv.run pins s σ H _ I h)
  rintro u s1 ⟨x, H1, I1, rx, a, dx, fs, rfl, ea, l, q⟩
  cases (show u = Value.ref a from rx)
  apply getmeth_ok I1 ea c M l
  exact PySem.W.callWith_K0 (first := [.ref a]) I1.kIn M.kp (run_fnS (E := E) (us := [.ref a]) (vs := [.ref a]) F hr b (out σ) I1 (.cons rfl .nil) q)
end
/-- a def that lets nothing out lets out no more than another -/
theorem fn_wide {P : Program} {w : World} {K : PySem.W.Frag} {mg : Str → Option Value} {base : Heap} {k : Nat} {f : Addr} {fd : FuncData} {ps : List Str} {sp : Sp} (F : FnOk P w K mg base CX0 k f fd ps sp) : FnOk P w K mg base (L2.CX P w) k f fd ps sp := by
  refine ⟨F.len, fun A outer s H args us vs Q E hr e0 hb hv h => codeAny_mono (F.run A outer s H args us vs Q E hr e0 hb hv h) fun r s' got => ?_⟩
  match r, got with
  | .error _, got => exact False.elim got
  | .ok (.ret _), got => exact got
  | .ok .next, got => exact got
  | .ok .brk, got => exact got
  | .ok .cont, got => exact got
theorem Has.wide {P : Program} {w : World} {K : PySem.W.Frag} {mg : Str → Option Value} {base : Heap} {x : Str} {k : Nat} {ps : List Str} {sp : Sp} (h : Has P w K mg base x ps k sp) : HasX P w K mg base x ps k sp := by
  obtain ⟨f, fd, G, b, kp, m⟩ := h.ex
  exact ⟨f, fd, fn_wide G, b, kp, m⟩
/-! ### a method of the text as it stands -/
def MethAt (K : PySem.W.Frag) (C : Addr) (m qual : Str) (s : Stmt) (f : Addr) (fd : FuncData) : Prop := Fun K m qual s f fd ∧ Meth K C m f
theorem methAt {K : PySem.W.Frag} {C f : Addr} {m qual : Str} {s : Stmt} {od an : Option Addr} {sl : Array (Option Value)} {oc kV dc pm cd ct : Value} (a : PySem.W.findIn K (.ref C) m = some (some (.ref f))) (i : PySem.W.isFn K (.ref f) = true)
    (l : K.lookup f = some ⟨oc, od, .func (PySem.W.fnOf m qual (defArgs s) (defBody s) (defScope s) .none kV dc pm an cd ct), sl⟩) (c : PySem.W.codeIn K cd qual = true) (k : PySem.W.keepIn K (.ref f) = true) : ∃ fd, MethAt K C m qual s f fd :=
  ⟨_, fun_mk (st := s) l c k, ⟨a, i, k⟩⟩
/-- the class of trails, as the top has it -/
structure TrTxt (K : PySem.W.Frag) (mg : Str → Option Value) (C f1 : Addr) : Prop where
  cl : Cls K C
  nN : NoAttr K C "_now"
  nE : NoAttr K C "_earlier"
  mgC : mg "Trail" = some (.ref C)
  mkC : Mk K C f1
theorem trTxt {K : PySem.W.Frag} {h : Heap} {mg : Str → Option Value} {C f1 : Addr} (X : K.In h) (G : h.Ns mainGlobals mg) (aC : PySem.W.nsIn K mainGlobals "Trail" = some (some (.ref C))) (pg : PySem.W.plainGet K C Str.empty = true) (hd : PySem.W.hasDictIn K C = true)
    (po : PySem.W.plainOver K C = true) (sa : PySem.W.findIn K (.ref C) "__setattr__" = some (some (.builtin "object.__setattr__"))) (mk : PySem.W.makesIn K C = true) (kc : PySem.W.keepIn K (.ref C) = true) (nN : PySem.W.findIn K (.ref C) "_now" = some none) (nE : PySem.W.findIn K (.ref C) "_earlier" = some none)
    (a1 : PySem.W.findIn K (.ref C) "__init__" = some (some (.ref f1))) (i1 : PySem.W.isFn K (.ref f1) = true) : TrTxt K mg C f1 :=
  ⟨⟨pg, hd, po, sa⟩, nN, nE, PySem.W.mg_of X G aC, ⟨mk, a1, i1, kc⟩⟩
/-! ### what an object holds -/
def tf (v : V) (l : Addr) : List (Str × V) := [("_now", v), ("_earlier", .ref l)]
theorem ne_ : ¬ (("_now" : Str) = "_earlier") := by decide +kernel
theorem tf_init (v : V) (l : Addr) : putF "_earlier" (.ref l) (putF "_now" v []) = tf v l := by
  show (if ("_now" : Str) = "_earlier" then _ else (("_now" : Str), v) :: putF "_earlier" (V.ref l) []) = tf v l
  rw [if_neg ne_]; rfl
theorem tf_now (v : V) (l : Addr) : (tf v l).lookup ("_now" : Str) = some v := rfl
theorem tf_earlier (v : V) (l : Addr) : (tf v l).lookup ("_earlier" : Str) = some (.ref l) := rfl
theorem tf_put (v u : V) (l : Addr) : putF "_now" u (tf v l) = tf u l := by
  show (if ("_now" : Str) = "_now" then (("_now" : Str), u) :: [(("_earlier" : Str), V.ref l)] else _) = tf u l
  rw [if_pos rfl]; rfl
/-- a trail at x, its list at l: the tree now and those ahead of it -/
def TrAt (K : PySem.W.Frag) (C : Addr) (H : Hp) (x dx l : Addr) (o : Option Tr) (ps : List (Option Tr)) : Prop :=
  ∃ v acc, H x = some (.ins C dx (tf v l)) ∧ H l = some (.lst acc) ∧ Dp K H v (oD o) ∧ DpAll K H acc (ps.map oD)
theorem TrAt.same {K : PySem.W.Frag} {C : Addr} {H H' : Hp} {x dx l : Addr} {o : Option Tr} {ps : List (Option Tr)} (h : TrAt K C H x dx l o ps) (s : Same H H') : TrAt K C H' x dx l o ps := by
  obtain ⟨v, acc, h1, h2, h3, h4⟩ := h
  exact ⟨v, acc, s _ _ h1, s _ _ h2, Dp_same s h3, DpAll_same s h4⟩
/-- all but x and l is as it was -/
def Fr (x l : Addr) (H H' : Hp) : Prop := ∀ b u, b ≠ x → b ≠ l → H b = some u → H' b = some u
theorem Fr.of {x l : Addr} {H H' : Hp} (s : Same H H') : Fr x l H H' := fun b u _ _ e => s b u e
theorem Fr.trans {x l : Addr} {H H1 H2 : Hp} (a : Fr x l H H1) (b : Fr x l H1 H2) : Fr x l H H2 := fun c u h1 h2 e => b c u h1 h2 (a c u h1 h2 e)
/-! ### what is a name, told of any thing -/
def Thg (K : PySem.W.Frag) (H : Hp) (w : V) : Option (List Nat) → Prop
  | some b => w = .str (st b) ∧ isNm b = true
  | none => (∃ x, w = .str (st x) ∧ x.length ≤ 100000 ∧ isNm x = false) ∨ ∃ T : String, (∀ H', Same H H' → TyX K H' w (.type T)) ∧ kitB T "str" = some false
theorem Thg.same {K : PySem.W.Frag} {H H' : Hp} {w : V} {b : Option (List Nat)} (h : Thg K H w b) (s : Same H H') : Thg K H' w b := by
  cases b with
  | some b => exact h
  | none => exact h.imp id fun ⟨T, a, c⟩ => ⟨T, fun H2 s2 => a H2 (s.trans s2), c⟩
theorem tyx_str {K : PySem.W.Frag} {H : Hp} {x : Str} {T : String} (h : TyX K H (.str x) (.type T)) : T = "str" := by
  cases h with
  | base b => cases b; rfl
/-! ### promises -/
def spInit (K : PySem.W.Frag) (C : Addr) : Sp := fun vs H Q _ => ∃ (x dx : Addr), vs = [.ref x] ∧ H x = some (.ins C dx []) ∧ ∀ (l : Addr) (H' : Hp), H l = none → (∀ b u, b ≠ x → H b = some u → H' b = some u) → TrAt K C H' x dx l none [] → Q .non H'
def spRefuse (K : PySem.W.Frag) (CN : Addr) : Sp := fun vs H Q E => ∃ (l : Addr) (ws : List V), vs = [.ref l] ∧ H l = some (.lst ws) ∧ (∀ w ∈ ws, ∃ b, Thg K H w b) ∧ ((∃ w ∈ ws, Thg K H w none) → ∀ H', Same H H' → E (.ref CN) none H') ∧
  ((∀ w ∈ ws, ∃ b, Thg K H w (some b)) → ∀ H', Same H H' → Q .non H')
def spTold (K : PySem.W.Frag) (C CN : Addr) : Sp := fun vs H Q E => ∃ (x dx l : Addr) (o : Option Tr) (ps : List (Option Tr)) (R : List Row) (w : V) (t : Option (List Nat)), vs = [.ref x, w] ∧ TrAt K C H x dx l o ps ∧ Treed o R ∧ Good R ∧ Thg K H w t ∧
  (t = none → ∀ H', Same H H' → E (.ref CN) none H') ∧ ∀ b, t = some b → newL K H ((below b R).map rowD) Q
end RT
namespace RT
open PySem PySem.Spec PyProof.Rows L2
theorem good_nil : Good [] := ⟨List.Pairwise.nil, by simp, fun r hr => by simp at hr⟩
/-- no text, now and later -/
def NoStr (K : PySem.W.Frag) (H : Hp) (w : V) : Prop := ∃ T : String, (∀ H', Same H H' → TyX K H' w (.type T)) ∧ kitB T "str" = some false
def spOther (K : PySem.W.Frag) : Sp := fun vs H Q _ => ∃ c : Int, vs = [.int c] ∧ ∀ (w : V) (H' : Hp), Same H H' → NoStr K H' w → Q w H'
def spRef2 (K : PySem.W.Frag) : Sp := fun vs H Q _ => ∃ (w : V) (t : Option (List Nat)), vs = [w] ∧ Thg K H w t ∧ (t = none → ∀ H', Same H H' → Q (.bl true) H') ∧ ∀ b, t = some b → ∀ H', Same H H' → Q (.bl false) H'
theorem thg_of {K : PySem.W.Frag} {H : Hp} {x : List Nat} (h : x.length ≤ 100000) : Thg K H (.str (st x)) (if isNm x = true then some x else none) := by
  cases e : isNm x with
  | true => exact ⟨rfl, e⟩
  | false => exact .inl ⟨x, rfl, h, e⟩
end RT
namespace RT
open PySem PySem.Spec PyProof.Rows L2
theorem globAt {K : PySem.W.Frag} {h : Heap} {mg : Str → Option Value} {x : Str} {v : Int} {t : Tok} (X : K.In h) (G : h.Ns mainGlobals mg) (a : PySem.W.nsIn K mainGlobals x = some (some (.int v t))) : ∃ t, mg x = some (.int v t) := ⟨t, PySem.W.mg_of X G a⟩
end RT

/-! trails: deeds -/
namespace RT
open PySem PySem.Spec PyProof.Rows L2
/-- all tuples, all frozen things stay -/
def KT (H H' : Hp) : Prop := (∀ b xs, H b = some (.tup xs) → H' b = some (.tup xs)) ∧ ∀ b o u, H b = some (.frz o u) → H' b = some (.frz o u)
theorem KT.of {H H' : Hp} (s : Same H H') : KT H H' := ⟨fun b xs e => s b _ e, fun b o u e => s b _ e⟩
theorem KT.trans {H H1 H2 : Hp} (a : KT H H1) (b : KT H1 H2) : KT H H2 := ⟨fun c xs e => b.1 c xs (a.1 c xs e), fun c o u e => b.2 c o u (a.2 c o u e)⟩
mutual
theorem Dp_kt {K : PySem.W.Frag} {H H' : Hp} (e : KT H H') : ∀ {v : V} {d : PyData}, nolist d = true → Dp K H v d → Dp K H' v d
  | _, _, _, .non => .non
  | _, _, _, .bl b => .bl b
  | _, _, _, .int i => .int i
  | _, _, _, .str x => .str x
  | _, _, h, .lst s a => by simp [nolist] at h
  | _, _, h, .tup s a => .tup (by
      rcases s with (s | ⟨o, s⟩) | s
      · exact .inl (.inl (e.1 _ _ s))
      · exact .inl (.inr ⟨o, e.2 _ _ _ s⟩)
      · exact .inr s) (DpAll_kt e (by simpa [nolist] using h) a)
theorem DpAll_kt {K : PySem.W.Frag} {H H' : Hp} (e : KT H H') : ∀ {vs : List V} {ds : List PyData}, nolists ds = true → DpAll K H vs ds → DpAll K H' vs ds
  | _, _, _, .nil => .nil
  | _, _, h, .cons a r => by
    simp only [nolists, Bool.and_eq_true] at h
    have h1 := h
    exact .cons (Dp_kt e h1.1 a) (DpAll_kt e h1.2 r)
end
theorem oDs_nolist (ps : List (Option Tr)) : nolists (ps.map oD) = true := by
  induction ps with
  | nil => rfl
  | cons p r ih => simp [nolists, oD_nolist, ih]
theorem kt_fr {x l : Addr} {H H' : Hp} (hx : ∃ C dx fs, H x = some (.ins C dx fs)) (hl : ∃ acc, H l = some (.lst acc)) (f : Fr x l H H') : KT H H' := by
  obtain ⟨C, dx, fs, hx⟩ := hx
  obtain ⟨acc, hl⟩ := hl
  refine ⟨fun b xs e => f b _ (fun z => ?_) (fun z => ?_) e, fun b o u e => f b _ (fun z => ?_) (fun z => ?_) e⟩
  · rw [z, hx] at e; cases e
  · rw [z, hl] at e; cases e
  · rw [z, hx] at e; cases e
  · rw [z, hl] at e; cases e
/-- a tree that a trail keeps -/
def GT (o : Option Tr) : Prop := (∀ t, o = some t → Wf t) ∧ Good (rO o) ∧ (rO o).length ≤ 100
theorem GT.tr {o : Option Tr} (h : GT o) : Treed o (rO o) := treed_of h.1
theorem gt_of {o : Option Tr} {R : List Row} (h : Treed o R) (g : Good R) (l : R.length ≤ 100) : GT o ∧ rO o = R := by
  obtain ⟨e, _, w⟩ := treed_rO h
  exact ⟨⟨w, by rw [e]; exact g, by rw [e]; exact l⟩, e⟩
theorem gt_none : GT none := ⟨fun t e => (by cases e), good_nil, by simp [rO]⟩
theorem thg_uniq {K : PySem.W.Frag} {H : Hp} {w : V} {t t' : Option (List Nat)} (h : Thg K H w t) (h' : Thg K H w t') : t = t' := by
  have no : ∀ {b}, Thg K H w (some b) → ¬ Thg K H w none := fun {b} ⟨e, nb⟩ hn => by
    rcases hn with ⟨y, e2, _, nb2⟩ | ⟨T, ty, hT⟩
    · rw [e] at e2
      have := st_inj (V.str.inj e2)
      rw [← this, nb] at nb2; cases nb2
    · rw [e] at ty
      have e3 := tyx_str (ty _ (Same.refl _))
      rw [e3] at hT
      exact absurd hT (by decide +kernel)
  cases t with
  | none => cases t' with
    | none => rfl
    | some b => exact absurd h (no h')
  | some b => cases t' with
    | none => exact absurd h' (no h)
    | some b' =>
      obtain ⟨e, _⟩ := h
      obtain ⟨e', _⟩ := h'
      rw [e] at e'
      rw [st_inj (V.str.inj e')]
theorem refuse1 {K : PySem.W.Frag} {CN : Addr} {H : Hp} {w : V} {t : Option (List Nat)} {Q : VK} {E : XK} (h : Thg K H w t) (he : t = none → ∀ H', Same H H' → E (.ref CN) none H') (hq : ∀ b, t = some b → ∀ H', Same H H' → Q .non H') :
    1 ≤ sizeLine ∧ ∀ m, H m = none → spRefuse K CN [.ref m] (upd H m (.lst [w])) Q E := by
  refine ⟨by decide, fun m nm => ?_⟩
  have sm := same_new nm (.lst [w])
  refine ⟨m, [w], rfl, upd_same, fun z hz => ⟨t, by rw [List.mem_singleton.mp hz]; exact h.same sm⟩, fun ⟨z, hz, hn⟩ H' s => ?_, fun all H' s => ?_⟩
  · rw [List.mem_singleton.mp hz] at hn
    exact he (thg_uniq (h.same sm) hn) H' (sm.trans s)
  · obtain ⟨b, hb⟩ := all w (List.mem_singleton.mpr rfl)
    exact hq b (thg_uniq (h.same sm) hb) H' (sm.trans s)
theorem refuse2 {K : PySem.W.Frag} {CN : Addr} {H : Hp} {w u : V} {t s : Option (List Nat)} {Q : VK} {E : XK} (h : Thg K H w t) (k : Thg K H u s) (he : t = none ∨ s = none → ∀ H', Same H H' → E (.ref CN) none H') (hq : ∀ b c, t = some b → s = some c → ∀ H', Same H H' → Q .non H') :
    2 ≤ sizeLine ∧ ∀ m, H m = none → spRefuse K CN [.ref m] (upd H m (.lst [w, u])) Q E := by
  refine ⟨by decide, fun m nm => ?_⟩
  have sm := same_new nm (.lst [w, u])
  refine ⟨m, [w, u], rfl, upd_same, fun z hz => ?_, fun ⟨z, hz, hn⟩ H' s' => ?_, fun all H' s' => ?_⟩
  · rcases List.mem_cons.mp hz with e | hz
    · rw [e]; exact ⟨t, h.same sm⟩
    · rw [List.mem_singleton.mp hz]; exact ⟨s, k.same sm⟩
  · rcases List.mem_cons.mp hz with e | hz
    · rw [e] at hn; exact he (.inl (thg_uniq (h.same sm) hn)) H' (sm.trans s')
    · rw [List.mem_singleton.mp hz] at hn; exact he (.inr (thg_uniq (k.same sm) hn)) H' (sm.trans s')
  · obtain ⟨b, hb⟩ := all w (List.mem_cons_self ..)
    obtain ⟨c, hc⟩ := all u (List.mem_cons_of_mem _ (List.mem_singleton.mpr rfl))
    exact hq b c (thg_uniq (h.same sm) hb) (thg_uniq (k.same sm) hc) H' (sm.trans s')
/-! ### promises -/
def spDo (K : PySem.W.Frag) (C : Addr) : Sp := fun vs H Q _ => ∃ (x dx l : Addr) (o o' : Option Tr) (ps : List (Option Tr)) (u : V), vs = [.ref x, u] ∧ TrAt K C H x dx l o ps ∧ ps.length ≤ 2000 ∧ Dp K H u (oD o') ∧ ∀ H', Fr x l H H' → TrAt K C H' x dx l o' (ps ++ [o]) → Q .non H'
def spOfSize (K : PySem.W.Frag) (CM : Addr) : Sp := fun vs H Q E => ∃ (v : V) (o : Option Tr), vs = [v] ∧ Dp K H v (oD o) ∧ FitsO o ∧ dpt o < 50 ∧ (100 < (rO o).length → ∀ H', Same H H' → E (.ref CM) none H') ∧ ((rO o).length ≤ 100 → ∀ H', Same H H' → Q v H')
def spLong (K : PySem.W.Frag) (CL : Addr) : Sp := fun vs H Q E => ∃ (v : V) (o : Option Tr) (b c : List Nat), vs = [v, .str (st b), .str (st c)] ∧ Dp K H v (oD o) ∧ Treed o (rO o) ∧ Good (rO o) ∧ b.length ≤ 40 ∧ c.length ≤ 40 ∧
  ((∃ r ∈ freshR b c (rO o), 40 < r.1.length) → ∀ H', Same H H' → E (.ref CL) none H') ∧ ((∀ r ∈ freshR b c (rO o), r.1.length ≤ 40) → ∀ H', Same H H' → Q .non H')
def spKeep (K : PySem.W.Frag) (C CN CM : Addr) : Sp := fun vs H Q E => ∃ (x dx l : Addr) (o : Option Tr) (ps : List (Option Tr)) (w : V) (n : Int) (t : Option (List Nat)), vs = [.ref x, w, .int n] ∧ TrAt K C H x dx l o ps ∧ GT o ∧ ps.length ≤ 2000 ∧ n.natAbs < 10 ^ 60 ∧ Thg K H w t ∧
  (t = none → ∀ H', Same H H' → E (.ref CN) none H') ∧ ∀ b, t = some b → (∀ S, putR (rO o) b n S → 100 < S.length → ∀ H', Same H H' → E (.ref CM) none H') ∧
    ∀ o' H', GT o' → putR (rO o) b n (rO o') → Fr x l H H' → TrAt K C H' x dx l o' (ps ++ [o]) → Q (optV (fndO o b)) H'
def spDrop (K : PySem.W.Frag) (C CN CR : Addr) : Sp := fun vs H Q E => ∃ (x dx l : Addr) (o : Option Tr) (ps : List (Option Tr)) (w : V) (t : Option (List Nat)), vs = [.ref x, w] ∧ TrAt K C H x dx l o ps ∧ GT o ∧ ps.length ≤ 2000 ∧ Thg K H w t ∧
  (t = none → ∀ H', Same H H' → E (.ref CN) none H') ∧ ∀ b, t = some b → (fndO o b = none → ∀ H', Same H H' → E (.ref CR) none H') ∧
    ∀ k, fndO o b = some k → ∀ o' H', GT o' → rO o' = (rO o).filter (fun r => !decide (r.1 = b)) → Fr x l H H' → TrAt K C H' x dx l o' (ps ++ [o]) → Q (.int k) H'
def spPrune (K : PySem.W.Frag) (C CN CR : Addr) : Sp := fun vs H Q E => ∃ (x dx l : Addr) (o : Option Tr) (ps : List (Option Tr)) (w : V) (t : Option (List Nat)), vs = [.ref x, w] ∧ TrAt K C H x dx l o ps ∧ GT o ∧ ps.length ≤ 2000 ∧ Thg K H w t ∧
  (t = none → ∀ H', Same H H' → E (.ref CN) none H') ∧ ∀ b, t = some b → (goneR b (rO o) = [] → ∀ H', Same H H' → E (.ref CR) none H') ∧
    (goneR b (rO o) ≠ [] → ∀ o' H', GT o' → rO o' = stayR b (rO o) → Fr x l H H' → TrAt K C H' x dx l o' (ps ++ [o]) → Q (.int ((goneR b (rO o)).length : Nat)) H')
/-- move; graft: with the bound -/
def spMove (K : PySem.W.Frag) (C CN CR CL CT : Addr) (stay : List Nat → List Row → List Row) (many : Option Addr) : Sp := fun vs H Q E => ∃ (x dx l : Addr) (o : Option Tr) (ps : List (Option Tr)) (w u : V) (t s : Option (List Nat)), vs = [.ref x, w, u] ∧ TrAt K C H x dx l o ps ∧ GT o ∧ ps.length ≤ 2000 ∧ Thg K H w t ∧ Thg K H u s ∧
  (t = none ∨ s = none → ∀ H', Same H H' → E (.ref CN) none H') ∧ ∀ b c, t = some b → s = some c → (goneR b (rO o) = [] → ∀ H', Same H H' → E (.ref CR) none H') ∧
    (goneR b (rO o) ≠ [] → (∃ r ∈ freshR b c (rO o), 40 < r.1.length) → ∀ H', Same H H' → E (.ref CL) none H') ∧
    (goneR b (rO o) ≠ [] → (∀ r ∈ freshR b c (rO o), r.1.length ≤ 40) → Share (stay b (rO o)) (freshR b c (rO o)) → ∀ H', Same H H' → E (.ref CT) none H') ∧
    (∀ CM, many = some CM → goneR b (rO o) ≠ [] → (∀ r ∈ freshR b c (rO o), r.1.length ≤ 40) → ¬ Share (stay b (rO o)) (freshR b c (rO o)) → 100 < (stay b (rO o)).length + (freshR b c (rO o)).length → ∀ H', Same H H' → E (.ref CM) none H') ∧
    (goneR b (rO o) ≠ [] → (∀ r ∈ freshR b c (rO o), r.1.length ≤ 40) → ¬ Share (stay b (rO o)) (freshR b c (rO o)) → (stay b (rO o)).length + (freshR b c (rO o)).length ≤ 100 →
      ∀ o' H', GT o' → Both (stay b (rO o)) (freshR b c (rO o)) (rO o') → Fr x l H H' → TrAt K C H' x dx l o' (ps ++ [o]) → Q (.int ((goneR b (rO o)).length : Nat)) H')
def spBack (K : PySem.W.Frag) (C CD : Addr) : Sp := fun vs H Q E => ∃ (x dx l : Addr) (o : Option Tr) (ps : List (Option Tr)), vs = [.ref x] ∧ TrAt K C H x dx l o ps ∧ (ps = [] → ∀ H', Same H H' → E (.ref CD) none H') ∧
  ∀ qs p, ps = qs ++ [p] → ∀ H', Fr x l H H' → TrAt K C H' x dx l p qs → Q .non H'
def spTreeM (K : PySem.W.Frag) (C : Addr) : Sp := fun vs H Q _ => ∃ (x dx l : Addr) (o : Option Tr) (ps : List (Option Tr)), vs = [.ref x] ∧ TrAt K C H x dx l o ps ∧ ∀ v, Dp K H v (oD o) → Q v H
def spSize (K : PySem.W.Frag) (C : Addr) : Sp := fun vs H Q _ => ∃ (x dx l : Addr) (o : Option Tr) (ps : List (Option Tr)), vs = [.ref x] ∧ TrAt K C H x dx l o ps ∧ GT o ∧ ∀ H', Same H H' → Q (.int ((rO o).length : Nat)) H'
/-! ### rows -/
theorem up_nodup {R : List Row} (h : Up R) : R.Nodup := h.imp fun h e => by rw [e] at h; exact lt_irr _ h
theorem both_perm {A B T : List Row} (ha : Up A) (hb : Up B) (n : ¬ Share A B) (h : Both A B T) : T.Perm (A ++ B) := by
  refine (List.perm_ext_iff_of_nodup (up_nodup h.1) (List.nodup_append.mpr ⟨up_nodup ha, up_nodup hb, fun r hr s hs e => ?_⟩)).mpr fun r => by rw [h.2, List.mem_append]
  subst e
  exact n ⟨r.1, r.2, r.2, hr, hs⟩
theorem both_len {A B T : List Row} (ha : Up A) (hb : Up B) (n : ¬ Share A B) (h : Both A B T) : T.length = A.length + B.length := by
  rw [(both_perm ha hb n h).length_eq, List.length_append]
theorem both_good {A B T : List Row} (ga : ∀ r ∈ A, GoodR r) (gb : ∀ r ∈ B, GoodR r) (h : Both A B T) (l : T.length ≤ 150) : Good T :=
  ⟨h.1, l, fun r hr => ((h.2 r).mp hr).elim (ga r) (gb r)⟩
theorem put_len {R S : List Row} {x : List Nat} {n : Int} (up : Up R) (h : putR R x n S) : S.length ≤ R.length + 1 := by
  have : S.length ≤ (R ++ [(x, n)]).length := (up_nodup h.1).length_le_of_subset fun r hr => by
    rw [List.mem_append, List.mem_singleton]
    rcases (h.2 r.1 r.2).mp hr with ⟨m, _⟩ | ⟨e1, e2⟩
    · exact .inl m
    · exact .inr (Prod.ext e1 e2)
  rw [List.length_append] at this; simpa using this
theorem put_good {R S : List Row} {x : List Nat} {n : Int} (g : ∀ r ∈ R, GoodR r) (nx : isNm x = true) (hn : n.natAbs < 10 ^ 60) (h : putR R x n S) : ∀ r ∈ S, GoodR r := fun r hr => by
  rcases (h.2 r.1 r.2).mp hr with ⟨m, _⟩ | ⟨e1, e2⟩
  · exact g r m
  · obtain ⟨a, b⟩ := nm_iff.mp nx
    exact ⟨by rw [e1]; exact a, by rw [e1]; exact b, by rw [e2]; exact hn⟩
theorem fresh_good {b c : List Nat} {R : List Row} (g : Good R) (nc : isNm c = true) (hl : ∀ r ∈ freshR b c R, r.1.length ≤ 40) : ∀ r ∈ freshR b c R, GoodR r := fun r hr => by
  refine ⟨hl r hr, fun x hx => ?_, ?_⟩
  · obtain ⟨r0, h0, rfl⟩ := List.mem_map.mp hr
    rcases List.mem_append.mp hx with hx | hx
    · exact (nm_iff.mp nc).2 x hx
    · exact ((gone_good g).2.2 r0 h0).2.1 x hx
  · obtain ⟨r0, h0, rfl⟩ := List.mem_map.mp hr
    exact ((gone_good g).2.2 r0 h0).2.2
theorem TrAt.fr_ne {K : PySem.W.Frag} {C : Addr} {H : Hp} {x dx l : Addr} {o : Option Tr} {ps : List (Option Tr)} (h : TrAt K C H x dx l o ps) : x ≠ l := by
  obtain ⟨v, acc, h1, h2, _⟩ := h
  exact ne_of h1 h2 (by intro z; cases z)
theorem TrAt.kt {K : PySem.W.Frag} {C : Addr} {H H' : Hp} {x dx l : Addr} {o : Option Tr} {ps : List (Option Tr)} (h : TrAt K C H x dx l o ps) (f : Fr x l H H') : KT H H' := by
  obtain ⟨v, acc, h1, h2, _⟩ := h
  exact kt_fr ⟨_, _, _, h1⟩ ⟨_, h2⟩ f
end RT
namespace RT
open PySem PySem.Spec PyProof.Rows L2
theorem small1000' {n : Nat} (h : n ≤ 100000) : n < sizeLine := Nat.lt_of_le_of_lt h (by decide)
/-- rows with a name's row put in -/
def putS (R : List Row) (x : List Nat) (n : Int) : List Row := R.filter (fun r => decide (r.1 < x)) ++ [(x, n)] ++ R.filter (fun r => decide (x < r.1))
theorem putS_ok {R : List Row} {x : List Nat} {n : Int} (up : Up R) : putR R x n (putS R x n) := by
  unfold putS
  refine ⟨List.pairwise_append.mpr ⟨List.pairwise_append.mpr ⟨up.filter _, List.pairwise_singleton _ _, fun a ha b hb => ?_⟩, up.filter _, fun a ha b hb => ?_⟩, fun y m => ?_⟩
  · rw [List.mem_singleton.mp hb]
    exact of_decide_eq_true (List.mem_filter.mp ha).2
  · have hb' : x < b.1 := of_decide_eq_true (List.mem_filter.mp hb).2
    rcases List.mem_append.mp ha with h | h
    · exact lt_trans (of_decide_eq_true (List.mem_filter.mp h).2) hb'
    · rw [List.mem_singleton.mp h]; exact hb'
  · simp only [List.mem_append, List.mem_filter, decide_eq_true_eq, List.mem_singleton]
    constructor
    · rintro ((⟨h, l⟩ | h) | ⟨h, l⟩)
      · exact .inl ⟨h, fun e => by rw [e] at l; exact lt_irr _ l⟩
      · injection h with h1 h2; exact .inr ⟨h1, h2⟩
      · exact .inl ⟨h, fun e => by rw [e] at l; exact lt_irr _ l⟩
    · rintro (⟨h, ne⟩ | ⟨rfl, rfl⟩)
      · by_cases l : y < x
        · exact .inl (.inl ⟨h, l⟩)
        · by_cases l2 : x < y
          · exact .inr ⟨h, l2⟩
          · exact absurd (lt_tri l l2) ne
      · exact .inl (.inr rfl)
end RT
namespace RT
open PySem PySem.Spec PyProof.Rows L2
section
variable {K : PySem.W.Frag} {H H1 : Hp} {w u : V} {t s : Option (List Nat)}
theorem r1_all (h : Thg K H w t) (sm : Same H H1) : ∀ z ∈ [w], ∃ b, Thg K H1 z b := fun z hz => ⟨t, by rw [List.mem_singleton.mp hz]; exact h.same sm⟩
theorem r1_no {CN : Addr} {E : XK} (h : Thg K H w t) (sm : Same H H1) (he : t = none → ∀ H', Same H H' → E (.ref CN) none H') : (∃ z ∈ [w], Thg K H1 z none) → ∀ H', Same H1 H' → E (.ref CN) none H' := fun ⟨z, hz, hn⟩ H' s => by
  rw [List.mem_singleton.mp hz] at hn
  exact he (thg_uniq (h.same sm) hn) H' (sm.trans s)
theorem r1_yes (h : Thg K H w t) (sm : Same H H1) (all : ∀ z ∈ [w], ∃ b, Thg K H1 z (some b)) : ∃ b, t = some b := by
  obtain ⟨b, hb⟩ := all w (List.mem_singleton.mpr rfl)
  exact ⟨b, thg_uniq (h.same sm) hb⟩
theorem r2_all (h : Thg K H w t) (k : Thg K H u s) (sm : Same H H1) : ∀ z ∈ [w, u], ∃ b, Thg K H1 z b := fun z hz => by
  rcases List.mem_cons.mp hz with e | hz
  · rw [e]; exact ⟨t, h.same sm⟩
  · rw [List.mem_singleton.mp hz]; exact ⟨s, k.same sm⟩
theorem r2_no {CN : Addr} {E : XK} (h : Thg K H w t) (k : Thg K H u s) (sm : Same H H1) (he : t = none ∨ s = none → ∀ H', Same H H' → E (.ref CN) none H') : (∃ z ∈ [w, u], Thg K H1 z none) → ∀ H', Same H1 H' → E (.ref CN) none H' := fun ⟨z, hz, hn⟩ H' s' => by
  rcases List.mem_cons.mp hz with e | hz
  · rw [e] at hn; exact he (.inl (thg_uniq (h.same sm) hn)) H' (sm.trans s')
  · rw [List.mem_singleton.mp hz] at hn; exact he (.inr (thg_uniq (k.same sm) hn)) H' (sm.trans s')
theorem r2_yes (h : Thg K H w t) (k : Thg K H u s) (sm : Same H H1) (all : ∀ z ∈ [w, u], ∃ b, Thg K H1 z (some b)) : ∃ b c, t = some b ∧ s = some c := by
  obtain ⟨b, hb⟩ := all w (List.mem_cons_self ..)
  obtain ⟨c, hc⟩ := all u (List.mem_cons_of_mem _ (List.mem_singleton.mpr rfl))
  exact ⟨b, c, thg_uniq (h.same sm) hb, thg_uniq (k.same sm) hc⟩
end
end RT
namespace RT
open PySem PySem.Spec PyProof.Rows L2
theorem stay_gone (b : List Nat) (R : List Row) : (stayR b R).length + (goneR b R).length = R.length := by
  unfold stayR goneR
  rw [List.length_map]
  induction R with
  | nil => rfl
  | cons r R ih =>
    cases e : tk b r with
    | true =>
      rw [List.filter_cons_of_pos (p := tk b) e, List.filter_cons_of_neg (by simp [e])]
      simp only [List.length_cons]; omega
    | false =>
      rw [List.filter_cons_of_neg (p := tk b) (by simp [e]), List.filter_cons_of_pos (by simp [e])]
      simp only [List.length_cons]; omega
theorem DpAll_split {K : PySem.W.Frag} {H : Hp} : ∀ {vs : List V} {a b : List PyData}, DpAll K H vs (a ++ b) → ∃ v1 v2, vs = v1 ++ v2 ∧ DpAll K H v1 a ∧ DpAll K H v2 b
  | vs, [], b, h => ⟨[], vs, rfl, .nil, h⟩
  | vs, d :: a, b, h => by
    obtain ⟨x, xs, rfl, hx, hr⟩ := DpAll_cons h
    obtain ⟨v1, v2, rfl, g1, g2⟩ := DpAll_split (a := a) (b := b) hr
    exact ⟨x :: v1, v2, rfl, .cons hx g1, g2⟩
end RT

/-! trails: promises of the deeds by cells -/
namespace RT
open PySem PySem.Spec PyProof.Rows L2
def textD (x : List Nat) : PyData := .str (st x)
/-- what the texts by cells are -/
def Tx (w : V) : Prop := (∃ x : List Nat, w = .str (st x) ∧ x.length ≤ 41 ∧ ((∀ c ∈ x, c ∈ signTab) ∨ x = [97, 10] ∨ x = [9, 98])) ∨ w = .non ∨ w = .int 7
theorem Tx.scal {w : V} (h : Tx w) (y : Str) : L2.scal (.str y) w = true := by
  rcases h with ⟨x, rfl, _⟩ | rfl | rfl <;> rfl
theorem Tx.thg {K : PySem.W.Frag} {H : Hp} {w : V} (h : Tx w) : ∃ t, Thg K H w t := by
  rcases h with ⟨x, rfl, hx, _⟩ | rfl | rfl
  · cases e : isNm x with
    | true => exact ⟨some x, rfl, e⟩
    | false => exact ⟨none, .inl ⟨x, rfl, by omega, e⟩⟩
  · exact ⟨none, .inr ⟨"NoneType", fun _ _ => .base .non, by decide +kernel⟩⟩
  · exact ⟨none, .inr ⟨"int", fun _ _ => .base (.int _), by decide +kernel⟩⟩
/-- a text, or a thing that is none, by a cell -/
def spTextBy (K : PySem.W.Frag) : Sp := fun vs H Q _ => ∃ (c : Int) (v : V) (xs : List (List Nat)), vs = [.int c, v] ∧ Dp K H v (.list (xs.map textD)) ∧ (∀ x ∈ xs, isNm x = true) ∧ ∀ (w : V) (H' : Hp), Same H H' → Tx w → Q w H'
/-- a deed by a cell: refused, and nothing changed, or done -/
def spDeed (K : PySem.W.Frag) (C : Addr) : Sp := fun vs H Q _ => ∃ (x dx l : Addr) (o : Option Tr) (ps : List (Option Tr)) (c : Int), vs = [.ref x, .int c] ∧ TrAt K C H x dx l o ps ∧ GT o ∧ ps.length ≤ 2000 ∧ (∀ H', Same H H' → Q (.bl false) H') ∧
  (c % 10 ≠ 9 → ∀ (o' : Option Tr) (H' : Hp), GT o' → Fr x l H H' → TrAt K C H' x dx l o' (ps ++ [o]) → Q (.bl true) H') ∧
  (c % 10 = 9 → ∀ (qs : List (Option Tr)) (p : Option Tr), ps = qs ++ [p] → ∀ H', Fr x l H H' → TrAt K C H' x dx l p qs → Q (.bl true) H')
theorem texts_shaped {R : List (List Nat)} (h : ∀ x ∈ R, ∀ c ∈ x, c ∈ signTab) : SeqAt.shaped (.list (R.map textD)) = true := by
  have h1 : ∀ R : List (List Nat), (∀ x ∈ R, ∀ c ∈ x, c ∈ signTab) → PyData.canLayAll0 (R.map textD) = true ∧ PyData.depthAll (R.map textD) ≤ 1 := fun R h => by
    induction R with
    | nil => exact ⟨rfl, by simp [PyData.depthAll]⟩
    | cons x r ih =>
      obtain ⟨i1, i2⟩ := ih fun a ha => h a (List.mem_cons_of_mem _ ha)
      have hx := st_ok (h x (List.mem_cons_self ..))
      constructor
      · simp [PyData.canLayAll0, textD, PyData.canLay0, hx, i1]
      · simp only [List.map_cons, PyData.depthAll, textD, PyData.depth]; omega
  obtain ⟨a, b⟩ := h1 R h
  unfold SeqAt.shaped
  rw [show PyData.canLay0 (.list (R.map textD)) = true by simpa [PyData.canLay0] using a]
  rw [decide_eq_true (show PyData.depth (.list (R.map textD)) ≤ 64 by simp only [PyData.depth]; omega)]
  rfl
/-- a tree and what was told of it, as they were -/
def entD (p : Option Tr) : PyData := .tuple [oD p, .list ((rO p).map rowD)]
/-- all but what changes -/
def off (M : List Addr) (H : Hp) : Hp := fun a => if a ∈ M then none else H a
theorem off_some {M : List Addr} {H : Hp} {a : Addr} {o : HO} (h : off M H a = some o) : a ∉ M ∧ H a = some o := by
  unfold off at h
  by_cases e : a ∈ M
  · rw [if_pos e] at h; cases h
  · rw [if_neg e] at h; exact ⟨e, h⟩
theorem off_of {M : List Addr} {H : Hp} {a : Addr} {o : HO} (n : a ∉ M) (h : H a = some o) : off M H a = some o := by
  unfold off; rw [if_neg n]; exact h
theorem off_same (M : List Addr) (H : Hp) : Same (off M H) H := fun a o h => (off_some h).2
theorem off_mono {M M' : List Addr} {H H' : Hp} (m : ∀ a o, H a = some o → a ∈ M' → a ∈ M) (s : ∀ a o, a ∉ M → H a = some o → H' a = some o) : Same (off M H) (off M' H') := fun a o h => by
  obtain ⟨n, e⟩ := off_some h
  exact off_of (fun z => n (m a o e z)) (s a o n e)
theorem off_fr {x l : Addr} {H H' : Hp} (f : Fr x l H H') : Same (off [x, l] H) (off [x, l] H') := off_mono (fun _ _ _ h => h) fun a o n e => f a o (fun z => n (by rw [z]; simp)) (fun z => n (by rw [z]; simp)) e
theorem fr_off {x l : Addr} {H H' : Hp} (f : Fr x l H H') : Same (off [x, l] H) H' := (off_fr f).trans (off_same _ _)
/-- all trees taken back -/
def spNoMore (K : PySem.W.Frag) (C : Addr) : Sp := fun vs H Q _ => ∃ (x dx l : Addr) (o : Option Tr), vs = [.ref x] ∧ TrAt K C H x dx l o [] ∧ ∀ H', Same H H' → Q (.bl true) H'
def spLed (K : PySem.W.Frag) (C : Addr) : Sp := fun vs H Q _ => ∃ (x dx l : Addr) (o : Option Tr) (ps : List (Option Tr)) (L : Addr) (us : List V), vs = [.ref x, .ref L] ∧ TrAt K C H x dx l o ps ∧ GT o ∧ (∀ p ∈ ps, GT p) ∧ (ps ++ [o]).head? = some none ∧ ps.length ≤ 1000 ∧
  H L = some (.lst us) ∧ L ≠ x ∧ L ≠ l ∧ DpAll K (off [x, l] H) us (ps.map entD) ∧ ∀ H', Fr x l H H' → Q (.bl true) H'
theorem seqT {K : PySem.W.Frag} {H H' : Hp} {a : Addr} {xs : List V} (e : Same H H') (h : SqT K H a xs) : SqT K H' a xs := by
  rcases h with (h | ⟨o, h⟩) | h
  · exact .inl (.inl (e _ _ h))
  · exact .inl (.inr ⟨o, e _ _ h⟩)
  · exact .inr h
theorem ify {A B p : Prop} {i : Decidable p} (h : p) (a : A) : if decide p = true then A else B := by rw [decide_eq_true h]; exact iteT a
theorem ifn {A B p : Prop} {i : Decidable p} (h : ¬ p) (b : B) : if decide p = true then A else B := by rw [decide_eq_false h]; exact iteF b
theorem below_nil (R : List Row) : below [] R = R := List.filter_eq_self.mpr fun r _ => by simp [tk]
theorem thg_nil {K : PySem.W.Frag} {H : Hp} : Thg K H (.str (st [])) (some []) := ⟨rfl, by decide +kernel⟩
theorem thg_word {K : PySem.W.Frag} {H : Hp} {x : List Nat} (h : x.length ≤ 100000) : ∃ t, Thg K H (.str (st x)) t := ⟨_, thg_of h⟩
end RT

/-! sorted of a dict whose keys are texts, however many -/
namespace RT
open PySem PySem.Spec PyProof.Rows L2
def leS (a b : Str) : Bool := decide (a.cps.toList ≤ b.cps.toList)
def rSortedDS : List V → Hp → VK → Prop := fun xs H Q => ∃ (a : Addr) (kvs : List (Key × V)) (ks : List Str), xs = [.ref a] ∧ Rd H a (.dK kvs) ∧ kvs.map (·.1) = ks.map Sum.inr ∧ ks.length ≤ 10000 ∧
  ∀ p, H p = none → Q (.ref p) (upd H p (.lst ((ks.mergeSort leS).map V.str)))
section
variable {X : Cx}
theorem strs_each : ∀ {us : List Value} {ks : List Str}, StrsAre us ks → PySem.W.EachIs (fun v k => ∃ t, v = Value.str k t) us ks
  | _, _, .nil => .nil
  | _, _, .cons t k r => .cons ⟨_, rfl⟩ (strs_each r)
theorem each_strs : ∀ {us : List Value} {ks : List Str}, PySem.W.EachIs (fun v k => ∃ t, v = Value.str k t) us ks → StrsAre us ks
  | _, _, .nil => .nil
  | _, _, .cons ⟨t, e⟩ r => by subst e; exact .cons _ _ (each_strs r)
theorem cr_sortedDS (hcalm : X.calm = true) (hu : X.A.units + 100 < cLine) : CallR X (.builtin "sorted") rSortedDS := by
  intro pins s σ H xs us Q I r q
  obtain ⟨a, kvs, ks, ex, hd, hks, h64, q⟩ := q
  subst ex
  obtain ⟨u, eu, rx⟩ := vals1 r
  subst eu
  cases rx
  obtain ⟨z, lo, vs, rel, dd⟩ := dk_rd I.hok hd
  obtain ⟨ep, hat⟩ := dd.dictAt
  have hkeys : vs.map (·.1) = ks.map Sum.inr := rel.keys.symm.trans hks
  have hl : vs.length = ks.length := by
    have e := congrArg List.length hkeys
    rw [List.length_map, List.length_map] at e
    exact e
  have h16 : vs.length ≤ sizeLine := by rw [hl, sizeLine_eq]; omega
  refine Calls.call_function_entry PyProof.Rows.kind_sorted PyProof.Rows.plain_sorted PyProof.Rows.entry_sorted (PyProof.Rows.args_sorted1 _) ?_
  unfold Builtin.«sorted»
  refine wpAny_bind (m := checkCount "sorted" 1 1 _) (wpAny_pure ?_)
  refine wpAny_bind (PySem.W.kdu_collect (A := X.A.in1) (PySem.W.kdl_dict (knd := mixKind X.prog X.w) (kvs := vs) (ep := ep) lo) (I.ok.hd hcalm) hat h16 fun h' tk acc hk hacc => ?_)
  have hal : acc.toList.length = ks.length := by rw [Array.length_toList, hacc.1, hl]
  have hS : StrsAre acc.toList ks := strs_at hal fun j v e => by
    obtain ⟨k, x, e1, e2⟩ := hacc.2 j v (by rw [← Array.getElem?_toList]; exact e)
    have e3 : (vs.map (·.1))[j]? = some k := by rw [List.getElem?_map, e1]; all_goals rfl
    rw [hkeys, List.getElem?_map] at e3
    cases e4 : ks[j]? with
    | none => rw [e4] at e3; cases e3
    | some y =>
      rw [e4] at e3
      have e5 : Sum.inr y = k := Option.some.inj e3
      subst e5
      obtain ⟨t, ev⟩ := Value.isStrOf_shape (x := y) (v := v) e2
      exact ⟨y, t, rfl, ev⟩
  have I1 : Inv X pins σ H { s with heap := h', toks := tk } := I.kept hk
  refine wpAny_bind (wpAny_newList ?_ (by rw [hal, sizeLine_eq]; omega))
  have hoL : (h'.push (seqObj "list" acc.toList.toArray 0)).get? h'.objs.size = some (seqObj "list" acc.toList.toArray 0) := Heap.get?_push_size _ rfl
  show wpAny _ _ _ _ _ { s with heap := h'.push (seqObj "list" acc.toList.toArray 0), toks := tk }
  have hE := strs_each hS
  refine wpAny_bind (wpAny_holding (PySem.W.list_sort_data (enc := fun k : Str => PyData.str k) (bs := ks) (s := { s with heap := h'.push (seqObj "list" acc.toList.toArray 0), toks := tk }) hoL hE (hE.mono fun v k ⟨t, e⟩ => ?_) ?_ (PySem.W.Sortable.others fun b => ⟨(by intro z; cases z), (by intro xs z; cases z)⟩) (by rw [sizeLine_eq]; omega) (fun b _ => ?_) fun out ho eo => ?_))
  · exact PySem.W.AllAlike.of fun _ _ => rfl
  · have e : (PyData.str b).depth = 0 := rfl
    rw [e]
    show X.A.units + 1 + 1 + 0 < cLine
    omega
  · rw [show PySem.W.dataLe false (fun k : Str => PyData.str k) = leS from PySem.W.dataLe_str (fun k => k)] at eo
    have g1 := each_strs eo
    obtain ⟨e', he'⟩ := PyProof.Rows.sortedHeap_at (vs := acc.toList) (out := out.toArray) hoL
    have hlen : ((ks.mergeSort leS).map V.str).length ≤ sizeLine := by
      rw [List.length_map, List.length_mergeSort, sizeLine_eq]; omega
    refine wpAny_pure ⟨_, rfl, .ref h'.objs.size, upd H h'.objs.size (.lst ((ks.mergeSort leS).map V.str)), I1.laid (t' := tk) (fun b u e => ?_) (Nat.le_refl _)
      (show ObjOk X.prog X.w _ _ _ (.lst ((ks.mergeSort leS).map V.str)) from ⟨hlen, out, e', vals_of_strs g1, he'⟩), rfl, q _ (I1.hok.fresh (Nat.le_refl _))⟩
    have hb : b < h'.objs.size := Heap.lt_size e
    rw [PyProof.Rows.sortedHeap_old (Nat.ne_of_lt hb) (by rw [size_push']; exact Nat.lt_succ_of_lt hb)]
    exact Heap.get?_push_of_some _ e
  · exact ⟨[], by rw [e]; exact Reads.str k t, by simp⟩
end
end RT

/-! the exception that a suite holds, given to a def of one's own -/
namespace RT
open PySem PySem.Spec PyProof.Rows L2
/-- the exception as it stands -/
def excO (oe : Obj) : HO := .frz oe (.ext fun _ => True)
/-- what is known of a class's exception -/
def ExcAt (K : PySem.W.Frag) (D : Addr) (oe : Obj) : Prop := ExcC K D ∧ Zc (.ref D) none oe ∧ ∃ vs, oe.data = .fields vs
def rIsX (K : PySem.W.Frag) : List V → Hp → VK → Prop := fun xs H Q => ∃ (a D : Addr) (oe : Obj) (c : V) (cv : Value) (b : Bool), xs = [.ref a, c] ∧ H a = some (excO oe) ∧ ExcAt K D oe ∧ (∀ u, RelV c u → u = cv) ∧ PySem.W.kitOne K (.ref D) cv = some b ∧ Q (.bl b) H
theorem call_isX {X : Cx} : CallR X (.builtin "isinstance") (rIsX X.K) := by
  intro pins s σ H xs us Q I r h
  obtain ⟨a, D, oe, c, cv, b, rfl, ha, ⟨C, hz, hf⟩, hcv, e, q⟩ := h
  cases r with
  | cons rx rr =>
    cases rr with
    | cons rt rr =>
      cases rr
      cases rx
      have ec := hcv _ rt
      subst ec
      obtain ⟨hget, _⟩ := (show ObjOk X.prog X.w H s.heap a (excO oe) from I.hok a _ ha)
      obtain ⟨vs, hv⟩ := hf
      have J : PySem.W.InstAt s.heap a oe D none := by
        obtain ⟨oc, od, oda, osl⟩ := oe
        obtain ⟨h1, h2⟩ := hz
        dsimp only at h1 h2 hv
        subst h1 h2 hv
        exact ⟨hget, rfl, rfl, trivial⟩
      exact PySem.W.kia_one (PySem.W.handS_kitx_exc C.hg C.hk C.hs C.hd C.ha C.hn C.ht C.hm) I.kIn J e (fun z => nomatch z) fun tk => ⟨.bl b, H, I.kept (t' := tk) fun _ _ z => z, rfl, q⟩
section
variable {X : Cx} {k : Nat} {f a : Addr} {fd : FuncData} {ps : List Str} {sp : Sp} {x : Str} {p pos : Pos} {e : Expr} {es : List Expr} {t : TA} {oe : Obj} {pn : List (Addr × Obj)}
def tCallX (a : Addr) (oe : Obj) (sp : Sp) (E : XK) (t : TA) : TE := fun σ H Q => t σ H fun vs H1 => sp vs (upd H1 a (excO oe)) (fun v H2 => Q v (del H2 a)) E
theorem hok_track {P : Program} {w : World} {H : Hp} {h : Heap} (ok : HOk P w H h) (hg : h.get? a = some oe) (na : H a = none) : HOk P w (upd H a (excO oe)) h := fun b o eb => by
  by_cases hb : b = a
  · subst hb
    rw [upd_same] at eb
    cases eb
    exact ⟨hg, trivial, ⟨_, hg⟩, fun _ _ _ _ => trivial⟩
  · rw [upd_ne hb] at eb
    exact (ok b o eb).stay (fun _ _ _ q => q) (fun c q => by rw [upd_ne (ne_of_none q na)]; exact q) fun c xs q => by rw [upd_ne (ne_of_none q na)]; exact q
theorem un_track {fs : List Addr} {H H2 : Hp} {h h2 : Heap} (na : H a = none) (hg : h.get? a = some oe) (hg2 : h2.get? a = some oe) (u : Un fs [] (upd H a (excO oe)) H2 h h2) (nf : a ∉ fs) : Un fs [] H (del H2 a) h h2 where
  keep := fun b o z n hf hx => by
    by_cases hb : b = a
    · subst hb
      rw [hg] at z; cases z; exact hg2
    · exact u.keep b o z (by rw [upd_ne hb]; exact n) hf hx
  slot := fun b o z n hf hx => by
    have hb : b ≠ a := fun e => nf (e ▸ hf)
    exact u.slot b o z (by rw [upd_ne hb]; exact n) hf hx
  free := fun b o z n hx => by
    by_cases hb : b = a
    · subst hb; exact del_same
    · rw [del_ne hb]; exact u.free b o z (by rw [upd_ne hb]; exact n) hx
  there := u.there
  tups := fun b xs z => by
    have hb := ne_of_none z na
    rw [del_ne hb]; exact u.tups b xs (by rw [upd_ne hb]; exact z)
  frzs := fun b o v z => by
    have hb := ne_of_none z na
    rw [del_ne hb]; exact u.frzs b o v (by rw [upd_ne hb]; exact z)
  tbls := fun b qs z => by
    have hb := ne_of_none z na
    rw [del_ne hb]
    exact u.tbls b qs (by rw [upd_ne hb]; exact z)
theorem hok_untrack {P : Program} {w : World} {H2 : Hp} {h2 : Heap} (ok : HOk P w H2 h2) (hd : H2 a = some (excO oe)) : HOk P w (del H2 a) h2 := fun b o eb => by
  have hb : b ≠ a := fun z => by rw [z, del_same] at eb; cases eb
  rw [del_ne hb] at eb
  exact (ok b o eb).stay (fun _ _ _ q => q) (fun c q => by rw [del_ne (fun z => by rw [z, hd] at q; cases q)]; exact q) fun c xs q => by rw [del_ne (fun z => by rw [z, hd] at q; cases q)]; exact q
theorem pe_callX (F : FnOk X.prog X.w X.K X.mg X.base CX0 k f fd ps sp) (hr : Room k X.A) (hg : Gl X x) (hm : X.mg x = some (.ref f)) (hk : PySem.W.keepIn X.K (.ref f) = true) (hb : Binds X.K fd ps []) (hbn : X.base.get? a = none) (pin : (a, oe) ∈ X.pn) (stk : X.stack = X.env :: X.outer) (frm : X.env.frame = some X.env.locals)
    (ha : PA X (e :: es) t) (hdb : (x == ("__debug__" : Str)) = false := by decide) (he : starEach (e :: es) X.env = (false, eval e X.env) :: starEach es X.env := by rfl) (hpl : (backTo pos (starEach es X.env)).any (·.1) = false := by rfl) :
    PE X (.Call (.Name x p) (e :: es) [] pos) (tCallX a oe sp E0 t) := by
  refine ⟨fun pins s σ H Q I h => ?_⟩
  refine wpAny_Call_Name_kw (ld_glob I hg hm ?_ hdb)
  refine PySem.W.callWith_K (h₀ := X.base) I.ok.mod.kin hk (thn (ha.run pos pins s σ H _ I h) fun us s1 ⟨vs, H1, I1, r, q⟩ => ⟨I1.kIn, ?_⟩) he hpl
  obtain ⟨hget, na, nL, nF, _⟩ := I1.pin (a, oe) (List.mem_append_left _ pin)
  have hl : us.length = ps.length := by rw [← r.length]; exact F.len _ _ _ _ q
  have b := hb s1 us I1.kIn (by rw [List.append_nil]; exact hl)
  rw [List.append_nil] at b
  have e0 := I1.env0
  have nst : a ∉ frs X.stack := fun m => by
    rw [stk] at m
    obtain ⟨e', he', q'⟩ := List.mem_filterMap.mp m
    rcases List.mem_cons.mp he' with z | z
    · rw [z, frm] at q'; exact nL (Option.some.inj q').symm
    · exact nF (List.mem_filterMap.mpr ⟨e', z, q'⟩)
  have e1 : Env0 X.prog X.w X.K X.mg X.base X.A X.stack s1 (upd H1 a (excO oe)) := ⟨e0.frames, e0.mod, fun c o z => ⟨(e0.bs c o z).1, by
      rw [upd_ne (fun y => by rw [y, hbn] at z; cases z)]; exact (e0.bs c o z).2⟩, e0.bsz, e0.funs, fun c hc => by rw [upd_ne (fun y : c = a => nst (by rw [← y]; exact hc))]; exact e0.frf c hc, hok_track e0.hok hget na, e0.bare⟩
  refine wpAny_call (codeAny_mono (F.run X.A X.stack s1 _ ⟨us, []⟩ us vs _ E0 hr e1 b r q) fun rs s' hq => ?_)
  cases rs with
  | error e => exact False.elim hq
  | ok fl =>
    cases fl with
    | ret u =>
      obtain ⟨v, H2, os, bare, un, hok, rv, q2⟩ := hq
      have hd : H2 a = some (excO oe) := un.frzs a oe _ upd_same
      obtain ⟨hg2, _⟩ := (show ObjOk X.prog X.w H2 s'.heap a (excO oe) from hok a _ hd)
      exact I1.after ⟨v, del H2 a, os, bare, un_track na hget hg2 un nst, hok_untrack hok hd, rv, q2⟩
    | next => exact False.elim hq
    | brk => exact False.elim hq
    | cont => exact False.elim hq
end
end RT

/-! a def of one's own, called in a suite with the exception that the suite holds -/
namespace RT
open PySem PySem.Spec PyProof.Rows L2 L2H
/-- like FnH, but the promise is told which exception is held -/
structure FnP (P : Program) (w : World) (K : PySem.W.Frag) (mg : Str → Option Value) (base : Heap) (k : Nat) (f : Addr) (fd : FuncData) (ps : List Str) (sp : Addr × Obj → Sp) : Prop where
  size : ∀ p vs H Q E, sp p vs H Q E → vs.length = ps.length
  go : ∀ (p : Addr × Obj) (A : Around) (outer : List Env) (s : Shared) (H : Hp) (args : Args) (us : List Value) (vs : List V) (Q : VK) (E : XK), RoomH k A → PinOk outer H s p → Env0 P w K mg base A outer s H → BindsTo s fd args (ps.zip us) → Vals vs us →
    sp p vs H Q E → codeAny (model P w) A (.call (.ref f) args) (CR CX0 outer P w H s Q E) s
/-- the context of its body -/
abbrev cxP (P : Program) (w : World) (K : PySem.W.Frag) (mg : Str → Option Value) (base : Heap) (N : List Str) (qual : Str) (scope : Scope) (f : Addr) (cd : Value) (A : Around) (outer : List Env) (s : Shared) (H : Hp) (E : XK) (p : Addr × Obj) : Cx := cxH CX0 P w K mg base N qual scope f cd A outer s H E p
theorem Fun.okP {P : Program} {w : World} {K : PySem.W.Frag} {mg : Str → Option Value} {base : Heap} {k : Nat} {f : Addr} {fd : FuncData} {name qual : Str} {st : Stmt} {N ps : List Str} {sp : Addr × Obj → Sp} (F : Fun K name qual st f fd) (S : FnScope N ps (defScope st)) (size : ∀ p vs H Q E, sp p vs H Q E → vs.length = ps.length)
    (bd : ∀ (cdv : Value) (p : Addr × Obj) (A : Around) (outer : List Env) (s : Shared) (H : Hp) (vs : List V) (Q : VK) (E : XK), RoomH k (A.deeper (envOfC qual (defScope st) s.heap.objs.size f cdv)) → sp p vs H Q E →
      ∃ t, PSs (cxP P w K mg base N qual (defScope st) f cdv A outer s H E p) (defBody st) t ∧ t { nx := fun _ H' => Q .non H', rt := Q } (L2.start N vs) H) : FnP P w K mg base (k + 1) f fd ps sp := by
  obtain ⟨oc, od, kV, doc, pm, an, cdv, ct, osl, rfl, at_, code⟩ := F.ex
  refine ⟨size, fun p A outer s H args us vs Q E room pinned env binds vals told => ?_⟩
  have inK : K.In s.heap := env.mod.kin.keeps fun b o e => (env.bs b o e).1
  have free : s.heap.NoLimit := env.mod.nolimit.keeps fun b o e => (env.bs b o e).1
  have params : ∀ y ∈ ps.zip us, (defScope st).names.lookup y.1 = some .local ∨ ((defScope st).names.lookup y.1 = some .cell ∧ ((cellsFrom (s.heap.objs.size + 1) (defScope st).names []).lookup y.1).isSome = true) := fun y hy =>
    (S.par y.1 (List.of_mem_zip (show (y.1, y.2) ∈ ps.zip us from hy)).1).imp id fun q => ⟨q, PySem.W.cellsFrom_some _ _ _ (.inl q)⟩
  refine codeAny_call_function room.depth (inK _ _ at_) rfl S.co S.gen rfl (PySem.W.codeRec_of inK code) (binds _ _ _ _ (wpAny_newFunctionEnv_cells S.kind params fun env' he s1 new => ?_))
  cases he
  refine ⟨free.keeps new.toInCall.keep, codeAny_func ?_⟩
  obtain ⟨t, runs, wish⟩ := bd cdv p A outer s H vs Q E (room.deeper _) told
  have start : Inv (cxP P w K mg base N qual (defScope st) f cdv A outer s H E p) [] (L2.start N vs) H s1 := inv_startH S pinned env (size _ _ _ _ _ told) vals new
  refine wpAny_mono (runs.run [] s1 (L2.start N vs) H _ start wish) (fun fl s' ends => ?_) fun e s' up => up
  match fl, ends with
  | .ret u, ⟨v, σ', H', J, rel, q⟩ => exact ⟨v, H', J.os, J.bare, J.base, J.hok, rel, q⟩
  | .next, ⟨σ', H', J, q⟩ => exact ⟨.non, H', J.os, J.bare, J.base, J.hok, rfl, q⟩
  | .brk, ⟨_, _, _, q⟩ => exact q.elim
  | .cont, ⟨_, _, _, q⟩ => exact q.elim
section
variable {X : Cx} {k : Nat} {f a : Addr} {fd : FuncData} {ps : List Str} {sp : Addr × Obj → Sp} {x : Str} {pos : Pos} {q : Pos} {e : Expr} {es : List Expr} {t : TA} {oe : Obj}
theorem roomH_mark {k j : Nat} {A : Around} {h : Option Value} (r : Room k A) (le : j ≤ k) : RoomH j (A.mark h) := ⟨(roomH_of (r.mono le)).dp, (roomH_of (r.mono le)).un⟩
def tCallP (sp : Addr × Obj → Sp) (p : Addr × Obj) (t : TA) : TE := fun σ H Q => t σ H fun vs H1 => sp p vs H1 Q E0
/-- the call in the suite that holds p -/
theorem pe_callP {p : Addr × Obj} (F : FnP X.prog X.w X.K X.mg X.base k f fd ps sp) (room : RoomH k X.A) (mem : p ∈ X.pn) (glob : Gl X x) (at_ : X.mg x = some (.ref f)) (kept : PySem.W.keepIn X.K (.ref f) = true) (binds : Binds X.K fd ps [])
    (arg : PA X (e :: es) t) (dbg : (x == ("__debug__" : Str)) = false := by decide) (stars : starEach (e :: es) X.env = (false, eval e X.env) :: starEach es X.env := by rfl) (noStars : (backTo pos (starEach es X.env)).any (·.1) = false := by rfl) :
    PE X (.Call (.Name x q) (e :: es) [] pos) (tCallP sp p t) := by
  constructor
  intro pins s σ H Q I h
  refine wpAny_Call_Name_kw (ld_glob I glob at_ (PySem.W.callWith_K (h₀ := X.base) I.ok.mod.kin kept (thn (arg.run pos pins s σ H _ I h) ?_) stars noStars) dbg)
  rintro us s1 ⟨vs, H1, I1, rel, told⟩
  refine ⟨I1.kIn, ?_⟩
  have len : us.length = ps.length := by rw [← rel.length]; exact F.size _ _ _ _ _ told
  have b := binds s1 us I1.kIn (by rw [List.append_nil]; exact len)
  rw [List.append_nil] at b
  obtain ⟨g1, g2, g3, g4, g5⟩ := I1.pin p (List.mem_append_left _ mem)
  have pinned : PinOk X.stack H1 s1 p := ⟨g1, g2, fun hm => (List.mem_cons.mp (I1.stkSub p.1 hm)).elim g3 g4, g5⟩
  refine wpAny_call (codeAny_mono (F.go p X.A X.stack s1 H1 ⟨us, []⟩ us vs Q E0 room pinned I1.env0 b rel told) fun r s' got => ?_)
  match r, got with
  | .error _, got => exact False.elim got
  | .ok (.ret _), got => exact I1.after got
  | .ok .next, got => exact False.elim got
  | .ok .brk, got => exact False.elim got
  | .ok .cont, got => exact False.elim got
/-- isinstance of an exception that is held -/
def rIsP (K : PySem.W.Frag) (D a : Addr) : List V → Hp → VK → Prop := fun xs H Q => ∃ (c : V) (cv : Value) (b : Bool), xs = [.ref a, c] ∧ (∀ u, RelV c u → u = cv) ∧ PySem.W.kitOne K (.ref D) cv = some b ∧ Q (.bl b) H
theorem call_isP {D : Addr} (mem : (a, oe) ∈ X.pn) (C : ExcC X.K D) (hz : Zc (.ref D) none oe) (hf : ∃ vs, oe.data = .fields vs) : CallR X (.builtin "isinstance") (rIsP X.K D a) := by
  intro pins s σ H xs us Q I r h
  obtain ⟨c, cv, b, rfl, only, kit, q⟩ := h
  match r with
  | .cons rx (.cons rt .nil) =>
    cases rx
    cases only _ rt
    obtain ⟨there, _⟩ := I.pin (a, oe) (List.mem_append_left _ mem)
    obtain ⟨vs, hv⟩ := hf
    have J : PySem.W.InstAt s.heap a oe D none := by
      obtain ⟨oc, od, oda, osl⟩ := oe
      obtain ⟨h1, h2⟩ := hz
      dsimp only at h1 h2 hv
      subst h1 h2 hv
      exact ⟨there, rfl, rfl, trivial⟩
    exact PySem.W.kia_one (PySem.W.handS_kitx_exc C.hg C.hk C.hs C.hd C.ha C.hn C.ht C.hm) I.kIn J kit (fun z => nomatch z) fun tk => ⟨.bl b, H, I.kept (t' := tk) fun _ _ z => z, rfl, q⟩
end
end RT

/-! two trails side by side, and what was told of them -/
namespace RT
open PySem PySem.Spec PyProof.Rows L2
/-- neither a tuple nor frozen -/
def NT (H : Hp) (m : Addr) : Prop := (∀ xs, H m ≠ some (.tup xs)) ∧ ∀ o u, H m ≠ some (.frz o u)
theorem nt_ins {H : Hp} {m C dx : Addr} {fs : List (Str × V)} (h : H m = some (.ins C dx fs)) : NT H m := ⟨fun xs e => (by rw [h] at e; cases e), fun o u e => (by rw [h] at e; cases e)⟩
theorem nt_lst {H : Hp} {m : Addr} {xs : List V} (h : H m = some (.lst xs)) : NT H m := ⟨fun ys e => (by rw [h] at e; cases e), fun o u e => (by rw [h] at e; cases e)⟩
/-- all but some places is as it was -/
def Kp (S : List Addr) (H H' : Hp) : Prop := ∀ a o, a ∉ S → H a = some o → H' a = some o
theorem Kp.of {S : List Addr} {H H' : Hp} (s : Same H H') : Kp S H H' := fun a o _ e => s a o e
theorem Kp.fr {x l : Addr} {H H' : Hp} (f : Fr x l H H') : Kp [x, l] H H' := fun a o n e => f a o (fun z => n (by rw [z]; simp)) (fun z => n (by rw [z]; simp)) e
theorem Kp.upd {m : Addr} {H : Hp} {o : HO} : Kp [m] H (upd H m o) := fun a u n e => by rw [upd_ne (fun z => n (by rw [z]; simp))]; exact e
theorem Kp.kt {S : List Addr} {H H' : Hp} (k : Kp S H H') (n : ∀ m ∈ S, NT H m) : KT H H' := by
  refine ⟨fun b xs e => k b _ (fun z => (n b z).1 xs e) e, fun b o u e => k b _ (fun z => (n b z).2 o u e) e⟩
theorem off_kt {M : List Addr} {H : Hp} (n : ∀ m ∈ M, NT H m) : KT H (off M H) := ⟨fun b xs e => off_of (fun z => (n b z).1 xs e) e, fun b o u e => off_of (fun z => (n b z).2 o u e) e⟩
structure Rec where
  x : Addr
  dx : Addr
  l : Addr
  L : Addr
  o : Option Tr
  ps : List (Option Tr)
  es : List (Option Tr)
  us : List V
def ads (A : Rec) : List Addr := [A.x, A.l, A.L]
def MM (P : Addr) (A B : Rec) : List Addr := P :: (ads A ++ ads B)
def One (K : PySem.W.Frag) (C : Addr) (M : List Addr) (H : Hp) (A : Rec) : Prop := TrAt K C H A.x A.dx A.l A.o A.ps ∧ H A.L = some (.lst A.us) ∧ DpAll K (off M H) A.us (A.es.map entD)
theorem TrAt.keep {K : PySem.W.Frag} {C : Addr} {H H' : Hp} {x dx l : Addr} {o : Option Tr} {ps : List (Option Tr)} {S : List Addr} (h : TrAt K C H x dx l o ps) (k : Kp S H H') (n : ∀ m ∈ S, NT H m) (n1 : x ∉ S) (n2 : l ∉ S) : TrAt K C H' x dx l o ps := by
  obtain ⟨v, acc, h1, h2, h3, h4⟩ := h
  exact ⟨v, acc, k _ _ n1 h1, k _ _ n2 h2, Dp_kt (k.kt n) (oD_nolist _) h3, DpAll_kt (k.kt n) (oDs_nolist _) h4⟩
theorem One.keep {K : PySem.W.Frag} {C : Addr} {M M' S : List Addr} {H H' : Hp} {A : Rec} (h : One K C M H A) (k : Kp S H H') (n : ∀ m ∈ S, NT H m) (d : ∀ m ∈ S, m ∈ M) (sub : ∀ a o, H a = some o → a ∈ M' → a ∈ M) (n1 : A.x ∉ S) (n2 : A.l ∉ S) (n3 : A.L ∉ S) : One K C M' H' A :=
  ⟨h.1.keep k n n1 n2, k _ _ n3 h.2.1, DpAll_same (off_mono sub fun a o na e => k a o (fun z => na (d a z)) e) h.2.2⟩
theorem One.nt {K : PySem.W.Frag} {C : Addr} {M : List Addr} {H : Hp} {A : Rec} (h : One K C M H A) : ∀ m ∈ ads A, NT H m := by
  obtain ⟨⟨v, acc, h1, h2, _⟩, h3, _⟩ := h
  intro m hm
  simp only [ads, List.mem_cons, List.not_mem_nil, or_false] at hm
  rcases hm with rfl | rfl | rfl
  · exact nt_ins h1
  · exact nt_lst h2
  · exact nt_lst h3
def pr (k : Int) (a b : V) : List V := if k = 0 then [a, b] else [b, a]
def Wh (K : PySem.W.Frag) (C : Addr) (H0 H : Hp) (k : Int) (T P : Addr) (A B : Rec) : Prop := Same H0 H ∧ (k = 0 ∨ k = 1) ∧ H T = some (.lst (pr k (.ref A.x) (.ref B.x))) ∧ H P = some (.lst (pr k (.ref A.L) (.ref B.L))) ∧ (T :: MM P A B).Nodup ∧ (∀ m ∈ MM P A B, H0 m = none) ∧
  One K C (MM P A B) H A ∧ One K C (MM P A B) H B
section
variable {K : PySem.W.Frag} {C : Addr} {H0 H H' : Hp} {k : Int} {T P : Addr} {A B : Rec}
theorem pr_swap {k : Int} {a b : V} (h : k = 0 ∨ k = 1) : pr (1 - k) b a = pr k a b := by
  rcases h with rfl | rfl <;> rfl
theorem MM_swap {a : Addr} : a ∈ MM P B A ↔ a ∈ MM P A B := by
  simp only [MM, List.mem_cons, List.mem_append]
  constructor <;> rintro (h | h | h) <;> simp [h]
theorem Wh.nt (h : Wh K C H0 H k T P A B) : ∀ m ∈ MM P A B, NT H m := by
  obtain ⟨_, _, _, hP, _, _, hA, hB⟩ := h
  intro m hm
  rcases List.mem_cons.mp hm with rfl | hm
  · exact nt_lst hP
  · exact (List.mem_append.mp hm).elim (hA.nt m) (hB.nt m)
theorem Wh.swap (h : Wh K C H0 H k T P A B) : Wh K C H0 H (1 - k) T P B A := by
  obtain ⟨s, hk, hT, hP, nd, hn, hA, hB⟩ := h
  have e : ∀ {X : Rec}, One K C (MM P A B) H X → One K C (MM P B A) H X := fun hX => ⟨hX.1, hX.2.1, DpAll_same (off_mono (fun a o _ m => MM_swap.mp m) fun a o _ e => e) hX.2.2⟩
  refine ⟨s, by omega, by rw [pr_swap hk]; exact hT, by rw [pr_swap hk]; exact hP, ?_, fun m hm => hn m (MM_swap.mp hm), e hB, e hA⟩
  refine (List.Perm.nodup_iff ?_).mp nd
  exact (List.Perm.cons _ (List.Perm.cons _ List.perm_append_comm))
theorem Wh.same (h : Wh K C H0 H k T P A B) (s' : Same H H') : Wh K C H0 H' k T P A B := by
  obtain ⟨s, hk, hT, hP, nd, hn, hA, hB⟩ := h
  have e : ∀ {X : Rec}, One K C (MM P A B) H X → One K C (MM P A B) H' X := fun hX => ⟨hX.1.same s', s' _ _ hX.2.1, DpAll_same (off_mono (fun a o _ m => m) fun a o _ e => s' a o e) hX.2.2⟩
  exact ⟨s.trans s', hk, s' _ _ hT, s' _ _ hP, nd, hn, e hA, e hB⟩
/-- what stands apart -/
theorem Wh.ne (h : Wh K C H0 H k T P A B) : (T ≠ P ∧ T ∉ ads A ∧ T ∉ ads B) ∧ (P ∉ ads A ∧ P ∉ ads B) ∧ (A.x ≠ A.l ∧ A.x ≠ A.L ∧ A.l ≠ A.L) ∧ (B.x ∉ ads A ∧ B.l ∉ ads A ∧ B.L ∉ ads A) ∧ T ∉ MM P A B := by
  have nd := h.2.2.2.2.1
  simp only [MM, ads, List.nodup_cons, List.mem_cons, List.mem_append, List.not_mem_nil, or_false, not_or, List.cons_append, List.nil_append] at nd ⊢
  obtain ⟨⟨a1, a2, a3, a4, a5, a6, a7⟩, ⟨b1, b2, b3, b4, b5, b6⟩, ⟨c1, c2, c3, c4, c5⟩, ⟨d1, d2, d3, d4⟩, ⟨e1, e2, e3⟩, _⟩ := nd
  exact ⟨⟨a1, ⟨a2, a3, a4⟩, ⟨a5, a6, a7⟩⟩, ⟨⟨b1, b2, b3⟩, ⟨b4, b5, b6⟩⟩, ⟨c1, c2, d1⟩, ⟨⟨Ne.symm c3, Ne.symm d2, Ne.symm e1⟩, ⟨Ne.symm c4, Ne.symm d3, Ne.symm e2⟩, ⟨Ne.symm c5, Ne.symm d4, Ne.symm e3⟩⟩, ⟨a1, a2, a3, a4, a5, a6, a7⟩⟩
theorem same_kp {M S : List Addr} (s : Same H0 H) (k : Kp S H H') (d : ∀ m ∈ S, m ∈ M) (hn : ∀ m ∈ M, H0 m = none) : Same H0 H' := fun a o e => k a o (fun z => by rw [hn a (d a z)] at e; cases e) (s a o e)
theorem ads_MM {m : Addr} (h : m ∈ ads A) : m ∈ MM P A B := List.mem_cons_of_mem _ (List.mem_append_left _ h)
/-- a deed of the one -/
theorem Wh.fr (h : Wh K C H0 H k T P A B) (f : Fr A.x A.l H H') {o' : Option Tr} {ps' : List (Option Tr)} (tr : TrAt K C H' A.x A.dx A.l o' ps') : Wh K C H0 H' k T P { A with o := o', ps := ps' } B := by
  have nt := h.nt
  obtain ⟨⟨t1, t2, t3⟩, ⟨p1, p2⟩, ⟨x1, x2, x3⟩, ⟨b1, b2, b3⟩, _⟩ := h.ne
  obtain ⟨s, hk, hT, hP, nd, hn, hA, hB⟩ := h
  have sA : ∀ m ∈ [A.x, A.l], m ∈ ads A := fun m hm => by simp only [ads, List.mem_cons, List.not_mem_nil, or_false] at hm ⊢; rcases hm with h | h <;> simp [h]
  have d : ∀ m ∈ [A.x, A.l], m ∈ MM P A B := fun m hm => ads_MM (sA m hm)
  have kp := Kp.fr f
  refine ⟨same_kp s kp d hn, hk, kp _ _ (fun z => t2 (sA _ z)) hT, kp _ _ (fun z => p1 (sA _ z)) hP, nd, hn, ⟨tr, kp _ _ (fun z => ?_) hA.2.1, DpAll_same (off_mono (fun a o _ m => m) fun a o na e => kp a o (fun z => na (d a z)) e) hA.2.2⟩, hB.keep kp (fun m hm => nt m (d m hm)) d (fun a o _ m => m) (fun z => b1 (sA _ z)) (fun z => b2 (sA _ z)) (fun z => b3 (sA _ z))⟩
  simp only [List.mem_cons, List.not_mem_nil, or_false] at z
  rcases z with z | z
  · exact x2 z.symm
  · exact x3 z.symm
/-- a thing put to the one's past -/
theorem Wh.app (h : Wh K C H0 H k T P A B) {u : V} {p : Option Tr} (hu : Dp K (off (MM P A B) H) u (entD p)) : Wh K C H0 (upd H A.L (.lst (A.us ++ [u]))) k T P { A with us := A.us ++ [u], es := A.es ++ [p] } B := by
  have nt := h.nt
  obtain ⟨⟨t1, t2, t3⟩, ⟨p1, p2⟩, ⟨x1, x2, x3⟩, ⟨b1, b2, b3⟩, _⟩ := h.ne
  obtain ⟨s, hk, hT, hP, nd, hn, hA, hB⟩ := h
  have sA : ∀ m ∈ [A.L], m ∈ ads A := fun m hm => by simp only [ads, List.mem_cons, List.not_mem_nil, or_false] at hm ⊢; simp [hm]
  have d : ∀ m ∈ [A.L], m ∈ MM P A B := fun m hm => ads_MM (sA m hm)
  have kp : Kp [A.L] H (upd H A.L (.lst (A.us ++ [u]))) := Kp.upd
  have of : Same (off (MM P A B) H) (off (MM P A B) (upd H A.L (.lst (A.us ++ [u])))) := off_mono (fun a o _ m => m) fun a o na e => kp a o (fun z => na (d a z)) e
  refine ⟨same_kp s kp d hn, hk, kp _ _ (fun z => t2 (sA _ z)) hT, kp _ _ (fun z => p1 (sA _ z)) hP, nd, hn, ⟨hA.1.keep kp (fun m hm => nt m (d m hm)) (by simpa using x2) (by simpa using x3), upd_same, ?_⟩, hB.keep kp (fun m hm => nt m (d m hm)) d (fun a o _ m => m) (fun z => b1 (sA _ z)) (fun z => b2 (sA _ z)) (fun z => b3 (sA _ z))⟩
  show DpAll K _ (A.us ++ [u]) ((A.es ++ [p]).map entD)
  rw [List.map_append]
  exact DpAll_app (DpAll_same of hA.2.2) (.cons (Dp_same of hu) .nil)
/-- another past in the place of the one's -/
theorem Wh.set (h : Wh K C H0 H k T P A B) {L : Addr} {us : List V} {es : List (Option Tr)} (nL : H L = none) (hu : DpAll K (off (MM P A B) H) us (es.map entD)) :
    Wh K C H0 (upd (upd H L (.lst us)) P (.lst (pr k (.ref L) (.ref B.L)))) k T P { A with L := L, us := us, es := es } B := by
  have sm := same_new nL (.lst us)
  have hw := h.same sm
  have nt := hw.nt
  have n0 : H0 L = none := h.1.free nL
  obtain ⟨⟨t1, t2, t3⟩, ⟨p1, p2⟩, ⟨x1, x2, x3⟩, ⟨b1, b2, b3⟩, _⟩ := h.ne
  have nd := h.2.2.2.2.1
  obtain ⟨s, hk, hT, hP, _, hn, hA, hB⟩ := h
  have out : ∀ {m : Addr} {o : HO}, H m = some o → L ≠ m := fun e z => by rw [z, e] at nL; cases nL
  obtain ⟨vA, aA, hA1, hA2, _⟩ := id hA.1
  obtain ⟨vB, aB, hB1, hB2, _⟩ := id hB.1
  have LT := out hT
  have LP := out hP
  have Lx := out hA1
  have Ll := out hA2
  have Lx' := out hB1
  have Ll' := out hB2
  have LL' := out hB.2.1
  have kp : Kp [P] (upd H L (.lst us)) (upd (upd H L (.lst us)) P (.lst (pr k (.ref L) (.ref B.L)))) := Kp.upd
  have dP : ∀ m ∈ [P], m ∈ MM P A B := fun m hm => by rw [List.mem_singleton.mp hm]; exact List.mem_cons_self ..
  have ntP : ∀ m ∈ [P], NT (upd H L (.lst us)) m := fun m hm => nt m (dP m hm)
  have sub : ∀ a o, H a = some o → a ∈ MM P { A with L := L, us := us, es := es } B → a ∈ MM P A B := fun a o e m => by
    simp only [MM, ads, List.mem_cons, List.mem_append, List.not_mem_nil, or_false, List.cons_append, List.nil_append] at m ⊢
    rcases m with m | m | m | m | m
    · simp [m]
    · simp [m]
    · simp [m]
    · exact absurd m.symm (out e)
    · simp only [m]; simp
  have of : Same (off (MM P A B) H) (off (MM P { A with L := L, us := us, es := es } B) (upd (upd H L (.lst us)) P (.lst (pr k (.ref L) (.ref B.L))))) := off_mono sub fun a o na e => kp a o (fun z => na (dP a z)) (sm a o e)
  have nPL : P ≠ L := Ne.symm LP
  have m1 : ∀ {m : Addr}, m ≠ P → m ∉ [P] := fun hm z => hm (List.mem_singleton.mp z)
  have p1' : P ≠ A.x ∧ P ≠ A.l ∧ P ≠ A.L := by simpa [ads] using p1
  have p2' : P ≠ B.x ∧ P ≠ B.l ∧ P ≠ B.L := by simpa [ads] using p2
  refine ⟨?_, hk, kp _ _ (m1 t1) (sm _ _ hT), upd_same, ?_, fun m hm => ?_, ⟨?_, ?_, DpAll_same of hu⟩, ⟨?_, ?_, DpAll_same of hB.2.2⟩⟩
  · exact same_kp (s.trans sm) kp dP hn
  · simp only [MM, ads, List.nodup_cons, List.mem_cons, List.mem_append, List.not_mem_nil, or_false, not_or, List.cons_append, List.nil_append] at nd ⊢
    obtain ⟨⟨a1, a2, a3, a4, a5, a6, a7⟩, ⟨q1, q2, q3, q4, q5, q6⟩, ⟨c1, c2, c3, c4, c5⟩, ⟨d1, d2, d3, d4⟩, ⟨e1, e2, e3⟩, z⟩ := nd
    exact ⟨⟨a1, a2, a3, Ne.symm LT, a5, a6, a7⟩, ⟨q1, q2, Ne.symm LP, q4, q5, q6⟩, ⟨c1, Ne.symm Lx, c3, c4, c5⟩, ⟨Ne.symm Ll, d2, d3, d4⟩, ⟨Lx', Ll', LL'⟩, z⟩
  · simp only [MM, ads, List.mem_cons, List.mem_append, List.not_mem_nil, or_false, List.cons_append, List.nil_append] at hm
    rcases hm with m' | m' | m' | m' | m' | m' | m' <;> first | (rw [m']; exact n0) | (refine hn m ?_; simp only [MM, ads, List.mem_cons, List.mem_append, List.not_mem_nil, or_false, List.cons_append, List.nil_append]; simp [m'])
  · exact (hA.1.same sm).keep kp ntP (m1 (Ne.symm p1'.1)) (m1 (Ne.symm p1'.2.1))
  · rw [upd_ne (Ne.symm nPL), upd_same]
  · exact (hB.1.same sm).keep kp ntP (m1 (Ne.symm p2'.1)) (m1 (Ne.symm p2'.2.1))
  · exact kp _ _ (m1 (Ne.symm p2'.2.2)) (sm _ _ hB.2.1)
/-- what was told stands off the places that change -/
theorem Wh.ent (h : Wh K C H0 H k T P A B) {H2 H3 : Hp} {v : V} {o : Option Tr} {acc : List V} {r t : Addr} (s2 : Same H H2) (nr : H r = none) (s3 : Same H2 H3) (hr : H2 r = some (.lst acc)) (hacc : DpAll K H2 acc ((rO o).map rowD)) (hv : Dp K H v (oD o)) (ht : H3 t = some (.tup [v, .ref r])) :
    Dp K (off (MM P A B) H3) (.ref t) (entD o) := by
  have nt := (h.same (s2.trans s3)).nt
  have nM : r ∉ MM P A B := fun m => by
    obtain ⟨_, _, _, hP, _, _, hA, hB⟩ := h
    obtain ⟨vA, aA, hA1, hA2, _⟩ := id hA.1
    obtain ⟨vB, aB, hB1, hB2, _⟩ := id hB.1
    simp only [MM, ads, List.mem_cons, List.mem_append, List.not_mem_nil, or_false, List.cons_append, List.nil_append] at m
    rcases m with m | m | m | m | m | m | m <;> rw [m] at nr
    · rw [hP] at nr; cases nr
    · rw [hA1] at nr; cases nr
    · rw [hA2] at nr; cases nr
    · rw [hA.2.1] at nr; cases nr
    · rw [hB1] at nr; cases nr
    · rw [hB2] at nr; cases nr
    · rw [hB.2.1] at nr; cases nr
  have kt := off_kt nt
  refine .tup (SqT.of (off_of (fun m => (nt t m).1 _ ht) ht)) (.cons (Dp_kt kt (oD_nolist _) (Dp_same (s2.trans s3) hv)) (.cons (.lst (SqL.of (off_of nM (s3 _ _ hr))) (DpAll_kt kt ?_ (DpAll_same s3 hacc))) .nil))
  induction rO o with
  | nil => rfl
  | cons a l ih => simp [nolists, rowD, nolist, ih]
/-- the same, seen from later on -/
theorem Wh.anew (h : Wh K C H0 H k T P A B) : Wh K C (off (MM P A B) H) H k T P A B := ⟨off_same _ _, h.2.1, h.2.2.1, h.2.2.2.1, h.2.2.2.2.1, fun m hm => by unfold off; rw [if_pos hm], h.2.2.2.2.2.2⟩
theorem Wh.kt_fr (h : Wh K C H0 H k T P A B) (f : Fr A.x A.l H H') : KT H H' := (Kp.fr f).kt fun m hm => h.nt m (ads_MM (by
  simp only [ads, List.mem_cons, List.not_mem_nil, or_false] at hm ⊢
  rcases hm with h | h <;> simp [h]))
theorem Wh.kt_upd (h : Wh K C H0 H k T P A B) {m : Addr} {o : HO} (hm : m ∈ MM P A B) : KT H (upd H m o) := Kp.upd.kt fun z hz => by rw [List.mem_singleton.mp hz]; exact h.nt m hm
theorem Wh.off_fr (h : Wh K C H0 H k T P A B) (f : Fr A.x A.l H H') : Same (off (MM P A B) H) (off (MM P A B) H') := off_mono (fun a o _ m => m) fun a o na e => Kp.fr f a o (fun z => na (ads_MM (by
  simp only [ads, List.mem_cons, List.not_mem_nil, or_false] at z ⊢
  rcases z with h | h <;> simp [h]))) e
theorem Wh.new (h : Wh K C H0 H k T P A B) {r : Addr} (nr : H r = none) : r ∉ MM P A B := fun m => by
  obtain ⟨_, _, _, hP, _, _, hA, hB⟩ := h
  obtain ⟨vA, aA, hA1, hA2, _⟩ := id hA.1
  obtain ⟨vB, aB, hB1, hB2, _⟩ := id hB.1
  simp only [MM, ads, List.mem_cons, List.mem_append, List.not_mem_nil, or_false, List.cons_append, List.nil_append] at m
  rcases m with m | m | m | m | m | m | m <;> rw [m] at nr
  · rw [hP] at nr; cases nr
  · rw [hA1] at nr; cases nr
  · rw [hA2] at nr; cases nr
  · rw [hA.2.1] at nr; cases nr
  · rw [hB1] at nr; cases nr
  · rw [hB2] at nr; cases nr
  · rw [hB.2.1] at nr; cases nr
theorem P_MM : P ∈ MM P A B := List.mem_cons_self ..
theorem L_MM : A.L ∈ MM P A B := ads_MM (by simp [ads])
theorem head_app {α : Type} {l m : List α} {a : α} (h : l.head? = some a) : (l ++ m).head? = some a := by rw [List.head?_append, h]; rfl
theorem mem_cutV {xs : List V} {lo hi : Option Int} {z : V} (h : z ∈ cutV xs lo hi) : z ∈ xs := List.mem_of_mem_drop (List.mem_of_mem_take h)
/-- all of the one, led back: what is left of the other -/
theorem Wh.after (h : Wh K C H0 H k T P A B) (f : Fr A.x A.l H H') : H' T = some (.lst (pr k (.ref A.x) (.ref B.x))) ∧ H' P = some (.lst (pr k (.ref A.L) (.ref B.L))) ∧ One K C (MM P A B) H' B := by
  have nt := h.nt
  obtain ⟨⟨t1, t2, t3⟩, ⟨p1, p2⟩, ⟨x1, x2, x3⟩, ⟨b1, b2, b3⟩, _⟩ := h.ne
  obtain ⟨s, hk, hT, hP, nd, hn, hA, hB⟩ := h
  have sA : ∀ m ∈ [A.x, A.l], m ∈ ads A := fun m hm => by simp only [ads, List.mem_cons, List.not_mem_nil, or_false] at hm ⊢; rcases hm with h | h <;> simp [h]
  have d : ∀ m ∈ [A.x, A.l], m ∈ MM P A B := fun m hm => ads_MM (sA m hm)
  have kp := Kp.fr f
  exact ⟨kp _ _ (fun z => t2 (sA _ z)) hT, kp _ _ (fun z => p1 (sA _ z)) hP, hB.keep kp (fun m hm => nt m (d m hm)) d (fun a o _ m => m) (fun z => b1 (sA _ z)) (fun z => b2 (sA _ z)) (fun z => b3 (sA _ z))⟩
theorem One.led {M : List Addr} (h : One K C M H A) (hx : A.x ∈ M) (hl : A.l ∈ M) : DpAll K (off [A.x, A.l] H) A.us (A.es.map entD) :=
  DpAll_same (off_mono (fun a o _ m => by simp only [List.mem_cons, List.not_mem_nil, or_false] at m; rcases m with rfl | rfl <;> assumption) fun a o _ e => e) h.2.2
theorem x_MM : A.x ∈ MM P A B := ads_MM (by simp [ads])
theorem l_MM : A.l ∈ MM P A B := ads_MM (by simp [ads])
theorem bx_MM : B.x ∈ MM P A B := by simp [MM, ads]
theorem bl_MM : B.l ∈ MM P A B := by simp [MM, ads]
theorem One.ne (h : One K C (MM P A B) H A) : True := trivial
def Okr (A : Rec) : Prop := GT A.o ∧ (∀ p ∈ A.ps, GT p) ∧ (A.ps ++ [A.o]).head? = some none ∧ A.es = A.ps
theorem atI_pr0 {a b : V} (h : k = 0 ∨ k = 1) : atI (pr k a b) k = some a := by rcases h with rfl | rfl <;> rfl
theorem atI_pr1 {a b : V} (h : k = 0 ∨ k = 1) : atI (pr k a b) (1 - k) = some b := by rcases h with rfl | rfl <;> rfl
end
end RT

/-! the plain dict, the words of errors -/
namespace RT
open PySem PySem.Spec PyProof.Rows L2
def exWord (i : Nat) : Str := Str.ofString (["no name", "not there", "too long", "taken", "too many", "nothing done"].getD i "")
def Kits (K : PySem.W.Frag) (Cs : List Addr) (D : Addr) (i : Nat) : Prop := ∀ j c, Cs[j]? = some c → PySem.W.kitOne K (.ref D) (.ref c) = some (decide (j = i))
def spWordOf (K : PySem.W.Frag) (c0 c1 c2 c3 c4 c5 c6 : Addr) : Sp := fun vs H Q _ => ∃ (a D : Addr) (oe : Obj) (i : Nat), vs = [.ref a] ∧ H a = some (excO oe) ∧ ExcAt K D oe ∧ i < 6 ∧ Kits K [c0, c1, c2, c3, c4, c5, c6] D i ∧ PySem.W.kitOne K (.ref D) (.type "ValueError") = some true ∧
  ∀ (t : Addr) (H' : Hp), Same H H' → H' t = some (.tup [.str (exWord i), .bl true]) → Q (.ref t) H'
def spWordOfP (K : PySem.W.Frag) (c0 c1 c2 c3 c4 c5 c6 : Addr) (p : Addr × Obj) : Sp := fun vs H Q _ => ∃ (D : Addr) (i : Nat), vs = [.ref p.1] ∧ ExcAt K D p.2 ∧ i < 6 ∧ Kits K [c0, c1, c2, c3, c4, c5, c6] D i ∧ PySem.W.kitOne K (.ref D) (.type "ValueError") = some true ∧
  ∀ (t : Addr) (H' : Hp), Same H H' → H' t = some (.tup [.str (exWord i), .bl true]) → Q (.ref t) H'
/-! ### a dict of names and numbers, in the order of their coming -/
def dkv (P : List Row) : List (Key × V) := P.map fun r => (Sum.inr (st r.1), V.int r.2)
theorem dkv_keys (P : List Row) : (dkv P).map (·.1) = (P.map fun r => st r.1).map Sum.inr := by unfold dkv; rw [List.map_map, List.map_map]; rfl
theorem leS_st (a b : List Nat) : leS (st a) (st b) = decide (a ≤ b) := by unfold leS; simp
/-- the names sorted are those of the rows that rise -/
theorem sorted_names {P R : List Row} (h : R.Perm P) (up : Up R) : ((P.map fun r => st r.1).mergeSort leS) = R.map fun r => st r.1 := by
  have tr : ∀ a b c : Str, leS a b = true → leS b c = true → leS a c = true := fun a b c h1 h2 => by
    unfold leS at *
    exact decide_eq_true (List.le_trans (of_decide_eq_true h1) (of_decide_eq_true h2))
  have to : ∀ a b : Str, (leS a b || leS b a) = true := fun a b => by
    unfold leS
    rw [Bool.or_eq_true, decide_eq_true_iff, decide_eq_true_iff]
    exact List.le_total _ _
  refine List.Perm.eq_of_pairwise (le := fun a b => leS a b = true) ?_ (List.pairwise_mergeSort tr to _) ?_ ((List.mergeSort_perm _ _).trans (h.map _).symm)
  · intro a b _ _ h1 h2
    have e := List.le_antisymm (of_decide_eq_true h1) (of_decide_eq_true h2)
    cases a
    cases b
    exact congrArg Str.mk (Array.toList_inj.mp e)
  · refine List.pairwise_map.mpr (up.imp fun {a b} hab => ?_)
    rw [leS_st, decide_eq_true_iff]
    exact List.le_of_lt hab
/-! ### deeds tried -/
/-- told as it is, behind the word 'told' -/
def Td (Q : VK) : VK := fun v H' => ∀ (tt : Addr) (H2 : Hp), Same H' H2 → H2 tt = some (.tup [.str (Str.ofString "told"), v]) → Q (.ref tt) H2
/-- refused by the i-th class -/
def Rf (Q : VK) (i : Nat) : Hp → Prop := fun H' => ∀ (tt : Addr) (H2 : Hp), Same H' H2 → H2 tt = some (.tup [.str (exWord i), .bl true]) → Q (.ref tt) H2
def ErQ (cs : List Addr) (Q : VK) : XK := fun cls d H' => d = none ∧ ∃ i D, i < 6 ∧ cs[i]? = some D ∧ cls = .ref D ∧ Rf Q i H'
def MonoS (sp : Sp) : Prop := ∀ vs H Q E Q2 E2, sp vs H Q E → (∀ v H', Q v H' → Q2 v H') → (∀ c d H', E c d H' → E2 c d H') → sp vs H Q2 E2
theorem mono_keep {K : PySem.W.Frag} {C a b : Addr} : MonoS (spKeep K C a b) := fun vs H Q E Q2 E2 h hq he => by
  obtain ⟨x, dx, l, o, ps, w, n, t, rfl, tr, gt, pl, hn, th, qe, qn⟩ := h
  exact ⟨x, dx, l, o, ps, w, n, t, rfl, tr, gt, pl, hn, th, fun e H' s => he _ _ _ (qe e H' s), fun b eb => ⟨fun S hS big H' s => he _ _ _ ((qn b eb).1 S hS big H' s), fun o' H' g p f t => hq _ _ ((qn b eb).2 o' H' g p f t)⟩⟩
theorem mono_drop {K : PySem.W.Frag} {C a b : Addr} : MonoS (spDrop K C a b) := fun vs H Q E Q2 E2 h hq he => by
  obtain ⟨x, dx, l, o, ps, w, t, rfl, tr, gt, pl, th, qe, qn⟩ := h
  exact ⟨x, dx, l, o, ps, w, t, rfl, tr, gt, pl, th, fun e H' s => he _ _ _ (qe e H' s), fun b eb => ⟨fun e H' s => he _ _ _ ((qn b eb).1 e H' s), fun k ek o' H' g p f t => hq _ _ ((qn b eb).2 k ek o' H' g p f t)⟩⟩
theorem mono_prune {K : PySem.W.Frag} {C a b : Addr} : MonoS (spPrune K C a b) := fun vs H Q E Q2 E2 h hq he => by
  obtain ⟨x, dx, l, o, ps, w, t, rfl, tr, gt, pl, th, qe, qn⟩ := h
  exact ⟨x, dx, l, o, ps, w, t, rfl, tr, gt, pl, th, fun e H' s => he _ _ _ (qe e H' s), fun b eb => ⟨fun e H' s => he _ _ _ ((qn b eb).1 e H' s), fun ne o' H' g p f t => hq _ _ ((qn b eb).2 ne o' H' g p f t)⟩⟩
theorem mono_move {K : PySem.W.Frag} {C a b c d : Addr} {stay : List Nat → List Row → List Row} {many : Option Addr} : MonoS (spMove K C a b c d stay many) := fun vs H Q E Q2 E2 h hq he => by
  obtain ⟨x, dx, l, o, ps, w, u, t, s, rfl, tr, gt, pl, th, th2, qe, qn⟩ := h
  refine ⟨x, dx, l, o, ps, w, u, t, s, rfl, tr, gt, pl, th, th2, fun e H' s => he _ _ _ (qe e H' s), fun b c eb ec => ?_⟩
  obtain ⟨q1, q2, q3, q4, q5⟩ := qn b c eb ec
  exact ⟨fun e H' s => he _ _ _ (q1 e H' s), fun ne lg H' s => he _ _ _ (q2 ne lg H' s), fun ne lg sh H' s => he _ _ _ (q3 ne lg sh H' s), fun CM eC ne lg ns big H' s => he _ _ _ (q4 CM eC ne lg ns big H' s), fun ne lg ns ln o' H' g p f t => hq _ _ (q5 ne lg ns ln o' H' g p f t)⟩
theorem mono_back {K : PySem.W.Frag} {C a : Addr} : MonoS (spBack K C a) := fun vs H Q E Q2 E2 h hq he => by
  obtain ⟨x, dx, l, o, ps, rfl, tr, qe, qn⟩ := h
  exact ⟨x, dx, l, o, ps, rfl, tr, fun e H' s => he _ _ _ (qe e H' s), fun qs p e H' f t => hq _ _ (qn qs p e H' f t)⟩
theorem mono_told {K : PySem.W.Frag} {C a : Addr} : MonoS (spTold K C a) := fun vs H Q E Q2 E2 h hq he => by
  obtain ⟨x, dx, l, o, ps, R, w, t, rfl, tr, td, g, th, qe, qn⟩ := h
  exact ⟨x, dx, l, o, ps, R, w, t, rfl, tr, td, g, th, fun e H' s => he _ _ _ (qe e H' s), fun b eb L acc H' n s e d => hq _ _ (qn b eb L acc H' n s e d)⟩
/-- a deed tried: what the trail's own promise tells, put into words -/
def spTried (K : PySem.W.Frag) (C c0 c1 c2 c3 c4 c5 c6 : Addr) : Sp := fun vs H Q _ => ∃ (x dx : Addr) (fs : List (Str × V)) (way : Int) (w u n : V), vs = [.ref x, .int way, w, u, n] ∧ H x = some (.ins C dx fs) ∧ (∀ m : Str, m = "keep" ∨ m = "drop" ∨ m = "prune" ∨ m = "move" ∨ m = "graft" ∨ m = "told" ∨ m = "back" → fs.lookup m = none) ∧
  ((way = 0 ∧ spKeep K C c0 c4 [.ref x, w, n] H (Td Q) (ErQ [c0, c1, c2, c3, c4, c5] Q)) ∨ (way = 1 ∧ spDrop K C c0 c1 [.ref x, w] H (Td Q) (ErQ [c0, c1, c2, c3, c4, c5] Q)) ∨ (way = 2 ∧ spPrune K C c0 c1 [.ref x, w] H (Td Q) (ErQ [c0, c1, c2, c3, c4, c5] Q)) ∨
    (way = 3 ∧ spMove K C c0 c1 c2 c3 stayR none [.ref x, w, u] H (Td Q) (ErQ [c0, c1, c2, c3, c4, c5] Q)) ∨ (way = 4 ∧ spMove K C c0 c1 c2 c3 (fun _ R => R) (some c4) [.ref x, w, u] H (Td Q) (ErQ [c0, c1, c2, c3, c4, c5] Q)) ∨
    (way = 6 ∧ spTold K C c0 [.ref x, w] H (Td Q) (ErQ [c0, c1, c2, c3, c4, c5] Q)) ∨ (way = 5 ∧ spBack K C c5 [.ref x] H (Td Q) (ErQ [c0, c1, c2, c3, c4, c5] Q)))
end RT

/-! x in d, x None too -/
namespace RT
open PySem PySem.Spec PyProof.Rows L2
theorem hu1 {n : Nat} (h : n + 64 < cLine) : n + 1 < cLine := by omega
def rDIn (neg : Bool) : R2 := fun x y H Q => ∃ a, y = .ref a ∧ ((∃ o, DGet H a x o ∧ Q (.bl (if neg then !o.isSome else o.isSome)) H) ∨ (x = .non ∧ (∃ kvs, Rd H a (.dK kvs)) ∧ Q (.bl neg) H))
theorem leaf_map {P : Program} {w : World} {h : Heap} {a : Addr} {vs : List (Key × Value)} (d : h.DictOf (mixKind P w) a vs) : ∃ f, h.MapOf (PySem.leafKind P w) a f ∧ f .none = none := by
  obtain ⟨o, es, ep, ho, hx, hd, hk, hp, hn⟩ := d
  refine ⟨fun k => findBy (PySem.leafKind P w).is es k, ⟨o, es, ep, ho, hx, hd, fun e he => ?_, fun k => rfl⟩, ?_⟩
  · obtain ⟨k, h1, h2⟩ := hk e he
    cases k with
    | inl i =>
      refine ⟨.num i, ?_, h2⟩
      obtain ⟨t, e1⟩ := Value.isInt_shape (k := i) (v := e.key) h1
      rw [e1]
      exact decide_eq_true rfl
    | inr x => exact ⟨.text x, h1, h2⟩
  · show (es.find? fun e => PySem.Leaf.isOf .none e.key).map (·.val) = none
    rw [Option.map_eq_none_iff, Array.find?_eq_none]
    intro e he hh
    obtain ⟨k, h1, h2⟩ := hk e he
    have hz : e.key = .none := by
      revert hh
      cases e.key <;> intro hh <;> first | rfl | exact absurd hh Bool.false_ne_true
    rw [hz] at h1
    rcases keyIs_shape (k := k) h1 with ⟨i, t, _, e2⟩ | ⟨x, t, _, e2⟩ <;> exact nomatch e2
section
variable {X : Cx}
theorem op_dIn (hu : X.A.units + 1 < cLine) : OpR X (compareOp .In) (rDIn false) := by
  intro pins s σ H x y v u Q I rx ry h
  obtain ⟨a, rfl, h⟩ := h
  obtain rfl : u = Value.ref a := ry
  rcases h with ⟨o, g, q⟩ | ⟨rfl, ⟨kvs, e⟩, q⟩
  · exact d_in hu I g rx fun s3 I3 => ⟨.bl o.isSome, H, I3, rfl, q⟩
  · obtain rfl : v = .none := rx
    obtain ⟨z, hd, vs, rel, dd⟩ := dk_rd I.hok e
    obtain ⟨f, hm, hf⟩ := leaf_map dd
    refine wpAny_in_of (knd := PySem.leafKind X.prog X.w) (k := .none) rfl hd hm ?_
    rw [hf]
    exact ⟨.bl false, H, I.tok _, rfl, q⟩
theorem op_dNotIn (hu : X.A.units + 1 < cLine) : OpR X (compareOp .NotIn) (rDIn true) := by
  intro pins s σ H x y v u Q I rx ry h
  obtain ⟨a, rfl, h⟩ := h
  obtain rfl : u = Value.ref a := ry
  rcases h with ⟨o, g, q⟩ | ⟨rfl, ⟨kvs, e⟩, q⟩
  · exact d_notIn hu I g rx fun s3 I3 => ⟨.bl (!o.isSome), H, I3, rfl, q⟩
  · obtain rfl : v = .none := rx
    obtain ⟨z, hd, vs, rel, dd⟩ := dk_rd I.hok e
    obtain ⟨f, hm, hf⟩ := leaf_map dd
    refine wpAny_notIn_of (knd := PySem.leafKind X.prog X.w) (k := .none) rfl hd hm ?_
    rw [hf]
    exact ⟨.bl true, H, I.tok _, rfl, q⟩
/-- is True, is False, of anything -/
theorem op_isBA : OpR X (compareOp .Is) (fun x y H Q => ∃ b : Bool, y = .bl b ∧ Q (.bl (decide (x = .bl b))) H) := by
  intro pins s σ H x y v u Q I rx ry h
  obtain ⟨b, rfl, q⟩ := h
  obtain rfl : u = Value.bool b := ry
  have no : ∀ {v' : Value}, plainIs v' (.bool b) = true → v' ≠ .bool b → x ≠ .bl b → wpAny (model X.prog X.w) X.A (compareOp .Is v' (.bool b)) (EP X pins σ Q) X.xe s := fun h1 h2 h3 =>
    wpAny_is_other h1 h2 ⟨.bl false, H, I, rfl, by rw [decide_eq_false h3] at q; exact q⟩
  cases x with
  | bl a =>
    obtain rfl : v = Value.bool a := rx
    by_cases e : a = b
    · subst e
      exact wpAny_is_self rfl ⟨.bl true, H, I, rfl, by rw [decide_eq_true rfl] at q; exact q⟩
    · exact no rfl (fun z => e (Value.bool.inj z)) fun z => e (V.bl.inj z)
  | ref a => cases rx; exact no rfl (fun z => nomatch z) fun z => nomatch z
  | non => cases rx; exact no rfl (fun z => nomatch z) fun z => nomatch z
  | int i => obtain ⟨t, rfl⟩ := rx; exact no rfl (fun z => nomatch z) fun z => nomatch z
  | str x => obtain ⟨t, rfl⟩ := rx; exact no rfl (fun z => nomatch z) fun z => nomatch z
  | byt x => obtain ⟨t, rfl⟩ := rx; exact no rfl (fun z => nomatch z) fun z => nomatch z
  | flt x => obtain ⟨t, rfl⟩ := rx; exact no rfl (fun z => nomatch z) fun z => nomatch z
  | ty n => cases rx; exact no rfl (fun z => nomatch z) fun z => nomatch z
/-- xs != [], whatever is in xs -/
def rNeE (K : PySem.W.Frag) : R2 := fun x y H Q => ∃ p q xs, x = .ref p ∧ y = .ref q ∧ SqL K H p xs ∧ SqL K H q [] ∧ Q (.bl (!xs.isEmpty)) H
theorem op_neE (hu : X.A.units < cLine) : OpR X (compareOp .NotEq) (rNeE X.K) := by
  intro pins s σ H x y v u Q I rx ry h
  obtain ⟨p, q', xs, rfl, rfl, hp, hq, q⟩ := h
  obtain rfl : v = Value.ref p := rx
  obtain rfl : u = Value.ref q' := ry
  obtain ⟨us, r1, p1, _⟩ := I.list hp
  obtain ⟨ws, r2, p2, _⟩ := I.list hq
  cases r2
  cases xs with
  | nil =>
    cases r1
    exact SeqAt.RcNeAt.lists (e := fun _ => true) p1.isList p2.isList rfl hu (fun j h1 _ => absurd h1 (Nat.not_lt_zero _)) X.prog X.w X.xe _ ⟨.bl false, H, I, rfl, q⟩
  | cons y r =>
    have l := r1.length
    exact SeqAt.RcNeAt.lists_lengths p1.isList p2.isList (by simp only [List.size_toArray, ← l]; simp) hu X.prog X.w X.xe _ ⟨.bl true, H, I, rfl, q⟩
end
end RT

/-! plain dicts, what is due of a deed -/
namespace RT
open PySem PySem.Spec PyProof.Rows L2
/-- the number beside a name -/
def lkp (R : List Row) (x : List Nat) : Option Int := (R.find? fun r => decide (r.1 = x)).map (·.2)
theorem lkp_nil {x : List Nat} : lkp [] x = none := rfl
theorem lkp_cons {r : Row} {R : List Row} {x : List Nat} : lkp (r :: R) x = if r.1 = x then some r.2 else lkp R x := by
  unfold lkp
  by_cases e : r.1 = x
  · rw [List.find?_cons_of_pos (by simpa using e), if_pos e]; rfl
  · rw [List.find?_cons_of_neg (by simpa using e), if_neg e]
theorem lkp_none {R : List Row} {x : List Nat} : lkp R x = none ↔ ∀ m, (x, m) ∉ R := by
  induction R with
  | nil => simp [lkp_nil]
  | cons r R ih =>
    rw [lkp_cons]
    by_cases e : r.1 = x
    · rw [if_pos e]
      exact ⟨fun h => (by cases h), fun h => absurd (show (x, r.2) ∈ r :: R from List.mem_cons.mpr (.inl (Prod.ext e.symm rfl))) (h r.2)⟩
    · rw [if_neg e, ih]
      exact ⟨fun h m hm => (List.mem_cons.mp hm).elim (fun z => e (by rw [← z])) (h m), fun h m hm => h m (List.mem_cons_of_mem _ hm)⟩
theorem lkp_iff {R : List Row} (n : Names R) {x : List Nat} {m : Int} : lkp R x = some m ↔ (x, m) ∈ R := by
  induction R with
  | nil => simp [lkp_nil]
  | cons r R ih =>
    unfold Names at n
    rw [List.map_cons, List.nodup_cons] at n
    rw [lkp_cons]
    by_cases e : r.1 = x
    · rw [if_pos e]
      constructor
      · intro h
        injection h with h
        exact List.mem_cons.mpr (.inl (Prod.ext e.symm h.symm))
      · intro h
        rcases List.mem_cons.mp h with h | h
        · rw [← h]
        · exact absurd (List.mem_map.mpr ⟨_, h, e.symm⟩) n.1
    · rw [if_neg e, ih n.2]
      exact ⟨List.mem_cons_of_mem _, fun h => (List.mem_cons.mp h).elim (fun z => absurd (by rw [← z]) e) id⟩
theorem upNames {R : List Row} (h : Up R) : Names R := by
  unfold Names
  exact List.pairwise_map.mpr (h.imp fun {a b} l e => by rw [e] at l; exact lt_irr _ l)
theorem names_perm {R P : List Row} (h : R.Perm P) (n : Names R) : Names P := (h.map _).nodup_iff.mp n
theorem lkp_perm {R P : List Row} (h : R.Perm P) (n : Names R) (x : List Nat) : lkp R x = lkp P x := by
  cases e : lkp P x with
  | none =>
    rw [lkp_none] at e ⊢
    exact fun m hm => e m (h.mem_iff.mp hm)
  | some m =>
    rw [lkp_iff (names_perm h n)] at e
    rw [lkp_iff n]
    exact h.mem_iff.mpr e
theorem valV_dkv (P : List Row) (x : List Nat) : valV (dkv P) (Sum.inr (st x)) = (lkp P x).map V.int := by
  induction P with
  | nil => rfl
  | cons r P ih =>
    rw [lkp_cons]
    by_cases e : r.1 = x
    · rw [if_pos e]
      exact valV_pos (p := (Sum.inr (st r.1), V.int r.2)) (r := dkv P) (by rw [e])
    · rw [if_neg e, ← ih]
      exact valV_neg (p := (Sum.inr (st r.1), V.int r.2)) (r := dkv P) fun z => e (st_inj (Sum.inr.inj z))
theorem dkv_int (P : List Row) (i : Int) : valV (dkv P) (Sum.inl i) = none := by
  induction P with
  | nil => rfl
  | cons r P ih => rw [← ih]; exact valV_neg (p := (Sum.inr (st r.1), V.int r.2)) (r := dkv P) fun z => nomatch z
theorem dkv_len (P : List Row) : (dkv P).length = P.length := List.length_map _
theorem dkv_get {P : List Row} {i : Nat} {k : Key} {v : V} (h : (dkv P)[i]? = some (k, v)) : ∃ r, P[i]? = some r ∧ k = Sum.inr (st r.1) ∧ v = .int r.2 := by
  unfold dkv at h
  rw [List.getElem?_map, Option.map_eq_some_iff] at h
  obtain ⟨r, hr, e⟩ := h
  injection e with e1 e2
  exact ⟨r, hr, e1.symm, e2.symm⟩
theorem dkv_put {P : List Row} {x : List Nat} {m : Int} (h : lkp P x = none) : putK (dkv P) (Sum.inr (st x)) (.int m) = dkv (P ++ [(x, m)]) := by
  rw [putK_new _ (by rw [valV_dkv, h]; rfl)]
  unfold dkv
  rw [List.map_append]; rfl
/-- a dict that keeps these rows -/
def PD (H : Hp) (d : Addr) (R : List Row) : Prop := ∃ P, H d = some (.dK (dkv P)) ∧ Up R ∧ R.Perm P
theorem PD.same {H H' : Hp} {d : Addr} {R : List Row} (h : PD H d R) (s : Same H H') : PD H' d R := by
  obtain ⟨P, e, u, p⟩ := h
  exact ⟨P, s _ _ e, u, p⟩
theorem get_of {H : Hp} {d : Addr} {P R : List Row} (e : Rd H d (.dK (dkv P))) (u : Up R) (p : R.Perm P) (x : List Nat) : DGet H d (.str (st x)) ((lkp R x).map V.int) := by
  rw [lkp_perm p (upNames u), ← valV_dkv]
  exact .inl ⟨_, Sum.inr (st x), e, rfl, rfl⟩
theorem PD.get {H : Hp} {d : Addr} {R : List Row} (h : PD H d R) (x : List Nat) : DGet H d (.str (st x)) ((lkp R x).map V.int) := by
  obtain ⟨P, e, u, p⟩ := h
  exact get_of (.inl e) u p x
theorem pd_of {H : Hp} {d : Addr} {P R : List Row} (e : H d = some (.dK (dkv P))) (n : Names P) (u : Up R) (m : ∀ r, r ∈ R ↔ r ∈ P) : PD H d R :=
  ⟨P, e, u, (List.perm_ext_iff_of_nodup (up_nodup u) (by
    unfold Names at n
    exact List.Pairwise.of_map (·.1) (fun a b h e => h (by rw [e])) n)).mpr m⟩
theorem fndO_lkp {o : Option Tr} (g : GT o) (b : List Nat) : fndO o b = lkp (rO o) b := by
  have up := g.2.1.1
  cases e : lkp (rO o) b with
  | none =>
    rw [lkp_none] at e
    cases o with
    | none => rfl
    | some t => exact fnd_none (g.1 t rfl) e
  | some m =>
    rw [lkp_iff (upNames up)] at e
    cases o with
    | none => cases e
    | some t => exact (fnd_iff t (g.1 t rfl) b m).mpr e
/-! ### what is due -/
def toldW : Str := Str.ofString "told"
def BrOf (stay : List Nat → List Row → List Row) (b c : List Nat) (R : List Row) (W : Str) (v : V) (R' : List Row) : Prop :=
  (goneR b R = [] ∧ W = exWord 1 ∧ v = .bl true ∧ R' = R) ∨
  (goneR b R ≠ [] ∧ (∃ r ∈ freshR b c R, 40 < r.1.length) ∧ W = exWord 2 ∧ v = .bl true ∧ R' = R) ∨
  (goneR b R ≠ [] ∧ (∀ r ∈ freshR b c R, r.1.length ≤ 40) ∧ Share (stay b R) (freshR b c R) ∧ W = exWord 3 ∧ v = .bl true ∧ R' = R) ∨
  (goneR b R ≠ [] ∧ (∀ r ∈ freshR b c R, r.1.length ≤ 40) ∧ ¬ Share (stay b R) (freshR b c R) ∧ 100 < (stay b R).length + (freshR b c R).length ∧ W = exWord 4 ∧ v = .bl true ∧ R' = R) ∨
  (goneR b R ≠ [] ∧ (∀ r ∈ freshR b c R, r.1.length ≤ 40) ∧ ¬ Share (stay b R) (freshR b c R) ∧ (stay b R).length + (freshR b c R).length ≤ 100 ∧ W = toldW ∧ v = .int ((goneR b R).length : Nat) ∧ Both (stay b R) (freshR b c R) R')
def stayB (s : Bool) : List Nat → List Row → List Row := if s = true then fun _ R => R else stayR
def DueOf (way : Int) (t s : Option (List Nat)) (n : Int) (R : List Row) (W : Str) (v : V) (R' : List Row) : Prop :=
  ((t = none ∨ (2 < way ∧ s = none)) ∧ W = exWord 0 ∧ v = .bl true ∧ R' = R) ∨
  ∃ b, t = some b ∧
   ((way = 0 ∧ lkp R b = none ∧ R.length = 100 ∧ W = exWord 4 ∧ v = .bl true ∧ R' = R) ∨
    (way = 0 ∧ (lkp R b = none → R.length ≠ 100) ∧ W = toldW ∧ v = optV (lkp R b) ∧ putR R b n R') ∨
    (way = 1 ∧ lkp R b = none ∧ W = exWord 1 ∧ v = .bl true ∧ R' = R) ∨
    (way = 1 ∧ ∃ k, lkp R b = some k ∧ W = toldW ∧ v = .int k ∧ R' = R.filter fun r => !decide (r.1 = b)) ∨
    (way = 2 ∧ goneR b R = [] ∧ W = exWord 1 ∧ v = .bl true ∧ R' = R) ∨
    (way = 2 ∧ goneR b R ≠ [] ∧ W = toldW ∧ v = .int ((goneR b R).length : Nat) ∧ R' = stayR b R) ∨
    (way = 3 ∧ ∃ c, s = some c ∧ BrOf stayR b c R W v R') ∨
    (way = 4 ∧ ∃ c, s = some c ∧ BrOf (fun _ R => R) b c R W v R'))
/-- told, or refused and as it was -/
def Wrd (W : Str) (v : V) (R R' : List Row) : Prop := (W = toldW ∧ (v = .non ∨ ∃ k, v = .int k)) ∨ (∃ i, i < 6 ∧ W = exWord i ∧ v = .bl true ∧ R' = R)
theorem br_wrd {stay : List Nat → List Row → List Row} {b c : List Nat} {R R' : List Row} {W : Str} {v : V} (h : BrOf stay b c R W v R') : Wrd W v R R' := by
  rcases h with ⟨_, h⟩ | ⟨_, _, h⟩ | ⟨_, _, _, h⟩ | ⟨_, _, _, _, h⟩ | ⟨_, _, _, _, e, ev, _⟩
  · exact .inr ⟨1, by decide, h⟩
  · exact .inr ⟨2, by decide, h⟩
  · exact .inr ⟨3, by decide, h⟩
  · exact .inr ⟨4, by decide, h⟩
  · exact .inl ⟨e, .inr ⟨_, ev⟩⟩
theorem due_wrd {way : Int} {t s : Option (List Nat)} {n : Int} {R R' : List Row} {W : Str} {v : V} (h : DueOf way t s n R W v R') : Wrd W v R R' := by
  rcases h with ⟨_, h⟩ | ⟨b, _, ⟨_, _, _, h⟩ | ⟨_, _, e, ev, _⟩ | ⟨_, _, h⟩ | ⟨_, k, _, e, ev, _⟩ | ⟨_, _, h⟩ | ⟨_, _, e, ev, _⟩ | ⟨_, c, _, h⟩ | ⟨_, c, _, h⟩⟩
  · exact .inr ⟨0, by decide, h⟩
  · exact .inr ⟨4, by decide, h⟩
  · refine .inl ⟨e, ?_⟩
    rw [ev]
    cases lkp R b with
    | none => exact .inl rfl
    | some k => exact .inr ⟨k, rfl⟩
  · exact .inr ⟨1, by decide, h⟩
  · exact .inl ⟨e, .inr ⟨_, ev⟩⟩
  · exact .inr ⟨1, by decide, h⟩
  · exact .inl ⟨e, .inr ⟨_, ev⟩⟩
  · exact br_wrd h
  · exact br_wrd h
theorem exw_ne : ∀ i, i < 6 → (exWord i == toldW) = false := by decide
theorem exw_ne' {i : Nat} (h : i < 6) : exWord i ≠ toldW := fun e => by
  have := exw_ne i h
  rw [e] at this
  rw [beq_self_eq_true] at this
  cases this
theorem exw_inj : ∀ i, i < 6 → ∀ j, j < 6 → exWord i = exWord j → i = j := by decide
theorem put_len_new {R S : List Row} {x : List Nat} {n : Int} (up : Up R) (hx : lkp R x = none) (h : putR R x n S) : S.length = R.length + 1 := by
  rw [lkp_none] at hx
  have : S.Perm (R ++ [(x, n)]) := by
    refine (List.perm_ext_iff_of_nodup (up_nodup h.1) (List.nodup_append.mpr ⟨up_nodup up, by simp, fun r hr s hs e => ?_⟩)).mpr fun r => ?_
    · rw [List.mem_singleton.mp hs] at e
      rw [e] at hr
      exact hx n hr
    · rw [List.mem_append, List.mem_singleton, h.2 r.1 r.2]
      constructor
      · rintro (⟨m, _⟩ | ⟨e1, e2⟩)
        · exact .inl m
        · exact .inr (Prod.ext e1 e2)
      · rintro (m | e)
        · exact .inl ⟨m, fun e => hx r.2 (by rw [← e]; exact m)⟩
        · rw [e]; exact .inr ⟨rfl, rfl⟩
  rw [this.length_eq, List.length_append]; rfl
theorem put_len_old {R S : List Row} {x : List Nat} {n k : Int} (up : Up R) (hx : lkp R x = some k) (h : putR R x n S) : S.length ≤ R.length := by
  rw [lkp_iff (upNames up)] at hx
  have l1 : (R.erase (x, k)).length = R.length - 1 := List.length_erase_of_mem hx
  have pos : 0 < R.length := List.length_pos_of_mem hx
  have : S.length ≤ (R.erase (x, k) ++ [(x, n)]).length := (up_nodup h.1).length_le_of_subset fun r hr => by
    rw [List.mem_append, List.mem_singleton]
    rcases (h.2 r.1 r.2).mp hr with ⟨m, ne⟩ | ⟨e1, e2⟩
    · exact .inl ((up_nodup up).mem_erase_iff.mpr ⟨fun e => ne (by rw [e]), m⟩)
    · exact .inr (Prod.ext e1 e2)
  rw [List.length_append, l1] at this
  simp at this
  omega
theorem both_ext {A B T S : List Row} (h : Both A B T) (k : Both A B S) : T = S := up_ext h.1 k.1 fun r => (h.2 r).trans (k.2 r).symm
theorem put_ext {R S T : List Row} {x : List Nat} {n : Int} (h : putR R x n S) (k : putR R x n T) : S = T := up_ext h.1 k.1 fun r => (h.2 r.1 r.2).trans (k.2 r.1 r.2).symm
theorem tf_noM {v : V} {l : Addr} (m : Str) (h : m = "keep" ∨ m = "drop" ∨ m = "prune" ∨ m = "move" ∨ m = "graft" ∨ m = "told" ∨ m = "back") : (tf v l).lookup m = none := by
  rcases h with rfl | rfl | rfl | rfl | rfl | rfl | rfl <;> rfl
/-- a deed tried is as it is due -/
theorem tried_due {K : PySem.W.Frag} {C c0 c1 c2 c3 c4 c5 c6 : Addr} {H : Hp} {x dx l : Addr} {o : Option Tr} {ps : List (Option Tr)} {way n : Int} {w u : V} {t s : Option (List Nat)} {W : Str} {v : V} {R' : List Row} {Q : VK} {E : XK}
    (tr : TrAt K C H x dx l o ps) (g : GT o) (pl : ps.length ≤ 2000) (tw : Thg K H w t) (tu : Thg K H u s) (hn : n.natAbs < 10 ^ 60) (hw : 0 ≤ way ∧ way ≤ 4) (du : DueOf way t s n (rO o) W v R')
    (q : ∀ (o' : Option Tr) (ps' : List (Option Tr)) (H' : Hp) (tt : Addr), Fr x l H H' → TrAt K C H' x dx l o' ps' → GT o' → rO o' = R' → H' tt = some (.tup [.str W, v]) → ((W = toldW ∧ ps' = ps ++ [o]) ∨ (W ≠ toldW ∧ ps' = ps ∧ o' = o)) → Q (.ref tt) H') :
    spTried K C c0 c1 c2 c3 c4 c5 c6 [.ref x, .int way, w, u, .int n] H Q E := by
  have up := g.2.1.1
  obtain ⟨vx, acc, hx, _⟩ := id tr
  have no : ∀ {i D}, i < 6 → [c0, c1, c2, c3, c4, c5][i]? = some D → W = exWord i → v = .bl true → R' = rO o → ∀ H', Same H H' → ErQ [c0, c1, c2, c3, c4, c5] Q (.ref D) none H' := fun {i D} hi hD eW ev eR H' s' =>
    ⟨rfl, i, D, hi, hD, rfl, fun tt H2 s2 ht => q o ps H2 tt (Fr.of (s'.trans s2)) (tr.same (s'.trans s2)) g eR.symm (by rw [eW, ev]; exact ht) (.inr ⟨fun z => exw_ne' hi (eW.symm.trans z), rfl, rfl⟩)⟩
  have yes : ∀ {o' : Option Tr} {H' : Hp} {v' : V}, W = toldW → v = v' → GT o' → rO o' = R' → Fr x l H H' → TrAt K C H' x dx l o' (ps ++ [o]) → Td Q v' H' := fun {o' H' v'} eW ev g' eR f tr' tt H2 s2 ht =>
    q o' _ H2 tt (f.trans (Fr.of s2)) (tr'.same s2) g' eR (by rw [eW, ev]; exact ht) (.inl ⟨eW, rfl⟩)
  refine ⟨x, dx, _, way, w, u, .int n, rfl, hx, tf_noM, ?_⟩
  have mv : ∀ {stay : List Nat → List Row → List Row} {many : Option Addr} {b c : List Nat}, (many = some c4 ∨ many = none ∧ ∀ b R, (stay b R).length + (freshR b c R).length = R.length) → t = some b → s = some c → BrOf stay b c (rO o) W v R' → spMove K C c0 c1 c2 c3 stay many [.ref x, w, u] H (Td Q) (ErQ [c0, c1, c2, c3, c4, c5] Q) := fun {stay many b c} hm et es br => by
    refine ⟨x, dx, l, o, ps, w, u, t, s, rfl, tr, g, pl, tw, tu, fun e => (by rw [et, es] at e; rcases e with e | e <;> cases e), fun b' c' eb ec => ?_⟩
    cases et.symm.trans eb
    cases es.symm.trans ec
    rcases br with ⟨z, e1, e2, e3⟩ | ⟨nz, lg, e1, e2, e3⟩ | ⟨nz, ok, sh, e1, e2, e3⟩ | ⟨nz, ok, ns, bg, e1, e2, e3⟩ | ⟨nz, ok, ns, sm, e1, e2, e3⟩
    · exact ⟨fun _ => no (i := 1) (by decide) rfl e1 e2 e3, fun nz => absurd z nz, fun nz => absurd z nz, fun _ _ nz => absurd z nz, fun nz => absurd z nz⟩
    · obtain ⟨r, hr, hl⟩ := lg
      exact ⟨fun z => absurd z nz, fun _ _ => no (i := 2) (by decide) rfl e1 e2 e3, fun _ ok => absurd (ok r hr) (by omega), fun _ _ _ ok => absurd (ok r hr) (by omega), fun _ ok => absurd (ok r hr) (by omega)⟩
    · exact ⟨fun z => absurd z nz, fun _ ⟨r, hr, hl⟩ => absurd (ok r hr) (by omega), fun _ _ _ => no (i := 3) (by decide) rfl e1 e2 e3, fun _ _ _ _ ns => absurd sh ns, fun _ _ ns => absurd sh ns⟩
    · refine ⟨fun z => absurd z nz, fun _ ⟨r, hr, hl⟩ => absurd (ok r hr) (by omega), fun _ _ sh => absurd sh ns, fun CM eC _ _ _ _ => ?_, fun _ _ _ sm => absurd sm (by omega)⟩
      rcases hm with hm | ⟨hm, _⟩
      · cases hm.symm.trans eC
        exact no (i := 4) (by decide) rfl e1 e2 e3
      · cases hm.symm.trans eC
    · refine ⟨fun z => absurd z nz, fun _ ⟨r, hr, hl⟩ => absurd (ok r hr) (by omega), fun _ _ sh => absurd sh ns, fun _ _ _ _ _ bg => absurd sm (by omega), fun _ _ _ _ o' H' g' bt f tr' => yes e1 e2 g' (both_ext bt e3) f tr'⟩
  rcases du with ⟨hnn, e1, e2, e3⟩ | ⟨b, et, du⟩
  · have n0 : ∀ H', Same H H' → ErQ [c0, c1, c2, c3, c4, c5] Q (.ref c0) none H' := no (i := 0) (by decide) rfl e1 e2 e3
    rcases (show way = 0 ∨ way = 1 ∨ way = 2 ∨ way = 3 ∨ way = 4 by omega) with rfl | rfl | rfl | rfl | rfl
    · have tn : t = none := hnn.elim id fun z => absurd z.1 (by decide)
      exact .inl ⟨rfl, x, dx, l, o, ps, w, n, t, rfl, tr, g, pl, hn, tw, fun _ => n0, fun b eb => by rw [tn] at eb; cases eb⟩
    · have tn : t = none := hnn.elim id fun z => absurd z.1 (by decide)
      exact .inr (.inl ⟨rfl, x, dx, l, o, ps, w, t, rfl, tr, g, pl, tw, fun _ => n0, fun b eb => by rw [tn] at eb; cases eb⟩)
    · have tn : t = none := hnn.elim id fun z => absurd z.1 (by decide)
      exact .inr (.inr (.inl ⟨rfl, x, dx, l, o, ps, w, t, rfl, tr, g, pl, tw, fun _ => n0, fun b eb => by rw [tn] at eb; cases eb⟩))
    · have no2 : ∀ b c, t = some b → s = some c → False := fun b c eb ec => by
        rcases hnn with z | ⟨_, z⟩
        · rw [z] at eb; cases eb
        · rw [z] at ec; cases ec
      exact .inr (.inr (.inr (.inl ⟨rfl, x, dx, l, o, ps, w, u, t, s, rfl, tr, g, pl, tw, tu, fun _ => n0, fun b c eb ec => absurd trivial fun _ => no2 b c eb ec⟩)))
    · have no2 : ∀ b c, t = some b → s = some c → False := fun b c eb ec => by
        rcases hnn with z | ⟨_, z⟩
        · rw [z] at eb; cases eb
        · rw [z] at ec; cases ec
      exact .inr (.inr (.inr (.inr (.inl ⟨rfl, x, dx, l, o, ps, w, u, t, s, rfl, tr, g, pl, tw, tu, fun _ => n0, fun b c eb ec => absurd trivial fun _ => no2 b c eb ec⟩))))
  · have tnn : t ≠ none := by rw [et]; intro z; cases z
    rcases du with ⟨rfl, hb, h1, e1, e2, e3⟩ | ⟨rfl, hb, e1, e2, e3⟩ | ⟨rfl, hb, e1, e2, e3⟩ | ⟨rfl, k, hb, e1, e2, e3⟩ | ⟨rfl, hb, e1, e2, e3⟩ | ⟨rfl, hb, e1, e2, e3⟩ | ⟨rfl, c, es, br⟩ | ⟨rfl, c, es, br⟩
    · refine .inl ⟨rfl, x, dx, l, o, ps, w, n, t, rfl, tr, g, pl, hn, tw, fun z => absurd z tnn, fun b' eb => ?_⟩
      cases et.symm.trans eb
      exact ⟨fun S hS bg => no (i := 4) (by decide) rfl e1 e2 e3, fun o' H' g' hp f tr' => absurd (put_len_new up hb hp) (by have := g'.2.2; omega)⟩
    · refine .inl ⟨rfl, x, dx, l, o, ps, w, n, t, rfl, tr, g, pl, hn, tw, fun z => absurd z tnn, fun b' eb => ?_⟩
      cases et.symm.trans eb
      have gl := g.2.2
      refine ⟨fun S hS bg => ?_, fun o' H' g' hp f tr' => yes e1 (by rw [e2, fndO_lkp g]) g' (put_ext hp e3) f tr'⟩
      exfalso
      cases e : lkp (rO o) b with
      | none =>
        have := hb e
        have := put_len_new up e hS
        omega
      | some k =>
        have := put_len_old up e hS
        omega
    · refine .inr (.inl ⟨rfl, x, dx, l, o, ps, w, t, rfl, tr, g, pl, tw, fun z => absurd z tnn, fun b' eb => ?_⟩)
      cases et.symm.trans eb
      exact ⟨fun _ => no (i := 1) (by decide) rfl e1 e2 e3, fun k ek => by rw [fndO_lkp g, hb] at ek; cases ek⟩
    · refine .inr (.inl ⟨rfl, x, dx, l, o, ps, w, t, rfl, tr, g, pl, tw, fun z => absurd z tnn, fun b' eb => ?_⟩)
      cases et.symm.trans eb
      refine ⟨fun z => (by rw [fndO_lkp g, hb] at z; cases z), fun k' ek o' H' g' er f tr' => ?_⟩
      rw [fndO_lkp g, hb] at ek
      cases ek
      exact yes e1 e2 g' (by rw [er, e3]) f tr'
    · refine .inr (.inr (.inl ⟨rfl, x, dx, l, o, ps, w, t, rfl, tr, g, pl, tw, fun z => absurd z tnn, fun b' eb => ?_⟩))
      cases et.symm.trans eb
      exact ⟨fun _ => no (i := 1) (by decide) rfl e1 e2 e3, fun nz => absurd hb nz⟩
    · refine .inr (.inr (.inl ⟨rfl, x, dx, l, o, ps, w, t, rfl, tr, g, pl, tw, fun z => absurd z tnn, fun b' eb => ?_⟩))
      cases et.symm.trans eb
      exact ⟨fun z => absurd z hb, fun nz o' H' g' er f tr' => yes e1 e2 g' (by rw [er, e3]) f tr'⟩
    · refine .inr (.inr (.inr (.inl ⟨rfl, mv (.inr ⟨rfl, fun b R => ?_⟩) et es br⟩)))
      rw [show (freshR b c R).length = (goneR b R).length from List.length_map _]
      exact stay_gone b R
    · exact .inr (.inr (.inr (.inr (.inl ⟨rfl, mv (.inl rfl) et es br⟩))))
/-- the last deed taken back, tried -/
theorem tried_back {K : PySem.W.Frag} {C c0 c1 c2 c3 c4 c5 c6 : Addr} {H : Hp} {x dx l : Addr} {o : Option Tr} {ps : List (Option Tr)} {w u n : V} {Q : VK} {E : XK}
    (tr : TrAt K C H x dx l o ps) (q0 : ps = [] → ∀ (H' : Hp) (tt : Addr), Same H H' → H' tt = some (.tup [.str (exWord 5), .bl true]) → Q (.ref tt) H')
    (q1 : ∀ qs p, ps = qs ++ [p] → ∀ (H' : Hp) (tt : Addr), Fr x l H H' → TrAt K C H' x dx l p qs → H' tt = some (.tup [.str toldW, .non]) → Q (.ref tt) H') :
    spTried K C c0 c1 c2 c3 c4 c5 c6 [.ref x, .int 5, w, u, n] H Q E := by
  obtain ⟨vx, acc, hx, _⟩ := id tr
  refine ⟨x, dx, _, 5, w, u, n, rfl, hx, tf_noM, .inr (.inr (.inr (.inr (.inr (.inr ⟨rfl, x, dx, l, o, ps, rfl, tr, fun e H' s' => ⟨rfl, 5, c5, by decide, rfl, rfl, fun tt H2 s2 ht => q0 e H2 tt (s'.trans s2) ht⟩, fun qs p e H' f tr' tt H2 s2 ht => q1 qs p e H2 tt (f.trans (Fr.of s2)) (tr'.same s2) ht⟩)))))⟩
/-- what is told, tried -/
theorem tried_told {K : PySem.W.Frag} {C c0 c1 c2 c3 c4 c5 c6 : Addr} {H : Hp} {x dx l : Addr} {o : Option Tr} {ps : List (Option Tr)} {w u n : V} {t : Option (List Nat)} {Q : VK} {E : XK}
    (tr : TrAt K C H x dx l o ps) (g : GT o) (tw : Thg K H w t) (q0 : t = none → ∀ (H' : Hp) (tt : Addr), Same H H' → H' tt = some (.tup [.str (exWord 0), .bl true]) → Q (.ref tt) H')
    (q1 : ∀ b, t = some b → ∀ (H' : Hp) (tt L : Addr) (us : List V), H L = none → Same H H' → H' L = some (.lst us) → DpAll K H' us ((below b (rO o)).map rowD) → H' tt = some (.tup [.str toldW, .ref L]) → L ≠ tt → Q (.ref tt) H') :
    spTried K C c0 c1 c2 c3 c4 c5 c6 [.ref x, .int 6, w, u, n] H Q E := by
  obtain ⟨vx, acc, hx, _⟩ := id tr
  refine ⟨x, dx, _, 6, w, u, n, rfl, hx, tf_noM, .inr (.inr (.inr (.inr (.inr (.inl ⟨rfl, x, dx, l, o, ps, rO o, w, t, rfl, tr, g.tr, g.2.1, tw, fun e H' s' => ⟨rfl, 0, c0, by decide, rfl, rfl, fun tt H2 s2 ht => q0 e H2 tt (s'.trans s2) ht⟩, fun b eb L us H' nL s' eL dL tt H2 s2 ht => q1 b eb H2 tt L us nL (s'.trans s2) (s2 _ _ eL) (DpAll_same s2 dL) ht ?_⟩)))))⟩
  intro z
  have := s2 _ _ eL
  rw [z, ht] at this
  cases this
end RT
namespace RT
open PySem PySem.Spec PyProof.Rows L2
/-! ### more of rows and dicts -/
theorem lkp_app {A B : List Row} {x : List Nat} : lkp (A ++ B) x = none ↔ lkp A x = none ∧ lkp B x = none := by
  rw [lkp_none, lkp_none, lkp_none]
  exact ⟨fun h => ⟨fun m z => h m (List.mem_append_left _ z), fun m z => h m (List.mem_append_right _ z)⟩, fun h m z => (List.mem_append.mp z).elim (h.1 m) (h.2 m)⟩
theorem lkp_filter {A : List Row} {p : Row → Bool} {x : List Nat} (h : lkp A x = none) : lkp (A.filter p) x = none := by
  rw [lkp_none] at *
  exact fun m z => h m (List.mem_filter.mp z).1
theorem lkp_take {P : List Row} (n : Names P) {i : Nat} {r : Row} (h : P[i]? = some r) : lkp (P.take i) r.1 = none := by
  rw [lkp_none]
  intro m hm
  obtain ⟨hi, e⟩ := List.getElem?_eq_some_iff.mp h
  have e2 : P = P.take i ++ r :: P.drop (i + 1) := by
    rw [← e, ← List.drop_eq_getElem_cons hi, List.take_append_drop]
  unfold Names at n
  rw [e2, List.map_append, List.map_cons, List.nodup_append] at n
  exact n.2.2 r.1 (List.mem_map.mpr ⟨_, hm, rfl⟩) r.1 (List.mem_cons_self ..) rfl
theorem lkp_mem {R : List Row} (n : Names R) {r : Row} (h : r ∈ R) : lkp R r.1 = some r.2 := (lkp_iff n).mpr h
theorem up_sort {l : List Row} (n : Names l) : ∃ T : List Row, T.Perm l ∧ Up T := by
  have tr : ∀ a b c : Row, decide (a.1 ≤ b.1) = true → decide (b.1 ≤ c.1) = true → decide (a.1 ≤ c.1) = true := fun a b c h1 h2 => decide_eq_true (List.le_trans (of_decide_eq_true h1) (of_decide_eq_true h2))
  have to : ∀ a b : Row, (decide (a.1 ≤ b.1) || decide (b.1 ≤ a.1)) = true := fun a b => by
    rw [Bool.or_eq_true, decide_eq_true_iff, decide_eq_true_iff]
    exact List.le_total _ _
  have hp := List.mergeSort_perm l (fun a b : Row => decide (a.1 ≤ b.1))
  have pw := List.pairwise_mergeSort (le := fun a b : Row => decide (a.1 ≤ b.1)) tr to l
  have nd : (l.mergeSort (fun a b : Row => decide (a.1 ≤ b.1))).Pairwise fun p q => p.1 ≠ q.1 := by
    have : ((l.mergeSort (fun a b : Row => decide (a.1 ≤ b.1))).map (·.1)).Nodup := (hp.map _).nodup_iff.mpr n
    exact List.pairwise_map.mp this
  refine ⟨_, hp, (pw.and nd).imp fun {a b} h => ?_⟩
  obtain ⟨h1, h2⟩ := h
  exact Decidable.byContradiction fun z => h2 (List.le_antisymm (of_decide_eq_true h1) (List.not_lt.mp z))
theorem ints_of {α : Type} {K : PySem.W.Frag} {H : Hp} {g : α → Int} : ∀ {l : List α} {acc : List V}, DpAll K H acc (l.map fun a => PyData.int (g a)) → acc = (l.map g).map V.int
  | [], acc, h => DpAll_nil h
  | a :: l, acc, h => by
    obtain ⟨x, xs, rfl, hx, hr⟩ := DpAll_cons h
    cases Dp_int hx
    rw [ints_of hr]; rfl
theorem strsD_of {α : Type} {K : PySem.W.Frag} {H : Hp} {g : α → List Nat} : ∀ {l : List α} {acc : List V}, DpAll K H acc (l.map fun a => textD (g a)) → acc = l.map fun a => V.str (st (g a))
  | [], acc, h => DpAll_nil h
  | a :: l, acc, h => by
    obtain ⟨x, xs, rfl, hx, hr⟩ := DpAll_cons h
    cases Dp_str hx
    rw [strsD_of hr]; rfl
/-! ### alike, True too -/
theorem Dp_bl {K : PySem.W.Frag} {H : Hp} {v : V} {b : Bool} (h : Dp K H v (.bool b)) : v = .bl b := by cases h; rfl
mutual
def plainB : PyData → Bool
  | .none => true
  | .bool b => b
  | .int _ => true
  | .str _ => true
  | .list xs => decide (xs.length ≤ 10000) && plainsB xs
  | .tuple xs => decide (xs.length ≤ 10000) && plainsB xs
  | _ => false
def plainsB : List PyData → Bool
  | [] => true
  | x :: r => plainB x && plainsB r
end
theorem plainsB_get : ∀ {ds : List PyData} {i : Nat} {d : PyData}, plainsB ds = true → ds[i]? = some d → plainB d = true
  | [], _, _, _, h => by simp at h
  | x :: r, 0, d, h, e => by simp [plainsB] at h e; rw [← e]; exact h.1
  | x :: r, i + 1, d, h, e => by simp [plainsB] at h; exact plainsB_get (i := i) h.2 (by simpa using e)
def spAlikeB (K : PySem.W.Frag) (n : Nat) : Sp := fun vs H Q _ => ∃ (v u : V) (d : PyData), vs = [v, u] ∧ Dp K H v d ∧ Dp K H u d ∧ plainB d = true ∧ dep d ≤ n ∧ ∀ H', Same H H' → Q (.bl true) H'
/-! ### promises -/
def spNamed (K : PySem.W.Frag) : Sp := fun vs H Q _ => ∃ (v : V) (t : Option (List Nat)), vs = [v] ∧ Tx v ∧ Thg K H v t ∧ Q (.bl t.isSome) H
def spBrD (K : PySem.W.Frag) : Sp := fun vs H Q _ => ∃ (d : Addr) (b c : List Nat) (s : Bool) (R : List Row), vs = [.ref d, .str (st b), .str (st c), .bl s] ∧ PD H d R ∧ Good R ∧ R.length ≤ 100 ∧ isNm b = true ∧ isNm c = true ∧
  ∀ (W : Str) (v : V) (d' : Addr) (R' : List Row) (t : Addr) (H' : Hp), Same H H' → H' t = some (.tup [.str W, v, .ref d']) → PD H' d' R' → BrOf (stayB s) b c R W v R' → Q (.ref t) H'
def spDue (K : PySem.W.Frag) : Sp := fun vs H Q _ => ∃ (d : Addr) (way n : Int) (w u : V) (t s : Option (List Nat)) (R : List Row), vs = [.ref d, .int way, w, u, .int n] ∧ PD H d R ∧ Good R ∧ R.length ≤ 100 ∧ Tx w ∧ Tx u ∧ Thg K H w t ∧ Thg K H u s ∧ 0 ≤ way ∧ way ≤ 5 ∧
  ∀ (W : Str) (v : V) (d' : Addr) (R' : List Row) (t' : Addr) (H' : Hp), Same H H' → H' t' = some (.tup [.str W, v, .ref d']) → PD H' d' R' → (way ≠ 5 → DueOf way t s n R W v R') → Q (.ref t') H'
end RT
namespace RT
open PySem PySem.Spec PyProof.Rows L2
theorem tkf_yes {P : List Row} {p : Row → Bool} {i : Nat} {r : Row} (h : P[i]? = some r) (hp : p r = true) : (P.take (i + 1)).filter p = (P.take i).filter p ++ [(r.1, r.2)] := by
  rw [List.take_add_one, h]
  simp [hp]
theorem tkf_no {P : List Row} {p : Row → Bool} {i : Nat} {r : Row} (h : P[i]? = some r) (hp : p r = false) : (P.take (i + 1)).filter p = (P.take i).filter p := by
  rw [List.take_add_one, h]
  simp [hp]
theorem tk_one {P : List Row} {i : Nat} {r : Row} (h : P[i]? = some r) : P.take (i + 1) = P.take i ++ [(r.1, r.2)] := by
  rw [List.take_add_one, h]; rfl
theorem names_app {A B : List Row} (ha : Names A) (hb : Names B) (n : ∀ r ∈ B, lkp A r.1 = none) : Names (A ++ B) := by
  unfold Names at *
  rw [List.map_append]
  refine List.nodup_append.mpr ⟨ha, hb, fun x hx y hy e => ?_⟩
  obtain ⟨r, hr, rfl⟩ := List.mem_map.mp hx
  obtain ⟨r', hr', rfl⟩ := List.mem_map.mp hy
  have := n r' hr'
  rw [lkp_none] at this
  exact this r.2 (by rw [← e]; exact hr)
theorem fresh_up {b c : List Nat} {R : List Row} (up : Up R) : Up (freshR b c R) := up_map (gone_up up)
theorem ifb1 {A B : Prop} {b : Bool} (h : b = true) (a : A) : if b = true then A else B := by rw [if_pos h]; exact a
theorem ifb0 {A B : Prop} {b : Bool} (h : b = false) (a : B) : if b = true then A else B := by rw [if_neg (by rw [h]; decide)]; exact a
end RT

/-! trees walked from the top -/
namespace RT
open PySem PySem.Spec PyProof.Rows L2
def spStartBy (K : PySem.W.Frag) : Sp := fun vs H Q _ => ∃ (c : Int) (v : V) (xs : List (List Nat)), vs = [.int c, v] ∧ Dp K H v (.list (xs.map textD)) ∧ (∀ x ∈ xs, isNm x = true) ∧ ∀ (b : List Nat) (H' : Hp), Same H H' → isNm b = true → Q (.str (st b)) H'
def branchD (b : List Nat × Tr) : PyData := .tuple [.str (st b.1), b.2.toD]
def spIsEnd (K : PySem.W.Frag) : Sp := fun vs H Q _ => ∃ (v : V) (b : List Nat × Tr), vs = [v] ∧ Dp K H v (branchD b) ∧ (b.1 = [] → ∃ n, b.2 = .leaf [] n) ∧ ∀ H', Same H H' → Q (.bl true) H'
/-- the names, the knots of a tree walked -/
def givesW (K : PySem.W.Frag) (H : Hp) (t : Tr) (s : List Nat) (Q : VK) : Prop := ∀ (pw L1 L2 : Addr) (a1 a2 : List V) (H' : Hp), Same H H' → H' pw = some (.tup [.ref L1, .ref L2]) → H' L1 = some (.lst a1) → H' L2 = some (.lst a2) → DpAll K H' a1 ((t.rws.map (pre s)).map rowD) → DpAll K H' a2 ((t.kn.map (pre s)).map rowD) → Q (.ref pw) H'
def spWalk (K : PySem.W.Frag) (n : Nat) : Sp := fun vs H Q _ => ∃ (v : V) (t : Tr) (s : List Nat), vs = [v, .str (st s)] ∧ Dp K H v t.toD ∧ Fits t ∧ t.deep < n ∧ (∀ x m, (x, m) ∈ t.rws → s.length + x.length ≤ 1000) ∧ givesW K H t s Q
theorem lst_row {K : PySem.W.Frag} {H : Hp} {c L : Addr} {x : List Nat} {m : Int} (nc : H c = none) (nL : upd H c (.tup [.str (st x), .int m]) L = none) :
    Same H (upd (upd H c (.tup [.str (st x), .int m])) L (.lst [.ref c])) ∧ upd (upd H c (.tup [.str (st x), .int m])) L (.lst [.ref c]) L = some (.lst [.ref c]) ∧ DpAll K (upd (upd H c (.tup [.str (st x), .int m])) L (.lst [.ref c])) [.ref c] ([(x, m)].map rowD) :=
  ⟨(same_new nc _).trans (same_new nL _), upd_same, .cons (Dp_same (same_new nL _) (Dp_new nc (.cons (.str _) (.cons (.int _) .nil)))) .nil⟩
theorem pre_nil (R : List Row) : R.map (pre []) = R := (List.map_congr_left fun r _ => rfl).trans (List.map_id _)
theorem walk_last {K : PySem.W.Frag} {σ : L2.St} {H : Hp} {F : Bool → Hp → Prop} {y4 z : V} {pb : Addr} {x : List Nat} (h4 : σ[4]? = some (some y4)) (h5 : σ[5]? = some (some (.ref pb))) (hp : SqT K H pb [.str (st x), z]) (hy : y4 = .non ∨ ∃ y, y4 = .str (st y) ∧ y < x) (G : F false H) :
    tAnd (tTest (tOp (fun x y H Q => y = V.non ∧ Q (V.bl !decide (x = V.non)) H) (tVar 4) (tC V.non))) (tTest (tOp (fun x y H Q => ∃ i j, x = V.str i ∧ y = V.str j ∧ Q (V.bl !decide (j.cps.toList < i.cps.toList)) H) (tOp (rIxT K) (tVar 5) (tC (V.int 0))) (tVar 4))) σ H F := by
  rcases hy with rfl | ⟨y, rfl, hy⟩
  · exact ⟨_, h4, rfl, _, rfl, iteF G⟩
  · refine ⟨_, h4, rfl, _, rfl, iteT ⟨_, h5, pb, _, _, _, rfl, rfl, hp, (rfl : atI [V.str (st x), z] 0 = some (V.str (st x))), _, h4, _, _, rfl, rfl, _, rfl, ?_⟩⟩
    rw [show (!decide ((st y).cps.toList < (st x).cps.toList)) = false by
      rw [Bool.not_eq_false', decide_eq_true_iff]; exact hy]
    exact G
/-- the beginnings of a text, by threes, and their numbers -/
def bg (w : List Nat) (i : Nat) : Row := (w.take (3 * i), (i : Int))
theorem bg_up {w : List Nat} {n : Nat} (h : 3 * n ≤ w.length + 3) : Up ((List.range n).map (bg w)) := up_range fun i j hij hj => take_lt (by omega) (by omega)
theorem bg_put {w : List Nat} {n : Nat} (h : 3 * n ≤ w.length) {R S : List Row} (eR : R = (List.range n).map (bg w)) (p : putR R (w.take (3 * n)) (n : Int) S) : S = (List.range (n + 1)).map (bg w) := by
  subst eR
  refine up_ext p.1 (bg_up (by omega)) fun r => ?_
  rw [show r = (r.1, r.2) from rfl, p.2 r.1 r.2, List.range_succ, List.map_append, List.mem_append]
  simp only [List.mem_map, List.mem_range, List.map_cons, List.map_nil, List.mem_singleton]
  constructor
  · rintro (⟨h, _⟩ | ⟨e1, e2⟩)
    · exact .inl h
    · exact .inr (Prod.ext e1 e2)
  · rintro (⟨j, hj, e⟩ | e)
    · refine .inl ⟨⟨j, hj, e⟩, fun z => ?_⟩
      have e1 : w.take (3 * j) = r.1 := congrArg Prod.fst e
      have := congrArg List.length (e1.trans z)
      simp only [List.length_take] at this
      omega
    · exact .inr ⟨congrArg Prod.fst e, congrArg Prod.snd e⟩
theorem same_fr {H0 H H' : Hp} {x l : Addr} (s : Same H0 H) (nx : H0 x = none) (nl : H0 l = none) (f : Fr x l H H') : Same H0 H' := fun b o e => f b o (ne_of_none e nx) (ne_of_none e nl) (s b o e)
def spRight (K : PySem.W.Frag) (C : Addr) : Sp := fun vs H Q _ => ∃ (x dx l : Addr) (o : Option Tr) (ps : List (Option Tr)) (b : List Nat), vs = [.ref x, .str (st b)] ∧ TrAt K C H x dx l o ps ∧ GT o ∧ isNm b = true ∧ ∀ H', Same H H' → Q (.bl true) H'
end RT

/-! the past's dicts, the beginning -/
namespace RT
open PySem PySem.Spec PyProof.Rows L2
/-- all dicts but one stay -/
def DK (z : Addr) (H H' : Hp) : Prop := ∀ d kvs, d ≠ z → H d = some (.dK kvs) → H' d = some (.dK kvs)
theorem DK.of {z : Addr} {H H' : Hp} (s : Same H H') : DK z H H' := fun d _ _ e => s d _ e
theorem DK.trans {z : Addr} {H H1 H2 : Hp} (a : DK z H H1) (b : DK z H1 H2) : DK z H H2 := fun d k n e => b d k n (a d k n e)
theorem DK.fr {K : PySem.W.Frag} {C : Addr} {z x dx l : Addr} {o : Option Tr} {ps : List (Option Tr)} {H H' : Hp} (tr : TrAt K C H x dx l o ps) (f : Fr x l H H') : DK z H H' := fun d k _ e => by
  obtain ⟨v, acc, h1, h2, _⟩ := tr
  exact f d _ (fun q => by rw [q, h1] at e; cases e) (fun q => by rw [q, h2] at e; cases e) e
theorem DK.lst {z a : Addr} {xs : List V} {H : Hp} {o : HO} (h : H a = some (.lst xs)) : DK z H (upd H a o) := fun d k _ e => by
  rw [upd_ne (fun q => by rw [q, h] at e; cases e)]; exact e
theorem DK.at {z : Addr} {H : Hp} {o : HO} : DK z H (upd H z o) := fun d k n e => by rw [upd_ne n]; exact e
theorem PD.dk {z : Addr} {H H' : Hp} {d : Addr} {R : List Row} (h : PD H d R) (n : d ≠ z) (k : DK z H H') : PD H' d R := by
  obtain ⟨P, e, u, p⟩ := h
  exact ⟨P, k d _ n e, u, p⟩
/-- a list of dicts is that of trees -/
inductive Pst (H : Hp) (z : Addr) : List V → List (Option Tr) → Prop
  | nil : Pst H z [] []
  | cons {d : Addr} {p : Option Tr} {us : List V} {ps : List (Option Tr)} : PD H d (rO p) → d ≠ z → Pst H z us ps → Pst H z (.ref d :: us) (p :: ps)
theorem Pst.dk {z : Addr} {H H' : Hp} {us : List V} {ps : List (Option Tr)} (h : Pst H z us ps) (k : DK z H H') : Pst H' z us ps := by
  induction h with
  | nil => exact .nil
  | cons a b _ ih => exact .cons (a.dk b k) b ih
theorem Pst.avoid {z y : Addr} {H : Hp} {us : List V} {ps : List (Option Tr)} (h : Pst H z us ps) (n : ∀ kvs, H y ≠ some (.dK kvs)) : Pst H y us ps := by
  induction h with
  | nil => exact .nil
  | cons a b _ ih =>
    obtain ⟨P, e, u, p⟩ := a
    exact .cons ⟨P, e, u, p⟩ (fun q => n _ (by rw [← q]; exact e)) ih
theorem Pst.len {z : Addr} {H : Hp} {us : List V} {ps : List (Option Tr)} (h : Pst H z us ps) : us.length = ps.length := by
  induction h with
  | nil => rfl
  | cons _ _ _ ih => simp [ih]
theorem Pst.snoc {z : Addr} {H : Hp} {us : List V} {ps : List (Option Tr)} (h : Pst H z us ps) {d : Addr} {p : Option Tr} (a : PD H d (rO p)) (b : d ≠ z) : Pst H z (us ++ [.ref d]) (ps ++ [p]) := by
  induction h with
  | nil => exact .cons a b .nil
  | cons a' b' _ ih => exact .cons a' b' ih
theorem Pst.last {z : Addr} {H : Hp} {p : Option Tr} : ∀ {qs : List (Option Tr)} {us : List V}, Pst H z us (qs ++ [p]) → ∃ us' d, us = us' ++ [.ref d] ∧ Pst H z us' qs ∧ PD H d (rO p) ∧ d ≠ z
  | [], us, h => by
    cases h with
    | cons a b r =>
      cases r
      exact ⟨[], _, rfl, .nil, a, b⟩
  | q :: qs, us, h => by
    cases h with
    | cons a b r =>
      obtain ⟨us', d, rfl, h1, h2, h3⟩ := Pst.last r
      exact ⟨_, d, rfl, .cons a b h1, h2, h3⟩
theorem put_perm_new {R S : List Row} {x : List Nat} {n : Int} (up : Up R) (hx : lkp R x = none) (h : putR R x n S) : S.Perm (R ++ [(x, n)]) := by
  rw [lkp_none] at hx
  refine (List.perm_ext_iff_of_nodup (up_nodup h.1) (List.nodup_append.mpr ⟨up_nodup up, by simp, fun r hr s hs e => ?_⟩)).mpr fun r => ?_
  · rw [List.mem_singleton.mp hs] at e
    rw [e] at hr
    exact hx n hr
  · rw [List.mem_append, List.mem_singleton, h.2 r.1 r.2]
    constructor
    · rintro (⟨m, _⟩ | ⟨e1, e2⟩)
      · exact .inl m
      · exact .inr (Prod.ext e1 e2)
    · rintro (m | e)
      · exact .inl ⟨m, fun e => hx r.2 (by rw [← e]; exact m)⟩
      · rw [e]; exact .inr ⟨rfl, rfl⟩
theorem lkp_of_app {A B : List Row} {x : List Nat} {k : Int} (h : lkp A x = some k) : lkp (A ++ B) x = some k := by
  induction A with
  | nil => cases h
  | cons r A ih =>
    rw [lkp_cons] at h
    rw [List.cons_append, lkp_cons]
    by_cases e : r.1 = x
    · rw [if_pos e] at h ⊢; exact h
    · rw [if_neg e] at h ⊢; exact ih h
theorem lkp_nm {P : List Row} {x : List Nat} (h : x ∉ P.map (·.1)) : lkp P x = none := by
  rw [lkp_none]
  exact fun m hm => h (List.mem_map.mpr ⟨_, hm, rfl⟩)
theorem get_any {H : Hp} {d : Addr} {P : List Row} (e : Rd H d (.dK (dkv P))) (x : List Nat) : DGet H d (.str (st x)) ((lkp P x).map V.int) := by
  rw [← valV_dkv]
  exact .inl ⟨_, Sum.inr (st x), e, rfl, rfl⟩
/-! ### the beginning -/
def digs (j : Nat) : List Nat := if j < 10 then [48 + j] else [49, 38 + j]
theorem str_digs : ∀ j : Nat, j < 12 → Str.ofString (toString ((0 : Int) + (j : Int))) = st (digs j) := by decide +kernel
/-- the names of a filled one -/
def nms : Nat → List (List Nat)
  | 0 => (List.range 12).map digs
  | i + 1 => nms i ++ (nms i).map fun x => (97 + i) :: x
theorem nms_len : ∀ i, i ≤ 3 → (nms i).length = 12 * 2 ^ i := by decide +kernel
theorem nms_ok : ∀ i, i ≤ 3 → ∀ x ∈ nms i, x.length ≤ 5 ∧ x.head? ≠ some (97 + i) ∧ x.head? ≠ some 122 := by decide +kernel
theorem digs_ok : ∀ j, j < 12 → isNm (digs j) = true := by decide +kernel
theorem digs_inj : ∀ i, i < 12 → ∀ j, j < 12 → digs i = digs j → i = j := by decide +kernel
/-- the begun texts: names, none twice -/
def Tex (ts : List (List Nat)) : Prop := ts.Nodup ∧ ts.length ≤ 12 ∧ ∀ x ∈ ts, isNm x = true
theorem nodup_len {ts : List (List Nat)} (h : (ts.map (·.length)).Nodup) : ts.Nodup := List.Pairwise.of_map (·.length) (fun a b n e => n (by rw [e])) h
theorem tex_nil : Tex [] := ⟨List.nodup_nil, by simp, fun x hx => by cases hx⟩
theorem tex_digs : Tex (nms 0) := by
  refine ⟨?_, by decide +kernel, fun x hx => ?_⟩
  · show ((List.range 12).map digs).Nodup
    decide +kernel
  · obtain ⟨j, hj, rfl⟩ := List.mem_map.mp hx
    exact digs_ok j (List.mem_range.mp hj)
theorem tex_cuts {w : List Nat} (h : w.length = 40) (ht : ∀ x ∈ w, x ∈ signTab) : Tex ((List.range 12).map fun k => w.take (3 * k)) := by
  refine ⟨nodup_len ?_, by simp, fun x hx => ?_⟩
  · rw [List.map_map]
    have e : (List.range 12).map ((fun x : List Nat => x.length) ∘ fun k => w.take (3 * k)) = (List.range 12).map fun k => 3 * k := by
      refine List.map_congr_left fun k hk => ?_
      have := List.mem_range.mp hk
      show (w.take (3 * k)).length = 3 * k
      rw [List.length_take]; omega
    rw [e]
    decide
  · obtain ⟨k, hk, rfl⟩ := List.mem_map.mp hx
    have := List.mem_range.mp hk
    exact isNm_of (by rw [List.length_take]; omega) fun c hc => ht c (List.mem_of_mem_take hc)
theorem tex_three {w : List Nat} (h : w.length = 40) (ht : ∀ x ∈ w, x ∈ signTab) : Tex [[112], 112 :: w.take 39, [113, 113]] := by
  have l : (w.take 39).length = 39 := by rw [List.length_take]; omega
  refine ⟨nodup_len ?_, by simp, fun x hx => ?_⟩
  · simp [l]
  · simp only [List.mem_cons, List.not_mem_nil, or_false] at hx
    rcases hx with rfl | rfl | rfl
    · decide +kernel
    · refine isNm_of (by simp [l]) fun c hc => ?_
      rcases List.mem_cons.mp hc with rfl | hc
      · decide +kernel
      · exact ht c (List.mem_of_mem_take hc)
    · decide +kernel
/-- as it is in the beginning: the plain dict at pd, its rows P -/
def Bgn (K : PySem.W.Frag) (C : Addr) (x dx l pa pd : Addr) (H0 H : Hp) (o : Option Tr) (ps : List (Option Tr)) (us : List V) (P : List Row) : Prop :=
  Kp [x, l, pa, pd] H0 H ∧ TrAt K C H x dx l o ps ∧ GT o ∧ (∀ p ∈ ps, GT p) ∧ H pa = some (.lst us) ∧ Pst H pd us ps ∧ H pd = some (.dK (dkv P)) ∧ (rO o).Perm P
def spBegun (K : PySem.W.Frag) (C : Addr) : Sp := fun vs H Q _ => ∃ (x dx l pa : Addr) (way more : Int) (wd : List Nat), vs = [.ref x, .ref pa, .int way, .str (st wd), .int more] ∧ TrAt K C H x dx l none [] ∧ H pa = some (.lst []) ∧ l ≠ pa ∧ 0 ≤ more ∧ more ≤ 3 ∧ wd.length = 40 ∧ (∀ c ∈ wd, c ∈ signTab) ∧
  ∀ (o : Option Tr) (ps : List (Option Tr)) (us : List V) (pd : Addr) (H' : Hp), Kp [x, l, pa] H H' → TrAt K C H' x dx l o ps → GT o → (∀ p ∈ ps, GT p) → ps.length ≤ 20 → H' pa = some (.lst us) → Pst H' x us ps → PD H' pd (rO o) → Q (.ref pd) H'
end RT
namespace RT
open PySem PySem.Spec PyProof.Rows L2
theorem nt_dk {H : Hp} {m : Addr} {kvs : List (Key × V)} (h : H m = some (.dK kvs)) : NT H m := ⟨fun ys e => (by rw [h] at e; cases e), fun o u e => (by rw [h] at e; cases e)⟩
theorem Kp.trans {S : List Addr} {H H1 H2 : Hp} (a : Kp S H H1) (b : Kp S H1 H2) : Kp S H H2 := fun c o n e => b c o n (a c o n e)
theorem Kp.mono {S T : List Addr} {H H1 : Hp} (a : Kp S H H1) (s : ∀ m ∈ S, m ∈ T) : Kp T H H1 := fun c o n e => a c o (fun z => n (s c z)) e
/-- the same, the rows not yet those of the tree -/
def Bg0 (K : PySem.W.Frag) (C : Addr) (x dx l pa pd : Addr) (H0 H : Hp) (o : Option Tr) (ps : List (Option Tr)) (us : List V) (P : List Row) : Prop :=
  Kp [x, l, pa, pd] H0 H ∧ TrAt K C H x dx l o ps ∧ GT o ∧ (∀ p ∈ ps, GT p) ∧ H pa = some (.lst us) ∧ Pst H pd us ps ∧ H pd = some (.dK (dkv P))
section
variable {K : PySem.W.Frag} {C : Addr} {x dx l pa pd : Addr} {H0 H H' : Hp} {o : Option Tr} {ps : List (Option Tr)} {us : List V} {P P' : List Row}
theorem Bg0.same (h : Bg0 K C x dx l pa pd H0 H o ps us P) (s : Same H H') : Bg0 K C x dx l pa pd H0 H' o ps us P := by
  obtain ⟨k, tr, g, gp, hp, pst, hd⟩ := h
  exact ⟨k.trans (Kp.of s), tr.same s, g, gp, s _ _ hp, pst.dk (DK.of s), s _ _ hd⟩
theorem Bg0.put (h : Bg0 K C x dx l pa pd H0 H o ps us P) : Bg0 K C x dx l pa pd H0 (upd H pd (.dK (dkv P'))) o ps us P' := by
  obtain ⟨k, tr, g, gp, hp, pst, hd⟩ := h
  obtain ⟨v, acc, h1, h2, _⟩ := id tr
  have k1 : Kp [pd] H (upd H pd (.dK (dkv P'))) := Kp.upd
  have n1 : x ≠ pd := fun z => by rw [z, hd] at h1; cases h1
  have n2 : l ≠ pd := fun z => by rw [z, hd] at h2; cases h2
  have n3 : pa ≠ pd := fun z => by rw [z, hd] at hp; cases hp
  exact ⟨k.trans (k1.mono (by simp)), tr.keep k1 (fun m hm => by rw [List.mem_singleton.mp hm]; exact nt_dk hd) (by simpa using n1) (by simpa using n2), g, gp, by rw [upd_ne n3]; exact hp, pst.dk DK.at, upd_same⟩
theorem Bg0.step (h : Bg0 K C x dx l pa pd H0 H o ps us P) (pm : (rO o).Perm P) (nl : l ≠ pa) {q : Addr} (nq : H q = none) :
    (upd H q (.dK (dkv P))) pa = some (.lst us) ∧ TrAt K C (upd (upd H q (.dK (dkv P))) pa (.lst (us ++ [.ref q]))) x dx l o ps ∧ (upd (upd H q (.dK (dkv P))) pa (.lst (us ++ [.ref q]))) pd = some (.dK (dkv P)) ∧
      ∀ (o' : Option Tr) (H3 : Hp), Fr x l (upd (upd H q (.dK (dkv P))) pa (.lst (us ++ [.ref q]))) H3 → TrAt K C H3 x dx l o' (ps ++ [o]) → GT o' → Bg0 K C x dx l pa pd H0 H3 o' (ps ++ [o]) (us ++ [.ref q]) P := by
  have up := h.2.2.1.2.1.1
  have eq : upd H q (.dK (dkv P)) q = some (.dK (dkv P)) := upd_same
  have nqd : q ≠ pd := (ne_of_none h.2.2.2.2.2.2 nq).symm
  obtain ⟨k, tr, g, gp, hp, pst, hd⟩ := h.same (same_new nq (.dK (dkv P)))
  generalize upd H q (.dK (dkv P)) = H1 at k tr hp pst hd eq
  obtain ⟨v, acc, h1, h2, _⟩ := id tr
  have k1 : Kp [pa] H1 (upd H1 pa (.lst (us ++ [.ref q]))) := Kp.upd
  have n1 : x ≠ pa := fun z => by rw [z, hp] at h1; cases h1
  have n3 : pa ≠ pd := fun z => by rw [z, hd] at hp; cases hp
  have tr2 := tr.keep k1 (fun m hm => by rw [List.mem_singleton.mp hm]; exact nt_lst hp) (by simpa using n1) (by simpa using nl)
  have dk : DK pd H1 (upd H1 pa (.lst (us ++ [.ref q]))) := DK.lst hp
  have nqa : q ≠ pa := fun z => by rw [z, hp] at eq; cases eq
  have hd2 : (upd H1 pa (.lst (us ++ [.ref q]))) pd = some (.dK (dkv P)) := by rw [upd_ne n3.symm]; exact hd
  have hp2 : (upd H1 pa (.lst (us ++ [.ref q]))) pa = some (.lst (us ++ [.ref q])) := upd_same
  have pst2 := (pst.dk dk).snoc (p := o) (d := q) ⟨P, by rw [upd_ne nqa]; exact eq, up, pm⟩ nqd
  refine ⟨hp, tr2, hd2, fun o' H3 f tr3 g3 => ?_⟩
  obtain ⟨v', acc', h1', h2', _⟩ := id tr2
  have dk3 : DK pd _ H3 := DK.fr tr2 f
  refine ⟨(k.trans (k1.mono (by simp))).trans ((Kp.fr f).mono (by intro m hm; simp only [List.mem_cons, List.not_mem_nil, or_false] at hm ⊢; rcases hm with h | h <;> simp [h])), tr3, g3, fun p hp' => ?_, f _ _ n1.symm nl.symm hp2, pst2.dk dk3, f _ _ (fun z => by rw [z, h1'] at hd2; cases hd2) (fun z => by rw [z, h2'] at hd2; cases hd2) hd2⟩
  rcases List.mem_append.mp hp' with h | h
  · exact gp p h
  · rw [List.mem_singleton.mp h]; exact g
end
end RT
namespace RT
open PySem PySem.Spec PyProof.Rows L2
theorem gone_nil (R : List Row) : goneR [] R = R := by
  unfold goneR
  have e : R.filter (tk []) = R := List.filter_eq_self.mpr fun r _ => by simp [tk]
  rw [e]
  conv => rhs; rw [← List.map_id R]
  exact List.map_congr_left fun r _ => rfl
theorem freshNil (c : List Nat) (R : List Row) : freshR [] c R = R.map (pre c) := by
  unfold freshR; rw [gone_nil]
theorem pre_names {P : List Row} {j : Nat} (h : P.map (·.1) = nms j) : (P ++ P.map (pre [97 + j])).map (·.1) = nms (j + 1) := by
  rw [List.map_append, h]
  show _ = nms j ++ (nms j).map fun x => (97 + j) :: x
  rw [← h, List.map_map, List.map_map]; rfl
theorem pre_new {P : List Row} {j i : Nat} {r : Row} (hj : j ≤ 2) (n : Names P) (h : P.map (·.1) = nms j) (hr : P[i]? = some r) : lkp (P ++ (P.take i).map (pre [97 + j])) ([97 + j] ++ r.1) = none := by
  refine lkp_app.mpr ⟨lkp_nm ?_, ?_⟩
  · rw [h]
    intro z
    exact (nms_ok j (by omega) _ z).2.1 rfl
  · rw [lkp_none]
    intro m hm
    obtain ⟨r', h', e⟩ := List.mem_map.mp hm
    injection e with e1 e2
    have e3 : r'.1 = r.1 := List.append_cancel_left e1
    have := lkp_take n hr
    rw [lkp_none] at this
    exact this r'.2 (by rw [← e3]; exact h')
theorem graft_ok {R P : List Row} {j : Nat} (hj : j ≤ 2) (up : Up R) (pm : R.Perm P) (h : P.map (·.1) = nms j) :
    goneR [] R ≠ [] ∧ (∀ r ∈ freshR [] [97 + j] R, r.1.length ≤ 40) ∧ ¬ Share R (freshR [] [97 + j] R) ∧ R.length + (freshR [] [97 + j] R).length ≤ 100 ∧ ∀ T, Both R (freshR [] [97 + j] R) T → T.Perm (P ++ P.map (pre [97 + j])) := by
  have lP : P.length = 12 * 2 ^ j := by
    have := congrArg List.length h
    rw [List.length_map, nms_len j (by omega)] at this
    exact this
  have pw : 12 * 2 ^ j ≤ 48 ∧ 12 ≤ 12 * 2 ^ j := by
    rcases (show j = 0 ∨ j = 1 ∨ j = 2 by omega) with rfl | rfl | rfl <;> decide
  have lR : R.length = P.length := pm.length_eq
  have nm : ∀ r ∈ R, r.1 ∈ nms j := fun r hr => by rw [← h]; exact List.mem_map.mpr ⟨r, pm.mem_iff.mp hr, rfl⟩
  rw [gone_nil, freshNil]
  have ns : ¬ Share R (R.map (pre [97 + j])) := by
    rintro ⟨x, m, k, h1, h2⟩
    obtain ⟨r, hr, e⟩ := List.mem_map.mp h2
    injection e with e1 e2
    have := (nms_ok j (by omega) _ (nm _ h1)).2.1
    rw [← e1] at this
    exact this rfl
  refine ⟨fun z => ?_, fun r hr => ?_, ns, by rw [List.length_map]; omega, fun T hT => ?_⟩
  · rw [z] at lR; simp at lR; omega
  · obtain ⟨r0, h0, rfl⟩ := List.mem_map.mp hr
    have := (nms_ok j (by omega) _ (nm r0 h0)).1
    show ([97 + j] ++ r0.1).length ≤ 40
    rw [List.length_append]; simp; omega
  · exact (both_perm up (up_map up) ns hT).trans (pm.append (pm.map _))
theorem nm_a : ∀ j, j ≤ 2 → isNm [97 + j] = true := by decide +kernel
theorem nm_z : ∀ j, j ≤ 2 → isNm (122 :: digs j) = true := by decide +kernel
theorem z_new {P : List Row} {n j : Nat} (hj : j ≤ 2) (h : P.map (·.1) = nms 3 ++ (List.range j).map fun i => 122 :: digs i) : lkp P (122 :: digs j) = none := by
  refine lkp_nm ?_
  rw [h]
  intro z
  rcases List.mem_append.mp z with z | z
  · exact (nms_ok 3 (by omega) _ z).2.2 rfl
  · obtain ⟨i, hi, e⟩ := List.mem_map.mp z
    have := List.mem_range.mp hi
    injection e with _ e
    have := digs_inj i (by omega) j (by omega) e
    omega
section
variable {K : PySem.W.Frag} {C : Addr} {x dx l pa pd : Addr} {H0 H H' : Hp} {o : Option Tr} {ps : List (Option Tr)} {us : List V} {P P' : List Row}
theorem Bg0.rebase (h : Bg0 K C x dx l pa pd H0 H o ps us P) : Bg0 K C x dx l pa pd H H o ps us P := ⟨fun _ _ _ e => e, h.2⟩
theorem Bg0.over {H00 : Hp} (h : Bg0 K C x dx l pa pd H0 H o ps us P) (k : Kp [x, l, pa, pd] H00 H0) : Bg0 K C x dx l pa pd H00 H o ps us P := ⟨k.trans h.1, h.2⟩
end
theorem take_new {ts : List (List Nat)} (n : ts.Nodup) {i : Nat} {t : List Nat} (h : ts[i]? = some t) : t ∉ ts.take i := by
  intro hm
  obtain ⟨hi, e⟩ := List.getElem?_eq_some_iff.mp h
  have e2 : ts = ts.take i ++ t :: ts.drop (i + 1) := by
    rw [← e, ← List.drop_eq_getElem_cons hi, List.take_append_drop]
  rw [e2, List.nodup_append] at n
  exact n.2.2 t hm t (List.mem_cons_self ..) rfl
end RT
namespace RT
open PySem PySem.Spec PyProof.Rows L2
theorem rowsPlain {R : List Row} (h : R.length ≤ 10000) : plainB (.list (R.map rowD)) = true ∧ dep (.list (R.map rowD)) ≤ 3 := by
  have a : ∀ R : List Row, plainsB (R.map rowD) = true ∧ deps (R.map rowD) ≤ 2 := fun R => by
    induction R with
    | nil => exact ⟨rfl, by simp [deps]⟩
    | cons r R ih => 
      obtain ⟨h1, h2⟩ := ih
      refine ⟨?_, ?_⟩
      · show (plainB (rowD r) && plainsB (R.map rowD)) = true
        rw [h1]; rfl
      · show max (dep (rowD r)) (deps (R.map rowD)) ≤ 2
        have : dep (rowD r) = 2 := rfl
        omega
  obtain ⟨h1, h2⟩ := a R
  refine ⟨?_, ?_⟩
  · show (decide ((R.map rowD).length ≤ 10000) && plainsB (R.map rowD)) = true
    rw [h1, List.length_map, decide_eq_true h]; rfl
  · show deps (R.map rowD) + 1 ≤ 3
    omega
theorem two_plain {W : Str} {d : PyData} (h : plainB d = true) (hd : dep d ≤ 3) : plainB (.tuple [.str W, d]) = true ∧ dep (.tuple [.str W, d]) ≤ 10 := by
  refine ⟨?_, ?_⟩
  · show (decide (2 ≤ 10000) && (true && (plainB d && true))) = true
    rw [h]; rfl
  · show max 1 (max (dep d) 0) + 1 ≤ 10
    omega
theorem Dp_pair {K : PySem.W.Frag} {H : Hp} {t : Addr} {W : Str} {v : V} {d : PyData} (h : H t = some (.tup [.str W, v])) (hv : Dp K H v d) : Dp K H (.ref t) (.tuple [.str W, d]) := .tup (SqT.of h) (.cons (.str W) (.cons hv .nil))
theorem rowsNolist (R : List Row) : nolists (R.map rowD) = true := by
  induction R with
  | nil => rfl
  | cons r R ih => 
    show (nolist (rowD r) && nolists (R.map rowD)) = true
    rw [ih]; rfl
/-- a pair of lists that tell the same rows -/
def Kep (K : PySem.W.Frag) (H : Hp) (M : List Addr) (k : Addr) : Prop := ∃ (a b : Addr) (accA accB : List V) (R : List Row), H k = some (.tup [.ref a, .ref b]) ∧ H a = some (.lst accA) ∧ H b = some (.lst accB) ∧ DpAll K H accA (R.map rowD) ∧ DpAll K H accB (R.map rowD) ∧ a ∉ M ∧ b ∉ M ∧ R.length ≤ 100
theorem Kep.kp {K : PySem.W.Frag} {H H' : Hp} {M S : List Addr} {k : Addr} (h : Kep K H M k) (c : Kp S H H') (n : ∀ m ∈ S, NT H m) (s : ∀ m ∈ S, m ∈ M ∨ ∀ xs, H m ≠ some (.lst xs)) : Kep K H' M k := by
  obtain ⟨a, b, accA, accB, R, h1, h2, h3, h4, h5, h6, h7, h8⟩ := h
  have out : ∀ {c' : Addr} {xs : List V}, H c' = some (.lst xs) → c' ∉ M → c' ∉ S := fun e nm z => by
    rcases s _ z with y | y
    · exact nm y
    · exact y _ e
  exact ⟨a, b, accA, accB, R, c k _ (fun z => (n k z).1 _ h1) h1, c a _ (out h2 h6) h2, c b _ (out h3 h7) h3, DpAll_kt (c.kt n) (rowsNolist R) h4, DpAll_kt (c.kt n) (rowsNolist R) h5, h6, h7, h8⟩
/-- the first deeds -/
def FsOk (H : Hp) (fs : List V) : Prop := ∀ f ∈ fs, ∃ (t : Addr) (way : Int) (w u : V), f = .ref t ∧ H t = some (.tup [.int way, w, u]) ∧ 0 ≤ way ∧ way ≤ 4 ∧ Tx w ∧ Tx u
theorem FsOk.same {H H' : Hp} {fs : List V} (h : FsOk H fs) (s : Same H H') : FsOk H' fs := fun f hf => by
  obtain ⟨t, way, w, u, e, ht, r⟩ := h f hf
  exact ⟨t, way, w, u, e, s _ _ ht, r⟩
theorem FsOk.nil {H : Hp} : FsOk H [] := fun f hf => by cases hf
theorem FsOk.cons {H : Hp} {fs : List V} {t : Addr} {way : Int} {w u : V} (h : H t = some (.tup [.int way, w, u])) (h1 : 0 ≤ way) (h2 : way ≤ 4) (h3 : Tx w) (h4 : Tx u) (r : FsOk H fs) : FsOk H (.ref t :: fs) := fun f hf => by
  rcases List.mem_cons.mp hf with rfl | hf
  · exact ⟨t, way, w, u, rfl, h, h1, h2, h3, h4⟩
  · exact r f hf
theorem FsOk.app {H : Hp} {a b : List V} (h : FsOk H a) (k : FsOk H b) : FsOk H (a ++ b) := fun f hf => (List.mem_append.mp hf).elim (h f) (k f)
theorem tx_st {x : List Nat} (h : x.length ≤ 41) (t : ∀ c ∈ x, c ∈ signTab) : Tx (.str (st x)) := .inl ⟨x, rfl, h, .inl t⟩
def spFirst : Sp := fun vs H Q _ => ∃ (b : Int) (wd : List Nat), vs = [.int b, .str (st wd)] ∧ wd.length = 40 ∧ (∀ c ∈ wd, c ∈ signTab) ∧ ∀ (L : Addr) (fs : List V) (H' : Hp), H L = none → Same H H' → H' L = some (.lst fs) → fs.length ≤ 6 → FsOk H' fs → Q (.ref L) H'
def spTells (K : PySem.W.Frag) (C : Addr) : Sp := fun vs H Q _ => ∃ (x dx l d kp : Addr) (w : V) (t : Option (List Nat)) (o : Option Tr) (ps : List (Option Tr)) (ks : List V), vs = [.ref x, w, .ref d, .ref kp] ∧ TrAt K C H x dx l o ps ∧ GT o ∧ Tx w ∧ Thg K H w t ∧ PD H d (rO o) ∧ H kp = some (.lst ks) ∧ l ≠ kp ∧ ks.length ≤ 1000 ∧
  (∀ H', Same H H' → Q (.bl true) H') ∧ ∀ (k : Addr) (H' : Hp), Kp [kp] H H' → H' kp = some (.lst (ks ++ [.ref k])) → (∀ M : List Addr, (∀ m ∈ M, H m ≠ none) → Kep K H' M k) → Q (.bl true) H'
theorem fs_add {H : Hp} {fs : List V} {t : Addr} {way : Int} {w u : V} (n : H t = none) (f : FsOk H fs) (h1 : 0 ≤ way) (h2 : way ≤ 4) (h3 : Tx w) (h4 : Tx u) : FsOk (upd H t (.tup [.int way, w, u])) (.ref t :: fs) := (f.same (same_new n _)) |> FsOk.cons upd_same h1 h2 h3 h4
theorem FsOk.sub {H : Hp} {a b : List V} (h : FsOk H a) (s : ∀ f ∈ b, f ∈ a) : FsOk H b := fun f hf => h f (s f hf)
theorem tl_ok {x : List Nat} (h1 : x.length ≤ 41) (h2 : (x.all fun c => decide (c ∈ signTab)) = true) : Tx (.str (st x)) := tx_st h1 fun c hc => of_decide_eq_true (List.all_eq_true.mp h2 c hc)
theorem fsa {H0 H : Hp} {fs : List V} {t : Addr} {way : Int} {w u : V} (n : H t = none) (f : Same H0 H ∧ FsOk H fs) (h1 : 0 ≤ way) (h2 : way ≤ 4) (h3 : Tx w) (h4 : Tx u) : Same H0 (upd H t (.tup [.int way, w, u])) ∧ FsOk (upd H t (.tup [.int way, w, u])) (.ref t :: fs) := ⟨f.1.trans (same_new n _), fs_add n f.2 h1 h2 h3 h4⟩
theorem fsl {H0 H : Hp} {fs gs : List V} {L : Addr} (n : H L = none) (f : Same H0 H ∧ FsOk H fs) : Same H0 (upd H L (.lst gs)) ∧ FsOk (upd H L (.lst gs)) fs ∧ upd H L (.lst gs) L = some (.lst gs) := ⟨f.1.trans (same_new n _), f.2.same (same_new n _), upd_same⟩
end RT

/-! the law's own state -/
namespace RT
open PySem PySem.Spec PyProof.Rows L2
/-- tuples, dicts stay, and all lists but some -/
def Chg (M : List Addr) (H H' : Hp) : Prop := KT H H' ∧ (∀ d kvs, H d = some (.dK kvs) → H' d = some (.dK kvs)) ∧ ∀ a ys, a ∉ M → H a = some (.lst ys) → H' a = some (.lst ys)
theorem Chg.of {M : List Addr} {H H' : Hp} (s : Same H H') : Chg M H H' := ⟨KT.of s, fun d k e => s d _ e, fun a y _ e => s a _ e⟩
theorem Chg.trans {M : List Addr} {H H1 H2 : Hp} (a : Chg M H H1) (b : Chg M H1 H2) : Chg M H H2 := ⟨a.1.trans b.1, fun d k e => b.2.1 d k (a.2.1 d k e), fun c y n e => b.2.2 c y n (a.2.2 c y n e)⟩
theorem Chg.kp {M S : List Addr} {H H' : Hp} (k : Kp S H H') (n : ∀ m ∈ S, (∃ C dx f, H m = some (.ins C dx f)) ∨ (m ∈ M ∧ ∃ ys, H m = some (.lst ys))) : Chg M H H' := by
  refine ⟨k.kt fun m hm => ?_, fun d kvs e => k d _ (fun z => ?_) e, fun a ys na e => k a _ (fun z => ?_) e⟩
  · rcases n m hm with ⟨C, dx, f, h⟩ | ⟨_, ys, h⟩
    · exact nt_ins h
    · exact nt_lst h
  · rcases n d z with ⟨C, dx, f, h⟩ | ⟨_, ys, h⟩
    · rw [h] at e; cases e
    · rw [h] at e; cases e
  · rcases n a z with ⟨C, dx, f, h⟩ | ⟨m, _⟩
    · rw [h] at e; cases e
    · exact na m
theorem Chg.fr {K : PySem.W.Frag} {C : Addr} {M : List Addr} {H H' : Hp} {x dx l : Addr} {o : Option Tr} {ps : List (Option Tr)} (tr : TrAt K C H x dx l o ps) (hl : l ∈ M) (f : Fr x l H H') : Chg M H H' := by
  obtain ⟨v, acc, h1, h2, _⟩ := tr
  refine Chg.kp (Kp.fr f) fun m hm => ?_
  simp only [List.mem_cons, List.not_mem_nil, or_false] at hm
  rcases hm with rfl | rfl
  · exact .inl ⟨_, _, _, h1⟩
  · exact .inr ⟨hl, _, h2⟩
theorem Chg.upd {M : List Addr} {H : Hp} {m : Addr} {ys : List V} {o : HO} (hm : m ∈ M) (h : H m = some (.lst ys)) : Chg M H (upd H m o) := Chg.kp Kp.upd fun m' h' => by rw [List.mem_singleton.mp h']; exact .inr ⟨hm, _, h⟩
theorem PD.chg {M : List Addr} {H H' : Hp} {d : Addr} {R : List Row} (h : PD H d R) (c : Chg M H H') : PD H' d R := by
  obtain ⟨P, e, u, p⟩ := h
  exact ⟨P, c.2.1 _ _ e, u, p⟩
theorem Pst.chg {M : List Addr} {H H' : Hp} {z : Addr} {us : List V} {ps : List (Option Tr)} (h : Pst H z us ps) (c : Chg M H H') : Pst H' z us ps := h.dk fun d k _ e => c.2.1 d k e
theorem FsOk.chg {M : List Addr} {H H' : Hp} {fs : List V} (h : FsOk H fs) (c : Chg M H H') : FsOk H' fs := fun f hf => by
  obtain ⟨t, way, w, u, e, ht, r⟩ := h f hf
  exact ⟨t, way, w, u, e, c.1.1 _ _ ht, r⟩
theorem Kep.chg {K : PySem.W.Frag} {M : List Addr} {H H' : Hp} {k : Addr} (h : Kep K H M k) (c : Chg M H H') : Kep K H' M k := by
  obtain ⟨a, b, accA, accB, R, h1, h2, h3, h4, h5, h6, h7, h8⟩ := h
  exact ⟨a, b, accA, accB, R, c.1.1 _ _ h1, c.2.2 _ _ h6 h2, c.2.2 _ _ h7 h3, DpAll_kt c.1 (rowsNolist R) h4, DpAll_kt c.1 (rowsNolist R) h5, h6, h7, h8⟩
def KepAll (K : PySem.W.Frag) (H : Hp) (M : List Addr) (ks : List V) : Prop := ∀ k ∈ ks, ∃ a, k = .ref a ∧ Kep K H M a
theorem KepAll.chg {K : PySem.W.Frag} {M : List Addr} {H H' : Hp} {ks : List V} (h : KepAll K H M ks) (c : Chg M H H') : KepAll K H' M ks := fun k hk => by
  obtain ⟨a, e, q⟩ := h k hk
  exact ⟨a, e, q.chg c⟩
/-- what is the same at each turn, but the past -/
structure Sta (K : PySem.W.Frag) (C : Addr) (x dx l pa kp fA pS : Addr) (fs xs : List V) (H : Hp) (o : Option Tr) (ps : List (Option Tr)) (us ks : List V) : Prop where
  tr : TrAt K C H x dx l o ps
  g : GT o
  gp : ∀ p ∈ ps, GT p
  hp : H pa = some (.lst us)
  hk : H kp = some (.lst ks)
  kep : KepAll K H [l, pa, kp] ks
  hf : H fA = some (.lst fs)
  fok : FsOk H fs
  hs : H pS = some (.lst xs)
  n1 : l ≠ pa
  n2 : l ≠ kp
  n3 : pa ≠ kp
  nf : fA ∉ [l, pa, kp]
  ns : pS ∉ [l, pa, kp]
section
variable {K : PySem.W.Frag} {C x dx l pa kp fA pS : Addr} {fs xs : List V} {H H' : Hp} {o o' : Option Tr} {ps ps' : List (Option Tr)} {us ks us' : List V}
theorem Sta.xi (h : Sta K C x dx l pa kp fA pS fs xs H o ps us ks) : ∃ f, H x = some (.ins C dx f) := by
  obtain ⟨v, acc, h1, _⟩ := h.tr
  exact ⟨_, h1⟩
theorem Sta.xpa (h : Sta K C x dx l pa kp fA pS fs xs H o ps us ks) : x ≠ pa ∧ x ≠ kp := by
  obtain ⟨f, h1⟩ := h.xi
  exact ⟨fun z => (by rw [z, h.hp] at h1; cases h1), fun z => (by rw [z, h.hk] at h1; cases h1)⟩
theorem Sta.same (h : Sta K C x dx l pa kp fA pS fs xs H o ps us ks) (s : Same H H') : Sta K C x dx l pa kp fA pS fs xs H' o ps us ks :=
  { h with tr := h.tr.same s, hp := s _ _ h.hp, hk := s _ _ h.hk, kep := h.kep.chg (Chg.of s), hf := s _ _ h.hf, fok := h.fok.same s, hs := s _ _ h.hs }
/-- a deed -/
theorem Sta.deed (h : Sta K C x dx l pa kp fA pS fs xs H o ps us ks) (f : Fr x l H H') (tr' : TrAt K C H' x dx l o' ps') (g' : GT o') (gp' : ∀ p ∈ ps', GT p) : Sta K C x dx l pa kp fA pS fs xs H' o' ps' us ks := by
  have c : Chg [l, pa, kp] H H' := Chg.fr h.tr (by simp) f
  exact { h with tr := tr', g := g', gp := gp', hp := f _ _ h.xpa.1.symm h.n1.symm h.hp, hk := f _ _ h.xpa.2.symm h.n2.symm h.hk, kep := h.kep.chg c, hf := c.2.2 _ _ h.nf h.hf, fok := h.fok.chg c, hs := c.2.2 _ _ h.ns h.hs }
/-- another past -/
theorem Sta.past (h : Sta K C x dx l pa kp fA pS fs xs H o ps us ks) : Sta K C x dx l pa kp fA pS fs xs (upd H pa (.lst us')) o ps us' ks ∧ Chg [l, pa, kp] H (upd H pa (.lst us')) := by
  have c : Chg [l, pa, kp] H (upd H pa (.lst us')) := Chg.upd (by simp) h.hp
  have k : Kp [pa] H (upd H pa (.lst us')) := Kp.upd
  exact ⟨{ h with tr := h.tr.keep k (fun m hm => by rw [List.mem_singleton.mp hm]; exact nt_lst h.hp) (by simpa using h.xpa.1) (by simpa using h.n1), hp := upd_same, hk := by rw [upd_ne h.n3.symm]; exact h.hk, kep := h.kep.chg c, hf := c.2.2 _ _ h.nf h.hf, fok := h.fok.chg c, hs := c.2.2 _ _ h.ns h.hs }, c⟩
/-- told lists kept -/
theorem Sta.told (h : Sta K C x dx l pa kp fA pS fs xs H o ps us ks) {k : Addr} (kk : Kp [kp] H H') (hk' : H' kp = some (.lst (ks ++ [.ref k]))) (ke : ∀ M : List Addr, (∀ m ∈ M, H m ≠ none) → Kep K H' M k) : Sta K C x dx l pa kp fA pS fs xs H' o ps us (ks ++ [.ref k]) ∧ Chg [l, pa, kp] H H' := by
  have c : Chg [l, pa, kp] H H' := Chg.kp kk fun m hm => by rw [List.mem_singleton.mp hm]; exact .inr ⟨by simp, _, h.hk⟩
  obtain ⟨v, acc, h1, h2, _⟩ := id h.tr
  refine ⟨{ h with tr := h.tr.keep kk (fun m hm => by rw [List.mem_singleton.mp hm]; exact nt_lst h.hk) (by simpa using h.xpa.2) (by simpa using h.n2), hp := kk _ _ (by simpa using h.n3) h.hp, hk := hk', kep := fun z hz => ?_, hf := c.2.2 _ _ h.nf h.hf, fok := h.fok.chg c, hs := c.2.2 _ _ h.ns h.hs }, c⟩
  rcases List.mem_append.mp hz with hz | hz
  · exact h.kep.chg c z hz
  · refine ⟨k, List.mem_singleton.mp hz, ke _ fun m hm => ?_⟩
    simp only [List.mem_cons, List.not_mem_nil, or_false] at hm
    rcases hm with rfl | rfl | rfl
    · rw [h2]; intro z; cases z
    · rw [h.hp]; intro z; cases z
    · rw [h.hk]; intro z; cases z
end
/-- what is due, the past already so -/
def Wait (H : Hp) (x : Addr) (way n : Int) (t s : Option (List Nat)) (o : Option Tr) (ps : List (Option Tr)) (us2 : List V) (d' : Addr) (W : Str) (v : V) : Prop :=
  (0 ≤ way ∧ way ≤ 4 ∧ ∃ R', DueOf way t s n (rO o) W v R' ∧ PD H d' R' ∧ ((W = toldW ∧ Pst H x us2 (ps ++ [o])) ∨ (W ≠ toldW ∧ Pst H x us2 ps))) ∨
  (way = 5 ∧ ps = [] ∧ W = exWord 5 ∧ v = .bl true ∧ PD H d' (rO o) ∧ Pst H x us2 ps) ∨
  (way = 5 ∧ ∃ qs p, ps = qs ++ [p] ∧ W = toldW ∧ v = .non ∧ PD H d' (rO p) ∧ Pst H x us2 qs)
theorem tried_all {K : PySem.W.Frag} {C c0 c1 c2 c3 c4 c5 c6 : Addr} {H : Hp} {x dx l : Addr} {o : Option Tr} {ps : List (Option Tr)} {way n : Int} {w u : V} {t s : Option (List Nat)} {W : Str} {v : V} {us2 : List V} {d' : Addr} {Q : VK} {E : XK}
    (tr : TrAt K C H x dx l o ps) (g : GT o) (gp : ∀ p ∈ ps, GT p) (pl : ps.length ≤ 2000) (tw : Thg K H w t) (tu : Thg K H u s) (hn : n.natAbs < 10 ^ 60) (wt : Wait H x way n t s o ps us2 d' W v)
    (q : ∀ (o' : Option Tr) (ps' : List (Option Tr)) (H' : Hp) (tt : Addr), Fr x l H H' → TrAt K C H' x dx l o' ps' → GT o' → (∀ p ∈ ps', GT p) → ps'.length ≤ ps.length + 1 → H' tt = some (.tup [.str W, v]) → PD H d' (rO o') → Pst H x us2 ps' → (∃ dv, (∀ H2, Dp K H2 v dv) ∧ plainB dv = true ∧ dep dv ≤ 3) → Q (.ref tt) H') :
    spTried K C c0 c1 c2 c3 c4 c5 c6 [.ref x, .int way, w, u, .int n] H Q E := by
  rcases wt with ⟨w0, w4, R', du, pd, hu⟩ | ⟨rfl, rfl, rfl, rfl, pd, hu⟩ | ⟨rfl, qs, p, rfl, rfl, rfl, pd, hu⟩
  · have wr := due_wrd du
    have dv : ∃ dv, (∀ H2, Dp K H2 v dv) ∧ plainB dv = true ∧ dep dv ≤ 3 := by
      rcases wr with ⟨_, e | ⟨k, e⟩⟩ | ⟨i, _, _, e, _⟩
      · exact ⟨.none, fun H2 => by rw [e]; exact .non, rfl, by decide⟩
      · exact ⟨.int k, fun H2 => by rw [e]; exact .int k, rfl, by show 1 ≤ 3; decide⟩
      · exact ⟨.bool true, fun H2 => by rw [e]; exact .bl true, rfl, by decide⟩
    refine tried_due tr g pl tw tu hn ⟨w0, w4⟩ du fun o' ps' H' tt f tr' g' eR ht c => ?_
    rw [← eR] at pd
    rcases c with ⟨eW, rfl⟩ | ⟨nW, rfl, rfl⟩
    · refine q o' _ H' tt f tr' g' (fun p hp => ?_) (by rw [List.length_append]; exact Nat.le_refl _) ht pd ?_ dv
      · rcases List.mem_append.mp hp with hp | hp
        · exact gp p hp
        · rw [List.mem_singleton.mp hp]; exact g
      · rcases hu with ⟨_, h⟩ | ⟨h, _⟩
        · exact h
        · exact absurd eW h
    · refine q _ _ H' tt f tr' g' gp (Nat.le_succ _) ht pd ?_ dv
      rcases hu with ⟨h, _⟩ | ⟨_, h⟩
      · exact absurd h nW
      · exact h
  · exact tried_back tr (fun _ H' tt s' ht => q o [] H' tt (Fr.of s') (tr.same s') g gp (by simp) ht pd hu ⟨.bool true, fun _ => .bl true, rfl, by decide⟩) fun qs p e => absurd e (by simp)
  · refine tried_back tr (fun e => absurd e (by simp)) fun qs' p' e H' tt f tr' ht => ?_
    obtain ⟨rfl, e2⟩ := List.append_inj' e rfl
    cases e2
    exact q p qs H' tt f tr' (gp p (by simp)) (fun z hz => gp z (by simp [hz])) (by rw [List.length_append]; omega) ht pd hu ⟨.none, fun _ => .non, rfl, by decide⟩
theorem DpAll_txt {α : Type} {K : PySem.W.Frag} {H : Hp} (g : α → List Nat) : ∀ l : List α, DpAll K H (l.map fun a => V.str (st (g a))) (l.map fun a => textD (g a))
  | [] => .nil
  | a :: l => .cons (.str _) (DpAll_txt g l)
end RT
namespace RT
open PySem PySem.Spec PyProof.Rows L2
theorem sorted_held {K : PySem.W.Frag} {H : Hp} {d : Addr} {R : List Row} (h : PD H d R) (l : R.length ≤ 100) {Q : VK} (q : ∀ (p : Addr) (H' : Hp), Same H H' → Dp K H' (.ref p) (.list ((R.map (·.1)).map textD)) → Q (.ref p) H') : rSortedDS [.ref d] H Q := by
  obtain ⟨P, e, up, pm⟩ := h
  refine ⟨d, dkv P, P.map (fun r => st r.1), rfl, .inl e, dkv_keys P, (by rw [List.length_map, ← pm.length_eq]; omega), fun p np => q p _ (same_new np _) ?_⟩
  have em : ((P.map fun r => st r.1).mergeSort leS).map V.str = R.map (fun r => V.str (st r.1)) := by rw [sorted_names pm up, List.map_map]; rfl
  rw [em]
  refine .lst (SqL.of upd_same) ?_
  rw [List.map_map]
  exact DpAll_txt (fun r : Row => r.1) R
theorem nm_rows {o : Option Tr} (g : GT o) : ∀ x ∈ (rO o).map (·.1), isNm x = true := fun x hx => by
  obtain ⟨r, hr, rfl⟩ := List.mem_map.mp hx
  exact nm_iff.mpr ⟨(g.2.1.2.2 r hr).1, (g.2.1.2.2 r hr).2.1⟩
end RT
namespace RT
open PySem PySem.Spec PyProof.Rows L2
theorem thg_tx {K : PySem.W.Frag} {H : Hp} {w : V} {t : Option (List Nat)} (tx : Tx w) (h : Thg K H w t) (H' : Hp) : Thg K H' w t := by
  have no : ∀ {w : V}, Tx w → (∀ x, w ≠ .str (st x)) → Thg K H w t → Thg K H' w t := fun {w} tx n h => by
    obtain ⟨t', h'⟩ := tx.thg (K := K) (H := H')
    cases t with
    | some b => exact absurd h.1 (n b)
    | none =>
      cases t' with
      | some b => exact absurd h'.1 (n b)
      | none => exact h'
  rcases tx with ⟨x, rfl, hx, hs⟩ | rfl | rfl
  · rw [thg_uniq h (thg_of (x := x) (by omega))]
    exact thg_of (by omega)
  · exact no (.inr (.inl rfl)) (fun x e => by cases e) h
  · exact no (.inr (.inr rfl)) (fun x e => by cases e) h
end RT
namespace RT
open PySem PySem.Spec PyProof.Rows L2
theorem kits_of {K : PySem.W.Frag} {D c0 c1 c2 c3 c4 c5 c6 : Addr} {i : Nat} (h0 : PySem.W.kitOne K (.ref D) (.ref c0) = some (decide (0 = i))) (h1 : PySem.W.kitOne K (.ref D) (.ref c1) = some (decide (1 = i))) (h2 : PySem.W.kitOne K (.ref D) (.ref c2) = some (decide (2 = i))) (h3 : PySem.W.kitOne K (.ref D) (.ref c3) = some (decide (3 = i)))
    (h4 : PySem.W.kitOne K (.ref D) (.ref c4) = some (decide (4 = i))) (h5 : PySem.W.kitOne K (.ref D) (.ref c5) = some (decide (5 = i))) (h6 : PySem.W.kitOne K (.ref D) (.ref c6) = some (decide (6 = i))) : Kits K [c0, c1, c2, c3, c4, c5, c6] D i := fun j c h => by
  match j, h with
  | 0, h => cases h; exact h0
  | 1, h => cases h; exact h1
  | 2, h => cases h; exact h2
  | 3, h => cases h; exact h3
  | 4, h => cases h; exact h4
  | 5, h => cases h; exact h5
  | 6, h => cases h; exact h6
  | j + 7, h => simp at h
end RT

namespace RT
open PySem PySem.Spec PyProof.Rows L2
def topS (i : Nat) : Stmt := PySem.Challenge.pw_radixtrail_k12_whole_deeds.main.body.getD i (.Pass ⟨0, 0, 0, 0⟩)
abbrev sinner_of : Stmt := topS 10
abbrev pinner_of : List Str := ["branches", "sign"]
theorem cinner_of : FnScope ["branches", "sign", "own_sign", "tree"] ["branches", "sign"] (defScope sinner_of) := ⟨rfl, rfl, rfl, by decide +kernel, rfl, by decide +kernel, by decide +kernel⟩
abbrev splaced : Stmt := topS 11
abbrev pplaced : List Str := ["branches", "branch"]
theorem cplaced : FnScope ["branches", "branch", "sign", "lower", "higher", "pair"] ["branches", "branch"] (defScope splaced) := ⟨rfl, rfl, rfl, by decide +kernel, rfl, by decide +kernel, by decide +kernel⟩
abbrev sbranches_behind : Stmt := topS 12
abbrev pbranches_behind : List Str := ["tree", "beginning"]
theorem cbranches_behind : FnScope ["tree", "beginning", "kind", "text", "held", "behind"] ["tree", "beginning"] (defScope sbranches_behind) := ⟨rfl, rfl, rfl, by decide +kernel, rfl, by decide +kernel, by decide +kernel⟩
abbrev sreplaced : Stmt := topS 13
abbrev preplaced : List Str := ["fork", "sign", "inner"]
theorem creplaced : FnScope ["fork", "sign", "inner", "_", "shared", "branches", "left", "last_sign", "kind", "text", "held", "branch"] ["fork", "sign", "inner"] (defScope sreplaced) := ⟨rfl, rfl, rfl, by decide +kernel, rfl, by decide +kernel, by decide +kernel⟩
abbrev sis_name : Stmt := topS 17
abbrev pis_name : List Str := ["thing"]
theorem cis_name : FnScope ["thing", "sign"] ["thing"] (defScope sis_name) := ⟨rfl, rfl, rfl, by decide +kernel, rfl, by decide +kernel, by decide +kernel⟩
abbrev sPis_sign : Stmt := topS 18
abbrev pPis_sign : List Str := ["sign"]
theorem cPis_sign : FnScope ["sign"] ["sign"] (defScope sPis_sign) := ⟨rfl, rfl, rfl, by decide +kernel, rfl, by decide +kernel, by decide +kernel⟩
abbrev scommon : Stmt := topS 19
abbrev pcommon : List Str := ["one", "other"]
theorem ccommon : FnScope ["one", "other", "many", "sign", "other_sign"] ["one", "other"] (defScope scommon) := ⟨rfl, rfl, rfl, by decide +kernel, rfl, by decide +kernel, by decide +kernel⟩
abbrev srest : Stmt := topS 20
abbrev prest : List Str := ["name", "beginning"]
theorem crest : FnScope ["name", "beginning"] ["name", "beginning"] (defScope srest) := ⟨rfl, rfl, rfl, by decide +kernel, rfl, by decide +kernel, by decide +kernel⟩
abbrev sfound : Stmt := topS 22
abbrev pfound : List Str := ["tree", "name"]
theorem cfound : FnScope ["tree", "name", "kind", "text", "held", "behind"] ["tree", "name"] (defScope sfound) := ⟨rfl, rfl, rfl, by decide +kernel, rfl, by decide +kernel, by decide +kernel⟩
abbrev sput : Stmt := topS 23
abbrev pput : List Str := ["tree", "name", "number"]
theorem cput : FnScope ["tree", "name", "number", "shared", "branches", "behind", "sign", "inner"] ["tree", "name", "number"] (defScope sput) := ⟨rfl, rfl, rfl, by decide +kernel, rfl, by decide +kernel, by decide +kernel⟩
abbrev swithout : Stmt := topS 24
abbrev pwithout : List Str := ["tree", "name"]
theorem cwithout : FnScope ["tree", "name"] ["tree", "name"] (defScope swithout) := ⟨rfl, rfl, rfl, by decide +kernel, rfl, by decide +kernel, by decide +kernel⟩
abbrev sPless : Stmt := topS 25
abbrev pPless : List Str := ["tree", "name"]
theorem cPless : FnScope ["tree", "name", "kind", "text", "held", "behind", "sign"] ["tree", "name"] (defScope sPless) := ⟨rfl, rfl, rfl, by decide +kernel, rfl, by decide +kernel, by decide +kernel⟩
abbrev sahead : Stmt := topS 26
abbrev pahead : List Str := ["tree", "beginning"]
theorem cahead : FnScope ["tree", "beginning", "kind", "text", "held"] ["tree", "beginning"] (defScope sahead) := ⟨rfl, rfl, rfl, by decide +kernel, rfl, by decide +kernel, by decide +kernel⟩
abbrev snames : Stmt := topS 27
abbrev pnames : List Str := ["tree"]
theorem cnames : FnScope ["tree", "kind", "text", "held", "pairs", "sign", "inner", "name", "number"] ["tree"] (defScope snames) := ⟨rfl, rfl, rfl, by decide +kernel, rfl, by decide +kernel, by decide +kernel⟩
abbrev scut : Stmt := topS 29
abbrev pcut : List Str := ["tree", "beginning"]
theorem ccut : FnScope ["tree", "beginning", "kind", "text", "held", "behind", "sign", "left", "taken"] ["tree", "beginning"] (defScope scut) := ⟨rfl, rfl, rfl, by decide +kernel, rfl, by decide +kernel, by decide +kernel⟩
abbrev sjoined : Stmt := topS 30
abbrev pjoined : List Str := ["one", "other"]
theorem cjoined : FnScope ["one", "other", "shared", "branches", "sign", "inner"] ["one", "other"] (defScope sjoined) := ⟨rfl, rfl, rfl, by decide +kernel, rfl, by decide +kernel, by decide +kernel⟩
abbrev smoved : Stmt := topS 31
abbrev pmoved : List Str := ["tree", "beginning", "other"]
theorem cmoved : FnScope ["tree", "beginning", "other", "left", "taken"] ["tree", "beginning", "other"] (defScope smoved) := ⟨rfl, rfl, rfl, by decide +kernel, rfl, by decide +kernel, by decide +kernel⟩
abbrev scopied : Stmt := topS 32
abbrev pcopied : List Str := ["tree", "beginning", "other"]
theorem ccopied : FnScope ["tree", "beginning", "other", "_", "taken"] ["tree", "beginning", "other"] (defScope scopied) := ⟨rfl, rfl, rfl, by decide +kernel, rfl, by decide +kernel, by decide +kernel⟩
abbrev sPparted : Stmt := topS 33
abbrev pPparted : List Str := ["tree", "beginning"]
theorem cPparted : FnScope ["tree", "beginning", "left", "taken"] ["tree", "beginning"] (defScope sPparted) := ⟨rfl, rfl, rfl, by decide +kernel, rfl, by decide +kernel, by decide +kernel⟩
abbrev sunder : Stmt := topS 35
abbrev punder : List Str := ["tree", "beginning"]
theorem cunder : FnScope ["tree", "beginning", "behind", "number"] ["tree", "beginning"] (defScope sunder) := ⟨rfl, rfl, rfl, by decide +kernel, rfl, by decide +kernel, by decide +kernel⟩
abbrev smany : Stmt := topS 36
abbrev pmany : List Str := ["tree", "beginning"]
theorem cmany : FnScope ["tree", "beginning"] ["tree", "beginning"] (defScope smany) := ⟨rfl, rfl, rfl, by decide +kernel, rfl, by decide +kernel, by decide +kernel⟩
abbrev sPbelow : Stmt := topS 37
abbrev pPbelow : List Str := ["tree", "beginning"]
theorem cPbelow : FnScope ["tree", "beginning", "_", "taken"] ["tree", "beginning"] (defScope sPbelow) := ⟨rfl, rfl, rfl, by decide +kernel, rfl, by decide +kernel, by decide +kernel⟩
abbrev sPrefuse_no_names : Stmt := topS 41
abbrev pPrefuse_no_names : List Str := ["things"]
theorem cPrefuse_no_names : FnScope ["things", "thing"] ["things"] (defScope sPrefuse_no_names) := ⟨rfl, rfl, rfl, by decide +kernel, rfl, by decide +kernel, by decide +kernel⟩
abbrev sPrefuse_long_names : Stmt := topS 42
abbrev pPrefuse_long_names : List Str := ["tree", "beginning", "other"]
theorem cPrefuse_long_names : FnScope ["tree", "beginning", "other", "name", "_"] ["tree", "beginning", "other"] (defScope sPrefuse_long_names) := ⟨rfl, rfl, rfl, by decide +kernel, rfl, by decide +kernel, by decide +kernel⟩
abbrev sPof_size : Stmt := topS 43
abbrev pPof_size : List Str := ["tree"]
theorem cPof_size : FnScope ["tree"] ["tree"] (defScope sPof_size) := ⟨rfl, rfl, rfl, by decide +kernel, rfl, by decide +kernel, by decide +kernel⟩
abbrev sLcell_at : Stmt := topS 45
abbrev pLcell_at : List Str := ["_law_script", "_law_k"]
theorem cLcell_at : FnScope ["_law_script", "_law_k"] ["_law_script", "_law_k"] (defScope sLcell_at) := ⟨rfl, rfl, rfl, by decide +kernel, rfl, by decide +kernel, by decide +kernel⟩
abbrev sLwhole : Stmt := topS 46
abbrev pLwhole : List Str := ["_law_told"]
theorem cLwhole : FnScope ["_law_told"] ["_law_told"] (defScope sLwhole) := ⟨rfl, rfl, rfl, by decide +kernel, rfl, by decide +kernel, by decide +kernel⟩
abbrev sLsign_by : Stmt := topS 47
abbrev pLsign_by : List Str := ["_law_cell"]
theorem cLsign_by : FnScope ["_law_cell", "_law_some"] ["_law_cell"] (defScope sLsign_by) := ⟨rfl, rfl, rfl, by decide +kernel, rfl, by decide +kernel, by decide +kernel⟩
abbrev sLword_by : Stmt := topS 48
abbrev pLword_by : List Str := ["_law_cell", "_law_size"]
theorem cLword_by : FnScope ["_law_cell", "_law_size", "_law_made", "_law_number", "_law_k"] ["_law_cell", "_law_size"] (defScope sLword_by) := ⟨rfl, rfl, rfl, by decide +kernel, rfl, by decide +kernel, by decide +kernel⟩
abbrev sLnumber_by : Stmt := topS 49
abbrev pLnumber_by : List Str := ["_law_cell"]
theorem cLnumber_by : FnScope ["_law_cell", "_law_size", "_law_number", "_law_mixed", "_law_k"] ["_law_cell"] (defScope sLnumber_by) := ⟨rfl, rfl, rfl, by decide +kernel, rfl, by decide +kernel, by decide +kernel⟩
abbrev sLalike : Stmt := topS 50
abbrev pLalike : List Str := ["_law_told", "_law_due_here"]
theorem cLalike : FnScope ["_law_told", "_law_due_here", "_law_k"] ["_law_told", "_law_due_here"] (defScope sLalike) := ⟨rfl, rfl, rfl, by decide +kernel, rfl, by decide +kernel, by decide +kernel⟩
abbrev sLtext_by : Stmt := topS 51
abbrev pLtext_by : List Str := ["_law_cell", "_law_held"]
theorem cLtext_by : FnScope ["_law_cell", "_law_held", "_law_size", "_law_word", "_law_old"] ["_law_cell", "_law_held"] (defScope sLtext_by) := ⟨rfl, rfl, rfl, by decide +kernel, rfl, by decide +kernel, by decide +kernel⟩
abbrev sLother_by : Stmt := topS 52
abbrev pLother_by : List Str := ["_law_cell", "_law_held"]
theorem cLother_by : FnScope ["_law_cell", "_law_held"] ["_law_cell", "_law_held"] (defScope sLother_by) := ⟨rfl, rfl, rfl, by decide +kernel, rfl, by decide +kernel, by decide +kernel⟩
abbrev sLword_of : Stmt := topS 53
abbrev pLword_of : List Str := ["_law_e"]
theorem cLword_of : FnScope ["_law_e", "_law_words"] ["_law_e"] (defScope sLword_of) := ⟨rfl, rfl, rfl, by decide +kernel, rfl, by decide +kernel, by decide +kernel⟩
abbrev sLtried : Stmt := topS 54
abbrev pLtried : List Str := ["_law_trail", "_law_way", "_law_one", "_law_other", "_law_number"]
theorem cLtried : FnScope ["_law_trail", "_law_way", "_law_one", "_law_other", "_law_number", "_law_e"] ["_law_trail", "_law_way", "_law_one", "_law_other", "_law_number"] (defScope sLtried) := ⟨rfl, rfl, rfl, by decide +kernel, rfl, by decide +kernel, by decide +kernel⟩
abbrev sLnamed : Stmt := topS 55
abbrev pLnamed : List Str := ["_law_thing"]
theorem cLnamed : FnScope ["_law_thing"] ["_law_thing"] (defScope sLnamed) := ⟨rfl, rfl, rfl, by decide +kernel, rfl, by decide +kernel, by decide +kernel⟩
abbrev sLbranch : Stmt := topS 56
abbrev pLbranch : List Str := ["_law_plain", "_law_one", "_law_other", "_law_stay"]
theorem cLbranch : FnScope ["_law_plain", "_law_one", "_law_other", "_law_stay", "_law_name", "_law_group", "_law_fresh", "_law_grown", "_law_k"] ["_law_plain", "_law_one", "_law_other", "_law_stay"] (defScope sLbranch) := ⟨rfl, rfl, rfl, by decide +kernel, rfl, by decide +kernel, by decide +kernel⟩
abbrev sLdue : Stmt := topS 57
abbrev pLdue : List Str := ["_law_plain", "_law_way", "_law_one", "_law_other", "_law_number"]
theorem cLdue : FnScope ["_law_plain", "_law_way", "_law_one", "_law_other", "_law_number", "_law_grown", "_law_name", "_law_had"] ["_law_plain", "_law_way", "_law_one", "_law_other", "_law_number"] (defScope sLdue) := ⟨rfl, rfl, rfl, by decide +kernel, rfl, by decide +kernel, by decide +kernel⟩
abbrev sLbegun : Stmt := topS 58
abbrev pLbegun : List Str := ["_law_trail", "_law_past", "_law_way", "_law_word", "_law_more"]
theorem cLbegun : FnScope ["_law_trail", "_law_past", "_law_way", "_law_word", "_law_more", "_law_plain", "_law_texts", "_law_k", "_law_text", "_law_sign", "_law_name"] ["_law_trail", "_law_past", "_law_way", "_law_word", "_law_more"] (defScope sLbegun) := ⟨rfl, rfl, rfl, by decide +kernel, rfl, by decide +kernel, by decide +kernel⟩
abbrev sLfirst_deeds : Stmt := topS 59
abbrev pLfirst_deeds : List Str := ["_law_begin", "_law_word"]
theorem cLfirst_deeds : FnScope ["_law_begin", "_law_word", "_law_told"] ["_law_begin", "_law_word"] (defScope sLfirst_deeds) := ⟨rfl, rfl, rfl, by decide +kernel, rfl, by decide +kernel, by decide +kernel⟩
abbrev sLtells : Stmt := topS 60
abbrev pLtells : List Str := ["_law_trail", "_law_start", "_law_plain", "_law_kept"]
theorem cLtells : FnScope ["_law_trail", "_law_start", "_law_plain", "_law_kept", "_law_due_here", "_law_got", "_law_all_of", "_law_again", "_law_name"] ["_law_trail", "_law_start", "_law_plain", "_law_kept"] (defScope sLtells) := ⟨rfl, rfl, rfl, by decide +kernel, rfl, by decide +kernel, by decide +kernel⟩
abbrev slaw : Stmt := topS 61
abbrev plaw : List Str := ["_law_script"]
theorem claw : FnScope ["_law_script", "_law_trail", "_law_past", "_law_kept", "_law_begin", "_law_more", "_law_word", "_law_plain", "_law_first", "_law_size", "_law_at", "_law_cell", "_law_held", "_law_way", "_law_one", "_law_other", "_law_number", "_law_due_here", "_law_start", "_law_pair"] ["_law_script"] (defScope slaw) := ⟨rfl, rfl, rfl, by decide +kernel, rfl, by decide +kernel, by decide +kernel⟩
abbrev sT_init : Stmt := inClass (topS 40) 0
abbrev pT_init : List Str := ["self"]
theorem cT_init : FnScope ["self"] ["self"] (defScope sT_init) := ⟨rfl, rfl, rfl, by decide +kernel, rfl, by decide +kernel, by decide +kernel⟩
abbrev sT_keep : Stmt := inClass (topS 40) 1
abbrev pT_keep : List Str := ["self", "name", "number"]
theorem cT_keep : FnScope ["self", "name", "number", "had"] ["self", "name", "number"] (defScope sT_keep) := ⟨rfl, rfl, rfl, by decide +kernel, rfl, by decide +kernel, by decide +kernel⟩
abbrev sT_drop : Stmt := inClass (topS 40) 2
abbrev pT_drop : List Str := ["self", "name"]
theorem cT_drop : FnScope ["self", "name", "had"] ["self", "name"] (defScope sT_drop) := ⟨rfl, rfl, rfl, by decide +kernel, rfl, by decide +kernel, by decide +kernel⟩
abbrev sT_prune : Stmt := inClass (topS 40) 3
abbrev pT_prune : List Str := ["self", "beginning"]
theorem cT_prune : FnScope ["self", "beginning", "left", "taken"] ["self", "beginning"] (defScope sT_prune) := ⟨rfl, rfl, rfl, by decide +kernel, rfl, by decide +kernel, by decide +kernel⟩
abbrev sT_move : Stmt := inClass (topS 40) 4
abbrev pT_move : List Str := ["self", "beginning", "other"]
theorem cT_move : FnScope ["self", "beginning", "other", "moving"] ["self", "beginning", "other"] (defScope sT_move) := ⟨rfl, rfl, rfl, by decide +kernel, rfl, by decide +kernel, by decide +kernel⟩
abbrev sT_graft : Stmt := inClass (topS 40) 5
abbrev pT_graft : List Str := ["self", "beginning", "other"]
theorem cT_graft : FnScope ["self", "beginning", "other", "copying"] ["self", "beginning", "other"] (defScope sT_graft) := ⟨rfl, rfl, rfl, by decide +kernel, rfl, by decide +kernel, by decide +kernel⟩
abbrev sT_back : Stmt := inClass (topS 40) 6
abbrev pT_back : List Str := ["self"]
theorem cT_back : FnScope ["self"] ["self"] (defScope sT_back) := ⟨rfl, rfl, rfl, by decide +kernel, rfl, by decide +kernel, by decide +kernel⟩
abbrev sT_told : Stmt := inClass (topS 40) 7
abbrev pT_told : List Str := ["self", "beginning"]
theorem cT_told : FnScope ["self", "beginning"] ["self", "beginning"] (defScope sT_told) := ⟨rfl, rfl, rfl, by decide +kernel, rfl, by decide +kernel, by decide +kernel⟩
abbrev sT_tree : Stmt := inClass (topS 40) 8
abbrev pT_tree : List Str := ["self"]
theorem cT_tree : FnScope ["self"] ["self"] (defScope sT_tree) := ⟨rfl, rfl, rfl, by decide +kernel, rfl, by decide +kernel, by decide +kernel⟩
abbrev sT_size : Stmt := inClass (topS 40) 9
abbrev pT_size : List Str := ["self"]
theorem cT_size : FnScope ["self"] ["self"] (defScope sT_size) := ⟨rfl, rfl, rfl, by decide +kernel, rfl, by decide +kernel, by decide +kernel⟩
abbrev sT_do : Stmt := inClass (topS 40) 10
abbrev pT_do : List Str := ["self", "tree"]
theorem cT_do : FnScope ["self", "tree"] ["self", "tree"] (defScope sT_do) := ⟨rfl, rfl, rfl, by decide +kernel, rfl, by decide +kernel, by decide +kernel⟩
end RT
namespace RT
open PySem PySem.Spec PyProof.Rows L2
section
variable {P : Program} {w : World} {K : PySem.W.Frag} {mg : Str → Option Value} {base : Heap} {f g : Addr} {fd gd : FuncData} {k : Nat}
theorem ok_Lcell_at (F : Fun K "_law_cell_at" "_law_cell_at" sLcell_at f fd) (m_len : mg "len" = none) :
    FnOk P w K mg base CX0 1 f fd pLcell_at (spCell K) := by
  refine F.ok cLcell_at (fun vs H Q E h => ?_) (fun cdv A outer s H vs Q E hr h => ?_)
  · obtain ⟨a, ns, k, rfl, _⟩ := h
    rfl
  obtain ⟨a, ns, k, rfl, hS, h0, q⟩ := h
  refine ⟨_, (pss_cons (ps_if (pt_cmpR op_lt (pv 1) (pe_callB call_len_seq (by rfl) m_len (by decide +kernel) (pa_cons (pv 0) pa_nil)) (nomark _)) (pss_one (ps_ret (pe_ix (r := rIxL K) ix_list (pv 0) (pv 1) (fun _ _ => rfl)))) pss_nil)
    (pss_one (ps_ret pe_int))), ?_⟩
  have hl : (ns.map V.int).length = ns.length := List.length_map _
  refine ⟨_, rfl, _, rfl, a, _, rfl, .inl hS, _, _, rfl, rfl, _, rfl, ?_⟩
  refine ite2 (fun c => ?_) (fun c => ?_)
  · have c' : k < (((ns.map V.int).length : Nat) : Int) := of_decide_eq_true c
    rw [hl] at c'
    have hk : k.toNat < ns.length := by omega
    have hv : atI (ns.map V.int) k = some (.int (cell ns k)) := at_of (j := k.toNat) (by omega) (by
      unfold cell; rw [List.getElem?_map, List.getElem?_eq_getElem hk] <;> rfl)
    exact ⟨_, rfl, _, rfl, a, _, _, _, rfl, rfl, hS, hv, q⟩
  · have c' : ¬ k < (((ns.map V.int).length : Nat) : Int) := of_decide_eq_false (Bool.eq_false_iff.mpr c)
    rw [hl] at c'
    have e : cell ns k = 0 := by unfold cell; rw [List.getElem?_eq_none (by omega)] <;> rfl
    rw [e] at q
    exact q
theorem ok_Lsign_by (F : Fun K "_law_sign_by" "_law_sign_by" sLsign_by f fd) :
    FnOk P w K mg base CX0 1 f fd pLsign_by (spSign) := by
  refine F.ok cLsign_by (fun vs H Q E h => ?_) (fun cdv A outer s H vs Q E hr h => ?_)
  · obtain ⟨c, rfl, _⟩ := h
    rfl
  obtain ⟨c, rfl, q⟩ := h
  refine ⟨_, (pss_cons (ps_set (i := 1) cLsign_by.nd rfl (Or.inl rfl) pe_str)
    (pss_cons (ps_set (i := 1) cLsign_by.nd rfl (Or.inl rfl) (pe_op op_add_str (pv 1) pe_str))
    (pss_one (ps_ret (pe_ix ix_str (pv 1) (pe_op op_mod (pv 0) pe_int) (fun _ _ => rfl)))))), ?_⟩
  refine ⟨_, rfl, _, _, rfl, rfl, (by decide +kernel), ?_⟩
  refine ⟨_, rfl, _, rfl, _, _, rfl, rfl, (by show (0 : Int) < 94; decide), _, _, sgn c, rfl, rfl, (by decide +kernel), ?_, q⟩
  have e : ((Str.ofString " !\"#$&'()*+,-./0123456789:;<=>?@ABCDEFGHIJKLMNOPQRSTUVWXYZ[\\]^_`" ++ Str.ofString "abcdefghijklmnopqrstuvwxyz{|}~" : Str)).cps.toList = signTab := by decide +kernel
  rw [e]
  have hz : c % 94 = (((c % 94).toNat : Nat) : Int) := by omega
  have hq := atI_nat (xs := signTab) (sgn_at c)
  rw [← hz] at hq
  exact hq
theorem ok_Lword_by (F : Fun K "_law_word_by" "_law_word_by" sLword_by f fd)
    (G_Lsign_by : Has P w K mg base "_law_sign_by" pLsign_by 1 (spSign)) (m_range : mg "range" = none) :
    FnOk P w K mg base CX0 2 f fd pLword_by (spWord) := by
  refine F.ok cLword_by (fun vs H Q E h => ?_) (fun cdv A outer s H vs Q E hr h => ?_)
  · obtain ⟨c, n, rfl, _⟩ := h
    rfl
  obtain ⟨c, n, rfl, hn0, hn, q⟩ := h
  refine ⟨_, (pss_cons (ps_set (i := 2) cLword_by.nd rfl (Or.inl rfl) pe_str)
    (pss_cons (ps_set (i := 3) cLword_by.nd rfl (Or.inl rfl) (pv 0))
    (pss_cons (ps_for PassesOwn.never rfl (pi_range1 (by rfl) m_range (pa_cons (pv 1) pa_nil)) (pg_name (i := 4) cLword_by.nd rfl (Or.inl rfl)) (pss_cons (ps_set (i := 3) cLword_by.nd rfl (Or.inl rfl) (pe_op op_mod (pe_op op_add (pe_op op_mul (pv 3) pe_int) pe_int) pe_int))
    (pss_one (ps_set (i := 2) cLword_by.nd rfl (Or.inl rfl) (pe_op op_add_str (pv 2) (pe_has G_Lsign_by hr (by omega) (pa_cons (pe_op op_add pe_int (pe_op op_mod (pe_op op_fdiv (pv 3) pe_int) (pe_ix (r := rIxL K) ix_list (pe_lst (pa_cons pe_int (pa_cons pe_int pa_nil))) (pe_op op_mod (pv 0) pe_int) (fun _ _ => rfl)))) pa_nil)))))))
    (pss_one (ps_ret (pv 2)))))), ?_⟩
  refine ⟨_, rfl, _, rfl, n, rfl, by omega, by omega, for_range (lo := 0) (n := n.toNat) (fun i σ H' => ∃ y4, σ = [some (.int c), some (.int n), some (.str (st (wordGo c i).2)), some (.int (wordGo c i).1), y4] ∧ Same H H')
    ⟨none, rfl, Same.refl H⟩ (fun i σ H1 hi h1 => ?_) (fun σ H1 h1 => ?_)⟩
  · obtain ⟨y4, rfl, s1⟩ := h1
    refine ⟨_, rfl, _, _, rfl, rfl, .inr ⟨by decide, by decide⟩, _, _, rfl, rfl, _, _, rfl, rfl, (by show (0 : Int) < 2147483647; decide), ?_⟩
    refine ⟨_, rfl, _, rfl, _, _, rfl, rfl, ⟨by decide, by decide⟩, (by show 2 ≤ sizeLine; decide), fun p hp => ?_⟩
    have hz : c % 2 = 0 ∨ c % 2 = 1 := by omega
    refine ⟨_, rfl, _, _, rfl, rfl, (by show (0 : Int) < 2; decide), p, _, _, .int (if c % 2 = 0 then 2 else 94), rfl, rfl, SqL.of upd_same, ?_, _, _, rfl, rfl, ?_, _, _, rfl, rfl, ?_⟩
    · rcases hz with z | z <;> rw [z] <;> rfl
    · show (0 : Int) < (if c % 2 = 0 then 2 else 94)
      split <;> decide
    refine ⟨_, rfl, _, _, rfl, rfl, ?_, ?_⟩
    · rw [st_len, st_len, wordGo_len]
      exact smallZ (by simp; omega)
    · refine ⟨some (.int (0 + i)), ?_, s1.trans (same_new hp _)⟩
      rw [st_add]
      rfl
  · obtain ⟨y4, rfl, s1⟩ := h1
    exact ⟨_, rfl, q _ s1⟩
theorem ok_Lwhole (F : Fun K "_law_whole" "_law_whole" sLwhole f fd) (m_isinstance : mg "isinstance" = none) (m_int : mg "int" = none) (m_bool : mg "bool" = none) :
    FnOk P w K mg base CX0 1 f fd pLwhole (spWhole K) := by
  refine F.ok cLwhole (fun vs H Q E h => ?_) (fun cdv A outer s H vs Q E hr h => ?_)
  · obtain ⟨v, i, rfl, _⟩ := h
    rfl
  obtain ⟨v, i, rfl, hv, q⟩ := h
  refine ⟨_, (pss_one (ps_ret (pe_and (pe_callB call_isi (by rfl) m_isinstance (by decide +kernel) (pa_cons (pv 0) (pa_cons (pe_bltn rfl m_int (by decide +kernel) (v := .ty "int") rfl) pa_nil))) (pe_one (pe_not (pe_callB call_isi (by rfl) m_isinstance (by decide +kernel) (pa_cons (pv 0) (pa_cons (pe_bltn rfl m_bool (by decide +kernel) (v := .ty "bool") rfl) pa_nil)))))))), ?_⟩
  refine ⟨_, rfl, _, _, _, _, true, rfl, .ty _, tyx_of hv, kit_ty (by simp only [tyN]; decide +kernel), ⟨true, rfl, iteT ?_⟩⟩
  exact ⟨_, rfl, _, _, _, _, false, rfl, .ty _, tyx_of hv, kit_ty (by simp only [tyN]; decide +kernel), ⟨false, rfl, q⟩⟩
theorem ok_Lnumber_by (F : Fun K "_law_number_by" "_law_number_by" sLnumber_by f fd) (m_range : mg "range" = none) :
    FnOk P w K mg base CX0 1 f fd pLnumber_by (spNum) := by
  refine F.ok cLnumber_by (fun vs H Q E h => ?_) (fun cdv A outer s H vs Q E hr h => ?_)
  · obtain ⟨c, rfl, _⟩ := h
    rfl
  obtain ⟨c, rfl, q⟩ := h
  refine ⟨_, (pss_cons (ps_if (pt_cmpR op_gt (pe_op op_mod (pv 0) pe_int) pe_int (nomark _)) (pss_one (ps_ret (pe_op op_sub (pe_op op_mod (pe_op op_fdiv (pv 0) pe_int) pe_int) pe_int))) pss_nil)
    (pss_cons (ps_set (i := 1) cLnumber_by.nd rfl (Or.inl rfl) (pe_ix (r := rIxL K) ix_list (pe_lst (pa_cons pe_int (pa_cons (pe_op op_add pe_int (pe_op op_mod (pe_op op_fdiv (pv 0) pe_int) pe_int)) pa_nil))) (pe_op op_mod (pv 0) pe_int) (fun _ _ => rfl)))
    (pss_cons (ps_set (i := 2) cLnumber_by.nd rfl (Or.inl rfl) pe_int)
    (pss_cons (ps_set (i := 3) cLnumber_by.nd rfl (Or.inl rfl) (pv 0))
    (pss_cons (ps_for PassesOwn.never rfl (pi_range1 (by rfl) m_range (pa_cons (pv 1) pa_nil)) (pg_name (i := 4) cLnumber_by.nd rfl (Or.inl rfl)) (pss_cons (ps_set (i := 3) cLnumber_by.nd rfl (Or.inl rfl) (pe_op op_mod (pe_op op_add (pe_op op_mul (pv 3) pe_int) pe_int) pe_int))
    (pss_one (ps_set (i := 2) cLnumber_by.nd rfl (Or.inl rfl) (pe_op op_add (pe_op op_mul (pv 2) pe_int) (pe_op op_mod (pe_op op_fdiv (pv 3) pe_int) pe_int))))))
    (pss_one (ps_ret (pe_op op_mul (pe_ix (r := rIxL K) ix_list (pe_lst (pa_cons pe_int (pa_cons (pe_un un_neg pe_int) pa_nil))) (pe_op op_mod (pe_op op_fdiv (pv 0) pe_int) pe_int) (fun _ _ => rfl)) (pv 2))))))))), ?_⟩
  refine ⟨_, rfl, _, _, rfl, rfl, (by show (0 : Int) < 5; decide), _, _, rfl, rfl, _, rfl, ite2 (fun z => ?_) (fun z => ?_)⟩
  · have z' : c % 5 > 1 := of_decide_eq_true z
    refine ⟨_, rfl, _, _, rfl, rfl, ⟨by decide, by decide⟩, _, _, rfl, rfl, (by show (0 : Int) < 39; decide), _, _, rfl, rfl, ?_⟩
    have e : numOf c = c / 5 % 39 - 19 := by unfold numOf; rw [if_pos z']
    have q' := q H (Same.refl H)
    rw [e] at q'
    exact q'
  · have z' : ¬ c % 5 > 1 := of_decide_eq_false (Bool.eq_false_iff.mpr z)
    have hz : c % 5 = 0 ∨ c % 5 = 1 := by omega
    refine ⟨_, rfl, _, _, rfl, rfl, ⟨by decide, by decide⟩, _, _, rfl, rfl, (by show (0 : Int) < 60; decide), _, _, rfl, rfl, (by show 2 ≤ sizeLine; decide), fun p hp => ?_⟩
    refine ⟨_, rfl, _, _, rfl, rfl, (by show (0 : Int) < 5; decide), p, _, _, .int (if c % 5 = 0 then 60 else 1 + c / 10 % 60), rfl, rfl, SqL.of upd_same, ?_, ?_⟩
    · rcases hz with z | z <;> rw [z] <;> rfl
    generalize hn : (if c % 5 = 0 then (60 : Int) else 1 + c / 10 % 60) = n
    have hn' : 0 ≤ n ∧ n ≤ 60 := by
      rw [← hn]; split
      · omega
      · have h1 : 0 ≤ c / 10 % 60 := by omega
        have h2 : c / 10 % 60 < 60 := by omega
        omega
    refine ⟨_, rfl, ?_⟩
    refine ⟨_, rfl, n, rfl, by omega, by omega, for_range (lo := 0) (n := n.toNat) (fun i σ H' => ∃ y4, σ = [some (.int c), some (.int n), some (.int (numGo c i).2), some (.int (numGo c i).1), y4] ∧ Same H H')
      ⟨none, rfl, same_new hp _⟩ (fun i σ H1 hi h1 => ?_) (fun σ H1 h1 => ?_)⟩
    · obtain ⟨y4, rfl, s1⟩ := h1
      refine ⟨_, rfl, _, _, rfl, rfl, .inr ⟨by decide, by decide⟩, _, _, rfl, rfl, _, _, rfl, rfl, (by show (0 : Int) < 2147483647; decide), ?_⟩
      refine ⟨_, rfl, _, _, rfl, rfl, .inr ⟨by decide, by decide⟩, _, rfl, _, _, rfl, rfl, ⟨by decide, by decide⟩, _, _, rfl, rfl, (by show (0 : Int) < 10; decide), _, _, rfl, rfl, ?_⟩
      exact ⟨_, rfl, s1⟩
    · obtain ⟨y4, rfl, s1⟩ := h1
      have hz2 : c / 5 % 2 = 0 ∨ c / 5 % 2 = 1 := by omega
      refine ⟨_, rfl, (by show 2 ≤ sizeLine; decide), fun p2 hp2 => ?_⟩
      refine ⟨_, rfl, _, _, rfl, rfl, ⟨by decide, by decide⟩, _, _, rfl, rfl, (by show (0 : Int) < 2; decide), p2, _, _, .int (if c / 5 % 2 = 0 then 1 else -1), rfl, rfl, SqL.of upd_same, ?_, ?_⟩
      · rcases hz2 with z | z <;> rw [z] <;> rfl
      refine ⟨_, rfl, _, _, rfl, rfl, .inl (by split <;> decide), ?_⟩
      have e : numOf c = (if c / 5 % 2 = 0 then 1 else -1) * (numGo c n.toNat).2 := by unfold numOf; rw [if_neg z', hn]
      have q' := q _ (s1.trans (same_new hp2 (.lst [.int 1, .int (-1)])))
      rw [e] at q'
      exact q'
theorem ok_Lalike0 : FnOk P w K mg base CX0 0 f fd pLalike (spAlikeB K 0) := by
  have no : ∀ vs H Q E, ¬ spAlikeB K 0 vs H Q E := fun vs H Q E h => by
    obtain ⟨v, u, d, _, _, _, _, h5, _⟩ := h
    have := dep_pos d
    omega
  exact ⟨fun vs H Q E h => absurd h (no vs H Q E), fun A outer s H args us vs Q E _ _ _ _ h => absurd h (no vs H Q E)⟩
theorem ok_Lalike1 {n : Nat} (F : Fun K "_law_alike" "_law_alike" sLalike f fd) (G_Lalike : Has P w K mg base "_law_alike" pLalike (n + 1) (spAlikeB K n)) (G_Lwhole : Has P w K mg base "_law_whole" pLwhole 1 (spWhole K))
    (m_isinstance : mg "isinstance" = none) (m_str : mg "str" = none) (m_int : mg "int" = none) (m_tuple : mg "tuple" = none) (m_list : mg "list" = none) (m_len : mg "len" = none) (m_range : mg "range" = none) :
    FnOk P w K mg base CX0 (n + 2) f fd pLalike (spAlikeB K (n + 1)) := by
  refine F.ok cLalike (fun vs H Q E h => ?_) (fun cdv A outer s H vs Q E hr h => ?_)
  · obtain ⟨v, u, d, rfl, _⟩ := h
    rfl
  obtain ⟨v, u, d, rfl, hv, hu, hp, hd, q⟩ := h
  refine ⟨_, (pss_cons (ps_if (pt_cmpR op_isN (pv 1) pe_non (nomark _)) (pss_one (ps_ret (pe_cmpR op_isN (pv 0) pe_non (nomark _)))) pss_nil)
    (pss_cons (ps_if (pt_cmpR op_isBA (pv 1) pe_bl (nomark _)) (pss_one (ps_ret (pe_cmpR op_isBA (pv 0) pe_bl (nomark _)))) pss_nil)
    (pss_cons (ps_if (pt_val (pe_callB call_isi (by rfl) m_isinstance (by decide +kernel) (pa_cons (pv 1) (pa_cons (pe_bltn rfl m_str (by decide +kernel) (v := .ty "str") rfl) pa_nil)))) (pss_one (ps_ret (pe_and (pe_callB call_isi (by rfl) m_isinstance (by decide +kernel) (pa_cons (pv 0) (pa_cons (pe_bltn rfl m_str (by decide +kernel) (v := .ty "str") rfl) pa_nil))) (pe_one (pe_cmpR op_eq (pv 0) (pv 1) (nomark _)))))) pss_nil)
    (pss_cons (ps_if (pt_val (pe_callB call_isi (by rfl) m_isinstance (by decide +kernel) (pa_cons (pv 1) (pa_cons (pe_bltn rfl m_int (by decide +kernel) (v := .ty "int") rfl) pa_nil)))) (pss_one (ps_ret (pe_and (pe_has G_Lwhole hr (by omega) (pa_cons (pv 0) pa_nil)) (pe_one (pe_cmpR op_eq (pv 0) (pv 1) (nomark _)))))) pss_nil)
    (pss_cons (ps_if (PW.pt (pw_and (pt_val (pe_callB call_isi (by rfl) m_isinstance (by decide +kernel) (pa_cons (pv 1) (pa_cons (pe_bltn rfl m_tuple (by decide +kernel) (v := .ty "tuple") rfl) pa_nil)))) (pw_and1 (pt_not (pt_val (pe_callB call_isi (by rfl) m_isinstance (by decide +kernel) (pa_cons (pv 0) (pa_cons (pe_bltn rfl m_tuple (by decide +kernel) (v := .ty "tuple") rfl) pa_nil)))))))) (pss_one (ps_ret pe_bl)) pss_nil)
    (pss_cons (ps_if (PW.pt (pw_and (pt_val (pe_callB call_isi (by rfl) m_isinstance (by decide +kernel) (pa_cons (pv 1) (pa_cons (pe_bltn rfl m_list (by decide +kernel) (v := .ty "list") rfl) pa_nil)))) (pw_and1 (pt_not (pt_val (pe_callB call_isi (by rfl) m_isinstance (by decide +kernel) (pa_cons (pv 0) (pa_cons (pe_bltn rfl m_list (by decide +kernel) (v := .ty "list") rfl) pa_nil)))))))) (pss_one (ps_ret pe_bl)) pss_nil)
    (pss_cons (ps_if (pt_cmpR op_ne (pe_callB call_len_seq (by rfl) m_len (by decide +kernel) (pa_cons (pv 0) pa_nil)) (pe_callB call_len_seq (by rfl) m_len (by decide +kernel) (pa_cons (pv 1) pa_nil)) (nomark _)) (pss_one (ps_ret pe_bl)) pss_nil)
    (pss_cons (ps_for PassesOwn.never rfl (pi_range1 (by rfl) m_range (pa_cons (pe_callB call_len_seq (by rfl) m_len (by decide +kernel) (pa_cons (pv 1) pa_nil)) pa_nil)) (pg_name (i := 2) cLalike.nd rfl (Or.inl rfl)) (pss_one (ps_if (pt_not (pt_val (pe_has G_Lalike hr (by omega) (pa_cons (pe_ix (r := rIx K) ix_seq (pv 0) (pv 2) (fun _ _ => rfl)) (pa_cons (pe_ix (r := rIx K) ix_seq (pv 1) (pv 2) (fun _ _ => rfl)) pa_nil))))) (pss_one (ps_ret pe_bl)) pss_nil)))
    (pss_one (ps_ret pe_bl)))))))))), ?_⟩
  cases d with
  | bool b =>
    have hb : b = true := by simpa [plainB] using hp
    subst hb
    cases Dp_bl hv
    cases Dp_bl hu
    exact ⟨_, rfl, rfl, _, rfl, iteF ⟨_, rfl, true, rfl, _, rfl, iteT ⟨_, rfl, true, rfl, q H (Same.refl H)⟩⟩⟩
  | dict b => exact absurd hp (by simp [plainB])
  | none =>
    cases Dp_non hv
    cases Dp_non hu
    exact ⟨_, rfl, rfl, _, rfl, iteT ⟨_, rfl, rfl, q H (Same.refl H)⟩⟩
  | str x =>
    cases Dp_str hv
    cases Dp_str hu
    refine ⟨_, rfl, rfl, _, rfl, iteF ⟨_, rfl, true, rfl, _, rfl, iteF ?_⟩⟩
    refine ⟨_, rfl, _, _, _, _, true, rfl, .ty _, tyx_of hu, kit_ty (by simp only [tyN]; decide +kernel), ⟨true, rfl, iteT ?_⟩⟩
    refine ⟨_, rfl, _, _, _, _, true, rfl, .ty _, tyx_of hv, kit_ty (by simp only [tyN]; decide +kernel), ⟨true, rfl, iteT ?_⟩⟩
    refine ⟨_, rfl, _, rfl, rfl, ?_⟩
    rw [decide_eq_true rfl]
    exact q H (Same.refl H)
  | int x =>
    cases Dp_int hv
    cases Dp_int hu
    refine ⟨_, rfl, rfl, _, rfl, iteF ⟨_, rfl, true, rfl, _, rfl, iteF ?_⟩⟩
    refine ⟨_, rfl, _, _, _, _, false, rfl, .ty _, tyx_of hu, kit_ty (by simp only [tyN]; decide +kernel), ⟨false, rfl, iteF ?_⟩⟩
    refine ⟨_, rfl, _, _, _, _, true, rfl, .ty _, tyx_of hu, kit_ty (by simp only [tyN]; decide +kernel), ⟨true, rfl, iteT ?_⟩⟩
    refine ⟨_, rfl, _, x, rfl, hv, true, rfl, iteT ?_⟩
    refine ⟨_, rfl, _, rfl, rfl, ?_⟩
    rw [decide_eq_true rfl]
    exact q H (Same.refl H)
  | list ds =>
    obtain ⟨a, xs, rfl, ha, ra⟩ := Dp_lst hv
    obtain ⟨b, ys, rfl, hb, rb⟩ := Dp_lst hu
    have la := DpAll_len ra
    have lb := DpAll_len rb
    have hp' : ds.length ≤ 10000 ∧ plainsB ds = true := by simpa [plainB] using hp
    have hd' : deps ds ≤ n := by simp [dep] at hd; omega
    refine ⟨_, rfl, rfl, _, rfl, iteF ⟨_, rfl, true, rfl, _, rfl, iteF ?_⟩⟩
    refine ⟨_, rfl, _, _, _, _, false, rfl, .ty _, tyx_of hu, kit_ty (by simp only [tyN]; decide +kernel), ⟨false, rfl, iteF ?_⟩⟩
    refine ⟨_, rfl, _, _, _, _, false, rfl, .ty _, tyx_of hu, kit_ty (by simp only [tyN]; decide +kernel), ⟨false, rfl, iteF ?_⟩⟩
    refine ⟨_, rfl, _, _, _, _, false, rfl, .ty _, tyx_of hu, kit_ty (by simp only [tyN]; decide +kernel), ⟨false, rfl, iteF (iteF ?_)⟩⟩
    refine ⟨_, rfl, _, _, _, _, true, rfl, .ty _, tyx_of hu, kit_ty (by simp only [tyN]; decide +kernel), ⟨true, rfl, iteT ⟨_, rfl, _, _, _, _, true, rfl, .ty _, tyx_of hv, kit_ty (by simp only [tyN]; decide +kernel), ⟨true, rfl, iteF ?_⟩⟩⟩⟩
    refine ⟨_, rfl, _, _, rfl, .inl ha, _, rfl, _, _, rfl, .inl hb, rfl, _, rfl, iteNS (by rw [la, lb]) ?_⟩
    refine ⟨_, rfl, _, _, rfl, .inl hb, _, rfl, by omega, by omega, for_range (lo := 0) (n := ((ys.length : Nat) : Int).toNat) (fun i σ H' => ∃ y2, σ = [some (.ref a), some (.ref b), y2] ∧ Same H H') ⟨none, rfl, Same.refl H⟩ (fun i σ H1 hi h1 => ?_) (fun σ H1 h1 => ?_)⟩
    · obtain ⟨y2, rfl, s1⟩ := h1
      have hids : i < ds.length := by omega
      obtain ⟨v1, e1, g1⟩ := DpAll_get ra (List.getElem?_eq_getElem hids)
      obtain ⟨v2, e2, g2⟩ := DpAll_get rb (List.getElem?_eq_getElem hids)
      have p1 := plainsB_get hp'.2 (List.getElem?_eq_getElem hids)
      have p2 : dep ds[i] ≤ n := Nat.le_trans (deps_get (List.getElem?_eq_getElem hids)) hd'
      have ez : (0 : Int) + (i : Int) = ((i : Nat) : Int) := by omega
      refine ⟨_, rfl, _, rfl, .inl ⟨a, xs, _, v1, rfl, rfl, Same.seq s1 ha, by rw [ez]; exact atI_nat e1, ?_⟩⟩
      refine ⟨_, rfl, _, rfl, .inl ⟨b, ys, _, v2, rfl, rfl, Same.seq s1 hb, by rw [ez]; exact atI_nat e2, ?_⟩⟩
      refine ⟨v1, v2, ds[i], rfl, Dp_same s1 g1, Dp_same s1 g2, p1, p2, fun H2 s2 => ⟨_, rfl, iteF ⟨_, rfl, s1.trans s2⟩⟩⟩
    · obtain ⟨y2, rfl, s1⟩ := h1
      exact q _ s1
  | tuple ds =>
    obtain ⟨a, xs, rfl, ha, ra⟩ := Dp_tup hv
    obtain ⟨b, ys, rfl, hb, rb⟩ := Dp_tup hu
    have la := DpAll_len ra
    have lb := DpAll_len rb
    have hp' : ds.length ≤ 10000 ∧ plainsB ds = true := by simpa [plainB] using hp
    have hd' : deps ds ≤ n := by simp [dep] at hd; omega
    refine ⟨_, rfl, rfl, _, rfl, iteF ⟨_, rfl, true, rfl, _, rfl, iteF ?_⟩⟩
    refine ⟨_, rfl, _, _, _, _, false, rfl, .ty _, tyx_of hu, kit_ty (by simp only [tyN]; decide +kernel), ⟨false, rfl, iteF ?_⟩⟩
    refine ⟨_, rfl, _, _, _, _, false, rfl, .ty _, tyx_of hu, kit_ty (by simp only [tyN]; decide +kernel), ⟨false, rfl, iteF ?_⟩⟩
    refine ⟨_, rfl, _, _, _, _, true, rfl, .ty _, tyx_of hu, kit_ty (by simp only [tyN]; decide +kernel), ⟨true, rfl, iteT ⟨_, rfl, _, _, _, _, true, rfl, .ty _, tyx_of hv, kit_ty (by simp only [tyN]; decide +kernel), ⟨true, rfl, iteF ?_⟩⟩⟩⟩
    refine ⟨_, rfl, _, _, _, _, false, rfl, .ty _, tyx_of hu, kit_ty (by simp only [tyN]; decide +kernel), ⟨false, rfl, iteF (iteF ?_)⟩⟩
    refine ⟨_, rfl, _, _, rfl, .inr ha, _, rfl, _, _, rfl, .inr hb, rfl, _, rfl, iteNS (by rw [la, lb]) ?_⟩
    refine ⟨_, rfl, _, _, rfl, .inr hb, _, rfl, by omega, by omega, for_range (lo := 0) (n := ((ys.length : Nat) : Int).toNat) (fun i σ H' => ∃ y2, σ = [some (.ref a), some (.ref b), y2] ∧ Same H H') ⟨none, rfl, Same.refl H⟩ (fun i σ H1 hi h1 => ?_) (fun σ H1 h1 => ?_)⟩
    · obtain ⟨y2, rfl, s1⟩ := h1
      have hids : i < ds.length := by omega
      obtain ⟨v1, e1, g1⟩ := DpAll_get ra (List.getElem?_eq_getElem hids)
      obtain ⟨v2, e2, g2⟩ := DpAll_get rb (List.getElem?_eq_getElem hids)
      have p1 := plainsB_get hp'.2 (List.getElem?_eq_getElem hids)
      have p2 : dep ds[i] ≤ n := Nat.le_trans (deps_get (List.getElem?_eq_getElem hids)) hd'
      have ez : (0 : Int) + (i : Int) = ((i : Nat) : Int) := by omega
      refine ⟨_, rfl, _, rfl, .inr (.inl ⟨a, xs, _, v1, rfl, rfl, sameT s1 ha, by rw [ez]; exact atI_nat e1, ?_⟩)⟩
      refine ⟨_, rfl, _, rfl, .inr (.inl ⟨b, ys, _, v2, rfl, rfl, sameT s1 hb, by rw [ez]; exact atI_nat e2, ?_⟩)⟩
      refine ⟨v1, v2, ds[i], rfl, Dp_same s1 g1, Dp_same s1 g2, p1, p2, fun H2 s2 => ⟨_, rfl, iteF ⟨_, rfl, s1.trans s2⟩⟩⟩
    · obtain ⟨y2, rfl, s1⟩ := h1
      exact q _ s1
theorem has_Lalike (D : DefAt K mg "_law_alike" sLalike f fd) (b : Binds K fd pLalike []) (G_Lwhole : Has P w K mg base "_law_whole" pLwhole 1 (spWhole K)) (m_isinstance : mg "isinstance" = none) (m_str : mg "str" = none) (m_int : mg "int" = none) (m_tuple : mg "tuple" = none) (m_list : mg "list" = none) (m_len : mg "len" = none) (m_range : mg "range" = none) :
    ∀ n, Has P w K mg base "_law_alike" pLalike (n + 1) (spAlikeB K n)
  | 0 => D.has b (ok_Lalike0.mono (Nat.zero_le _))
  | n + 1 => D.has b (ok_Lalike1 D.1 (has_Lalike D b G_Lwhole m_isinstance m_str m_int m_tuple m_list m_len m_range n) G_Lwhole m_isinstance m_str m_int m_tuple m_list m_len m_range)
theorem ok_Pis_sign (F : Fun K "_is_sign" "_is_sign" sPis_sign f fd) (m_ord : mg "ord" = none) (gP : ∃ t, mg "_PERCENT" = some (.int 37 t)) : FnOk P w K mg base CX0 1 f fd pPis_sign spIsSign := by
  obtain ⟨tP, gP⟩ := gP
  refine F.ok cPis_sign (fun vs H Q E h => ?_) (fun cdv A outer s H vs Q E hr h => ?_)
  · obtain ⟨c, rfl, _⟩ := h
    rfl
  obtain ⟨c, rfl, q⟩ := h
  refine ⟨_, (pss_one (ps_ret (pe_and (pe_chain op_le_str op_le_str pe_str (pv 0) pe_str) (pe_one (pe_cmpR op_ne (pe_callB call_ord (by rfl) m_ord (by decide +kernel) (pa_cons (pv 0) pa_nil)) (pe_glob (v := .int 37) (by rfl) gP ⟨_, rfl⟩) (nomark _)))))), ?_⟩
  refine ⟨_, rfl, _, _, rfl, rfl, _, rfl, ?_⟩
  have e1 : decide ((st [c]).cps.toList < (Str.ofString " ").cps.toList) = decide (c < 32) := one_lt c 32
  have e2 : decide ((Str.ofString "~").cps.toList < (st [c]).cps.toList) = decide (126 < c) := one_lt 126 c
  rw [e1]
  by_cases h1 : c < 32
  · have ev : sgnOk c = false := by unfold sgnOk; simp [h1]
    rw [ev] at q
    rw [decide_eq_true h1]
    exact iteF ⟨false, rfl, iteF q⟩
  rw [decide_eq_false h1]
  refine iteT ⟨_, _, rfl, rfl, _, rfl, ?_⟩
  rw [e2]
  by_cases h2 : 126 < c
  · have ev : sgnOk c = false := by unfold sgnOk; simp [h2]
    rw [ev] at q
    rw [decide_eq_true h2]
    exact iteF q
  rw [decide_eq_false h2]
  refine iteT ⟨_, rfl, _, rfl, rfl, ?_⟩
  have ev : sgnOk c = !decide (V.int (((st [c]).cps.getD 0 0 : Nat) : Int) = V.int 37) := by
    have e : (V.int (((st [c]).cps.getD 0 0 : Nat) : Int) = V.int 37) ↔ c = 37 := by
      show (V.int ((c : Nat) : Int) = V.int 37) ↔ c = 37
      exact ⟨fun z => by have := V.int.inj z; omega, fun z => by rw [z]; rfl⟩
    unfold sgnOk
    rw [decide_eq_false h1, decide_eq_false h2, decide_eq_decide.mpr e]; rfl
  rw [ev] at q
  exact ⟨rfl, q⟩
theorem ok_is_name (F : Fun K "is_name" "is_name" sis_name f fd) (G_Pis_sign : Has P w K mg base "_is_sign" pPis_sign 1 spIsSign) (m_isinstance : mg "isinstance" = none) (m_str : mg "str" = none) (m_len : mg "len" = none) (m_all : mg "all" = none) (gM : ∃ t, mg "MOST_SIGNS" = some (.int 40 t)) :
    FnOk P w K mg base CX0 2 f fd pis_name (spIsName K) := by
  obtain ⟨tM, gM⟩ := gM
  refine F.ok cis_name (fun vs H Q E h => ?_) (fun cdv A outer s H vs Q E hr h => ?_)
  · obtain ⟨v, rfl, _⟩ := h
    rfl
  obtain ⟨v, rfl, h⟩ := h
  refine ⟨_, (pss_cons (ps_if (PW.pt (pw_or (pt_not (pt_val (pe_callB call_isi (by rfl) m_isinstance (by decide +kernel) (pa_cons (pv 0) (pa_cons (pe_bltn rfl m_str (by decide +kernel) (v := .ty "str") rfl) pa_nil))))) (pw_or1 (pt_cmpR op_gt (pe_callB call_len_str (by rfl) m_len (by decide +kernel) (pa_cons (pv 0) pa_nil)) (pe_glob (v := .int 40) (by rfl) gM ⟨_, rfl⟩) (nomark _))))) (pss_one (ps_ret pe_bl)) pss_nil)
    (pss_one (ps_ret (pe_callB (cr_all (by rfl)) (by rfl) m_all (by decide +kernel) (pa_cons (pe_lc (own := [("sign", 1)]) (g := gName 1) (by rfl) cis_name.nd (pi_str (pv 0)) (blkOk_by (own := [("sign", 1)]) (N := ["thing", "sign"]) (sc := defScope sis_name) (by decide +kernel)) (fun _ _ _ _ _ => pg_name (i := 1) cis_name.nd rfl (Or.inl rfl)) (fun _ _ _ _ _ => pts_nil) (fun _ _ _ _ _ => (pe_has G_Pis_sign hr (by omega) (pa_cons (pv 1) pa_nil)))) pa_nil))))), ?_⟩
  rcases h with ⟨x, rfl, xl, q⟩ | ⟨T, ty, hT, q⟩
  · refine ⟨_, rfl, _, _, _, _, true, rfl, .ty "str", .base (.str _), kit_ty (by decide +kernel), ?_⟩
    have zx : (st x).length ≤ sizeLine := by rw [st_len]; exact smallZ (by omega)
    refine ⟨true, rfl, iteF ?_⟩
    refine ⟨_, rfl, _, rfl, zx, _, _, rfl, rfl, _, rfl, ?_⟩
    rw [st_len]
    by_cases h : x.length ≤ 40
    · rw [decide_eq_false (by omega)]
      refine iteF ?_
      refine ⟨_, rfl, st x, rfl, fun D nD => lc_it (walk_str (z := st x)) (fun i H' => LcB K H D x i H') (lcb0 nD) (fun _ _ _ _ => trivial) (fun i y H1 H2 hi h1 hy => ?_) (fun H1 h1 => ?_)⟩
      · obtain ⟨rfl, c, hc, rfl⟩ := hy
        have hc' : x[i]? = some c := by simpa using hc
        refine ⟨rfl, yes_if ?_⟩
        refine ⟨_, rfl, c, rfl, ?_⟩
        exact lcb_add h1 nD hc' (by have : (st x).cps.size = x.length := by simp
                                    omega)
      · have h1 : LcB K H D x x.length H1 := by
          have : (st x).cps.size = x.length := by simp
          rw [this] at h1; exact h1
        obtain ⟨s1, e1⟩ := h1
        rw [List.take_length] at e1
        refine ⟨D, x.map sgnOk, rfl, SqL.of e1, ?_⟩
        have ev : isNm x = (x.map sgnOk).all id := by unfold isNm; rw [decide_eq_true h, Bool.true_and, all_id]
        rw [← ev]
        exact q _ s1
    · rw [decide_eq_true (by omega)]
      refine iteT ?_
      have := q H (Same.refl H)
      rw [isNm_long (by omega)] at this
      exact this
  · refine ⟨_, rfl, _, _, _, _, false, rfl, .ty "str", ty, kit_ty hT, ?_⟩
    exact ⟨false, rfl, iteT q⟩
theorem ok_common (F : Fun K "common" "common" scommon f fd) (m_zip : mg "zip" = none) :
    FnOk P w K mg base CX0 1 f fd pcommon (spCommon) := by
  refine F.ok ccommon (fun vs H Q E h => ?_) (fun cdv A outer s H vs Q E hr h => ?_)
  · obtain ⟨a, b, rfl, _⟩ := h
    rfl
  obtain ⟨a, b, rfl, ha, hb, q⟩ := h
  refine ⟨_, (pss_cons (ps_set (i := 2) ccommon.nd rfl (Or.inl rfl) pe_int)
    (pss_cons (ps_for PassesOwn.never rfl (pi_zipS (by rfl) m_zip (pa_cons (pv 0) (pa_cons (pv 1) pa_nil))) (pg_tup (by rfl) (pgs_cons (pg_name (i := 3) ccommon.nd rfl (Or.inl rfl)) (pgs_cons (pg_name (i := 4) ccommon.nd rfl (Or.inl rfl)) pgs_nil))) (pss_cons (ps_if (pt_cmpR op_ne (pv 3) (pv 4) (nomark _)) (pss_one ps_break) pss_nil)
    (pss_one (ps_aug (i := 2) ccommon.nd rfl (.inl rfl) pe_int ip_add))))
    (pss_one (ps_ret (pe_slice sl_str (pv 0) po_none (po_some (pv 2))))))), ?_⟩
  have hza : (st a).length ≤ sizeLine := by rw [st_len]; exact smallZ (by omega)
  have fin : ∀ (i : Nat) y3 y4 H', Same H H' → lcp a b = i → tRet (tSl rSlS (tVar 0) tNoPart (tPart (tVar 2))) { nx := fun x H' => Q V.non H', rt := Q } [some (.str (st a)), some (.str (st b)), some (.int i), y3, y4] H' := fun i y3 y4 H' s1 e => by
    subst e
    refine ⟨_, rfl, _, rfl, _, rfl, _, rfl, hza, ?_⟩
    rw [cut_to]
    exact q H' s1
  refine ⟨_, rfl, _, rfl, st a, st b, rfl, fun i m σ H' => ∃ y3 y4, m = a.length - i ∧ i ≤ a.length ∧ i ≤ b.length ∧ a.take i = b.take i ∧ σ = [some (.str (st a)), some (.str (st b)), some (.int i), y3, y4] ∧ Same H H', ⟨_, none, none, rfl, by omega, by omega, rfl, rfl, Same.refl H⟩, ?_⟩
  rintro i m σ H1 ⟨y3, y4, rfl, h1, h2, h3, rfl, s1⟩
  by_cases hi : i = min a.length b.length
  · have hst : i = min (st a).cps.size (st b).cps.size := by simpa using hi
    exact .inl ⟨hst, fin i y3 y4 H1 s1 (lcp_of h3 h1 h2 (by omega))⟩
  · have hia : i < a.length := by omega
    have hib : i < b.length := by omega
    refine .inr ⟨⟨by simpa using hia, by simpa using hib⟩, fun σ' H' => ∃ y3 y4, a.take (i + 1) = b.take (i + 1) ∧ σ' = [some (.str (st a)), some (.str (st b)), some (.int ((i + 1 : Nat) : Int)), y3, y4] ∧ Same H H', fun σ' H' hN => ?_, fun x H' hy => ?_⟩
    · obtain ⟨z3, z4, g1, rfl, g2⟩ := hN
      exact ⟨_, by omega, z3, z4, rfl, by omega, by omega, g1, rfl, g2⟩
    · obtain ⟨T, c, d, rfl, nT, rfl, hc, hd⟩ := hy
      have hc' : a[i]? = some c := by simpa using hc
      have hd' : b[i]? = some d := by simpa using hd
      refine ⟨T, [.str ⟨#[c]⟩, .str ⟨#[d]⟩], rfl, .inl (.inl upd_same), rfl, .str ⟨#[c]⟩, [.str ⟨#[d]⟩], rfl, .str ⟨#[d]⟩, [], rfl, rfl, ?_⟩
      refine ⟨_, rfl, _, rfl, rfl, _, rfl, ?_⟩
      refine ite2 (fun z => ?_) (fun z => ?_)
      · have z' : ¬ V.str (st [c]) = V.str (st [d]) := fun e => by rw [show (V.str ⟨#[c]⟩ = V.str ⟨#[d]⟩) from e] at z; simp at z
        have e : lcp a b = i := lcp_of h3 h1 h2 (.inr (.inr fun e => z' (by rw [hc', hd'] at e; rw [Option.some.inj e])))
        exact fin i _ _ _ (s1.trans (same_new nT _)) e
      · have z' : V.str (st [c]) = V.str (st [d]) := by
          refine Decidable.byContradiction fun e => z ?_
          show (!decide (V.str (st [c]) = V.str (st [d]))) = true
          rw [decide_eq_false e]; rfl
        have e : c = d := by have := st_iff.mp z'; simpa using this
        subst e
        refine ⟨_, rfl, _, _, rfl, rfl, some (.str ⟨#[c]⟩), some (.str ⟨#[c]⟩), take_grow h3 hc' hd', ?_, s1.trans (same_new nT _)⟩
        rfl
theorem ok_rest (F : Fun K "rest" "rest" srest f fd) (m_len : mg "len" = none) :
    FnOk P w K mg base CX0 1 f fd prest (spRest) := by
  refine F.ok crest (fun vs H Q E h => ?_) (fun cdv A outer s H vs Q E hr h => ?_)
  · obtain ⟨a, b, rfl, _⟩ := h
    rfl
  obtain ⟨a, b, rfl, ha, hb, q⟩ := h
  refine ⟨_, (pss_cons (ps_if (pt_not (pt_val (pe_m1 PySem.F.slot_str_startswith PySem.F.type_str_startswith mt_startswith (pv 0) (pv 1)))) (pss_one (ps_ret pe_non)) pss_nil)
    (pss_one (ps_ret (pe_slice sl_str (pv 0) (po_some (pe_callB call_len_str (by rfl) m_len (by decide +kernel) (pa_cons (pv 1) pa_nil))) po_none)))), ?_⟩
  have hza : (st a).length ≤ sizeLine := by rw [st_len]; exact smallZ (by omega)
  have hzb : (st b).length ≤ sizeLine := by rw [st_len]; exact smallZ (by omega)
  refine ⟨_, rfl, ⟨_, rfl⟩, _, rfl, _, _, rfl, rfl, _, rfl, ?_⟩
  show if (!Txt.startswith (st a) (st b)) = true then _ else _
  rw [starts]
  by_cases c : b <+: a
  · rw [if_pos c] at q
    rw [decide_eq_true c]
    refine iteF ?_
    refine ⟨_, rfl, _, rfl, _, rfl, hzb, _, rfl, _, rfl, hza, ?_⟩
    rw [st_len, cut_from]
    exact q
  · rw [if_neg c] at q
    rw [decide_eq_false c]
    exact iteT q
theorem ok_inner_of (F : Fun K "inner_of" "inner_of" sinner_of f fd) :
    FnOk P w K mg base CX0 1 f fd pinner_of (spInner K) := by
  refine F.ok cinner_of (fun vs H Q E h => ?_) (fun cdv A outer s H vs Q E hr h => ?_)
  · obtain ⟨v, bs, s, rfl, _⟩ := h
    rfl
  obtain ⟨v, bs, s', rfl, hv, q⟩ := h
  obtain ⟨a, xs, rfl, ha, hd⟩ := Dp_tup hv
  refine ⟨_, (pss_cons (ps_for PassesOwn.never rfl (pi_tup (pv 0)) (pg_tup (by rfl) (pgs_cons (pg_name (i := 2) cinner_of.nd rfl (Or.inl rfl)) (pgs_cons (pg_name (i := 3) cinner_of.nd rfl (Or.inl rfl)) pgs_nil))) (pss_one (ps_if (pt_cmpR op_eq (pv 2) (pv 1) (nomark _)) (pss_one (ps_ret (pv 3))) pss_nil)))
    (pss_one (ps_ret pe_non))), ?_⟩
  refine ⟨_, rfl, a, rfl, ⟨_, ha⟩, for_tup (xs := xs) (fun i σ H' => H' = H ∧ ∃ y2 y3, σ = [some (.ref a), some (.str (st s')), y2, y3] ∧ innr bs s' = innr (bs.drop i) s') ⟨rfl, none, none, rfl, rfl⟩ (fun i σ H' hi h1 => by rw [h1.1]; exact ha) (fun i x σ H' hx h1 => ?_) (fun σ H' h1 => ?_)⟩
  · obtain ⟨rfl, y2, y3, rfl, e⟩ := h1
    rw [toDs_br] at hd
    obtain ⟨b, hb, hx'⟩ := DpAll_map hd hx
    obtain ⟨p, z1, z2, rfl, hp, h1, h2⟩ := Dp_two hx'
    cases Dp_str h1
    have hlt := (List.getElem?_eq_some_iff.mp hb).1
    have ed : bs.drop i = b :: bs.drop (i + 1) := by rw [List.drop_eq_getElem_cons hlt, (List.getElem?_eq_some_iff.mp hb).2]
    refine ⟨p, _, rfl, hp, rfl, _, _, rfl, _, _, rfl, rfl, ?_⟩
    refine ⟨_, rfl, _, rfl, rfl, _, rfl, ite2 (fun z => ?_) (fun z => ?_)⟩
    · have z' : b.1 = s' := st_iff.mp (of_decide_eq_true z)
      refine ⟨_, rfl, q z2 ?_⟩
      rw [e, ed]
      obtain ⟨b1, b2⟩ := b
      unfold innr
      rw [if_pos z']
      exact h2
    · have z' : ¬ b.1 = s' := fun e => z (decide_eq_true (st_iff.mpr e))
      refine ⟨rfl, _, _, rfl, ?_⟩
      rw [e, ed]
      obtain ⟨b1, b2⟩ := b
      conv => lhs; unfold innr
      rw [if_neg z']
  · obtain ⟨rfl, y2, y3, rfl, e⟩ := h1
    refine q .non ?_
    rw [e, List.drop_of_length_le (by rw [DpAll_len hd, toDs_br, List.length_map]; exact Nat.le_refl _)]
    exact .non
theorem ok_placed (F : Fun K "placed" "placed" splaced f fd) (m_tuple : mg "tuple" = none) :
    FnOk P w K mg base CX0 1 f fd pplaced (spPlaced K) := by
  refine F.ok cplaced (fun vs H Q E h => ?_) (fun cdv A outer s H vs Q E hr h => ?_)
  · obtain ⟨v, u, bs, b, rfl, _⟩ := h
    rfl
  obtain ⟨v, u, bs, b, rfl, hv, hu, hl, q⟩ := h
  obtain ⟨a, xs, rfl, ha, hd⟩ := Dp_tup hv
  rw [toDs_br] at hd
  have hlen : xs.length = bs.length := by rw [DpAll_len hd, List.length_map]
  obtain ⟨p, z1, z2, rfl, hp, h1, h2⟩ := Dp_two hu
  cases Dp_str h1
  refine ⟨_, (pss_cons (ps_set (i := 2) cplaced.nd rfl (Or.inr rfl) (pe_ix (r := rIxT K) ix_tup (pv 1) pe_int (fun _ _ => rfl)))
    (pss_cons (ps_setLc (i := 3) (own := [("pair", 5)]) (g := gName 5) (by rfl) cplaced.nd rfl rfl (sw_true rfl rfl rfl (by decide +kernel)) (pi_tup (pv 0)) (blkOk_by (own := [("pair", 5)]) (N := ["branches", "branch", "sign", "lower", "higher", "pair"]) (sc := defScope splaced) (by decide +kernel)) (fun _ _ _ _ _ => pg_name (i := 5) cplaced.nd rfl (Or.inl rfl)) (fun _ _ _ _ _ => (pts_one (pt_cmpR op_lt_str (pe_ix (r := rIxT K) ix_tup (pv 5) pe_int (fun _ _ => rfl)) (pv 2) (nomark _)))) (fun _ _ _ _ _ => (pv 5)))
    (pss_cons (ps_setLc (i := 4) (own := [("pair", 5)]) (g := gName 5) (by rfl) cplaced.nd rfl rfl (sw_true rfl rfl rfl (by decide +kernel)) (pi_tup (pv 0)) (blkOk_by (own := [("pair", 5)]) (N := ["branches", "branch", "sign", "lower", "higher", "pair"]) (sc := defScope splaced) (by decide +kernel)) (fun _ _ _ _ _ => pg_name (i := 5) cplaced.nd rfl (Or.inl rfl)) (fun _ _ _ _ _ => (pts_one (pt_cmpR op_gt_str (pe_ix (r := rIxT K) ix_tup (pv 5) pe_int (fun _ _ => rfl)) (pv 2) (nomark _)))) (fun _ _ _ _ _ => (pv 5)))
    (pss_one (ps_ret (pe_callTy call_tuple_of (by rfl) m_tuple (by decide +kernel) (pa_cons (pe_op op_cat (pe_op op_cat (pv 3) (pe_lst (pa_cons (pv 1) pa_nil))) (pv 4)) pa_nil))))))), ?_⟩
  refine ⟨_, rfl, p, _, _, _, rfl, rfl, hp, (rfl : atI [V.str (st b.1), z2] 0 = some (V.str (st b.1))), ?_⟩
  have sq : ∀ {c : List Nat × Tr} {x : V} {H1 : Hp}, Dp K H1 x (brD c) → ∃ r w, x = .ref r ∧ SqT K H1 r [.str (st c.1), w] := fun {c x H1} hx => by
    obtain ⟨r, w1, w2, rfl, hr', g1, g2⟩ := Dp_two hx
    cases Dp_str g1
    exact ⟨r, w2, rfl, hr'⟩
  refine ⟨_, rfl, a, rfl, ⟨_, ha⟩, fun D nD => lc_tup (K := K) (xs := xs) (LcP K H D (fm bs (fun c => decide (c.1 < b.1)) brD)) (lcp0 nD rfl) (fun _ _ _ h => sameT h.1 ha) (fun i x H1 hx h1 => ?_) (fun H1 h1 => ?_)⟩
  · obtain ⟨c, hc, hx'⟩ := DpAll_map hd hx
    have hx1 := Dp_same h1.1 hx'
    obtain ⟨r, w2, rfl, hr1⟩ := sq hx1
    refine ⟨rfl, _, rfl, r, _, _, _, rfl, rfl, hr1, (rfl : atI [V.str (st c.1), w2] 0 = some (V.str (st c.1))), _, rfl, _, _, rfl, rfl, _, rfl, ?_⟩
    have ed : decide ((st c.1).cps.toList < (st b.1).cps.toList) = decide (c.1 < b.1) := by simp
    rw [ed]
    by_cases lt : c.1 < b.1
    · rw [decide_eq_true lt]
      refine iteT ⟨_, rfl, ?_⟩
      exact lcp_add h1 nD (Same.refl _) hx1 (fm_yes hc (decide_eq_true lt)) (fm_nolist brD_nolist) (brD_nolist c) (Nat.le_trans fm_len (by omega))
    · rw [decide_eq_false lt]
      exact iteF (lcp_skip h1 (Same.refl _) (fm_no hc (decide_eq_false lt)))
  rw [hlen] at h1
  obtain ⟨s1, acc1, e1, d1⟩ := h1
  rw [fm_all] at d1
  refine ⟨_, rfl, a, rfl, ⟨_, sameT s1 ha⟩, fun D2 nD2 => lc_tup (K := K) (xs := xs) (LcP K H1 D2 (fm bs (fun c => decide (b.1 < c.1)) brD)) (lcp0 nD2 rfl) (fun _ _ _ h => sameT (s1.trans h.1) ha) (fun i x H2 hx h2 => ?_) (fun H2 h2 => ?_)⟩
  · obtain ⟨c, hc, hx'⟩ := DpAll_map hd hx
    have hx1 := Dp_same (s1.trans h2.1) hx'
    obtain ⟨r, w2, rfl, hr1⟩ := sq hx1
    refine ⟨rfl, _, rfl, r, _, _, _, rfl, rfl, hr1, (rfl : atI [V.str (st c.1), w2] 0 = some (V.str (st c.1))), _, rfl, _, _, rfl, rfl, _, rfl, ?_⟩
    have ed : decide ((st b.1).cps.toList < (st c.1).cps.toList) = decide (b.1 < c.1) := by simp
    rw [ed]
    by_cases lt : b.1 < c.1
    · rw [decide_eq_true lt]
      refine iteT ⟨_, rfl, ?_⟩
      exact lcp_add h2 nD2 (Same.refl _) hx1 (fm_yes hc (decide_eq_true lt)) (fm_nolist brD_nolist) (brD_nolist c) (Nat.le_trans fm_len (by omega))
    · rw [decide_eq_false lt]
      exact iteF (lcp_skip h2 (Same.refl _) (fm_no hc (decide_eq_false lt)))
  rw [hlen] at h2
  obtain ⟨s2, acc2, e2, d2⟩ := h2
  rw [fm_all] at d2
  have l1 : acc1.length ≤ 5000 := by
    rw [DpAll_len d1, List.length_map]
    exact Nat.le_trans (List.length_filter_le _ _) hl
  have l2 : acc2.length ≤ 5000 := by
    rw [DpAll_len d2, List.length_map]
    exact Nat.le_trans (List.length_filter_le _ _) hl
  have hu2 := Dp_same (s1.trans s2) hu
  refine ⟨_, rfl, _, rfl, (by show 1 ≤ sizeLine; decide), fun L nL => ?_⟩
  refine ⟨D, L, acc1, [.ref p], rfl, rfl, (same_new nL _) _ _ (s2 _ _ e1), upd_same, ?_, fun M nM => ?_⟩
  · show acc1.length + 1 ≤ sizeLine
    exact smallZ (by omega)
  have sL := same_new nL (.lst [.ref p])
  have sM := same_new nM (.lst (acc1 ++ [.ref p]))
  refine ⟨_, rfl, M, D2, acc1 ++ [.ref p], acc2, rfl, rfl, upd_same, (sL.trans sM) _ _ e2, ?_, fun R nR => ?_⟩
  · rw [List.length_append]
    exact smallZ (by simp; omega)
  have sR := same_new nR (.lst (acc1 ++ [.ref p] ++ acc2))
  refine ⟨R, _, rfl, .inl ⟨SqL.of upd_same, fun l nl => q _ _ ((((s1.trans s2).trans (sL.trans sM)).trans sR).trans (same_new nl _)) ?_⟩⟩
  have all : DpAll K (upd (upd (upd H2 L (.lst [.ref p])) M (.lst (acc1 ++ [.ref p]))) R (.lst (acc1 ++ [.ref p] ++ acc2))) (acc1 ++ [.ref p] ++ acc2) (toDs (placed bs b)) := by
    have sx := (sL.trans sM).trans sR
    unfold placed
    rw [toDs_app, toDs_app, toDs_br, toDs_br, toDs_br]
    exact DpAll_app (DpAll_app (DpAll_same (s2.trans sx) d1) (.cons (Dp_same sx hu2) .nil)) (DpAll_same sx d2)
  exact Dp_new nl all
theorem ok_branches_behind (F : Fun K "branches_behind" "branches_behind" sbranches_behind f fd) (m_len : mg "len" = none) :
    FnOk P w K mg base CX0 1 f fd pbranches_behind (spBehind K) := by
  refine F.ok cbranches_behind (fun vs H Q E h => ?_) (fun cdv A outer s H vs Q E hr h => ?_)
  · obtain ⟨v, t, b, rfl, _⟩ := h
    rfl
  obtain ⟨v, t, b, rfl, hv, ht, hb, q⟩ := h
  refine ⟨_, (pss_cons (ps_asg (pv 0) (pg_tup (by rfl) (pgs_cons (pg_name (i := 2) cbranches_behind.nd rfl (Or.inl rfl)) (pgs_cons (pg_name (i := 3) cbranches_behind.nd rfl (Or.inl rfl)) (pgs_cons (pg_name (i := 4) cbranches_behind.nd rfl (Or.inl rfl)) pgs_nil)))))
    (pss_cons (ps_if (PW.pt (pw_and (pt_cmpR op_eq (pv 2) pe_str (nomark _)) (pw_and1 (pt_cmpR op_eq (pv 3) (pv 1) (nomark _))))) (pss_one (ps_ret (pv 4))) pss_nil)
    (pss_cons (ps_set (i := 5) cbranches_behind.nd rfl (Or.inl rfl) (pe_slice sl_str (pv 3) (po_some (pe_callB call_len_str (by rfl) m_len (by decide +kernel) (pa_cons (pv 1) pa_nil))) po_none))
    (pss_one (ps_ret (pe_tup (pa_cons (pe_tup (pa_cons (pe_slice sl_str (pv 5) po_none (po_some pe_int)) (pa_cons (pe_tup (pa_cons (pv 2) (pa_cons (pe_slice sl_str (pv 5) (po_some pe_int) po_none) (pa_cons (pv 4) pa_nil)))) pa_nil))) pa_nil))))))), ?_⟩
  obtain ⟨p, x, z, rfl, hs, hc⟩ := Dp_tree hv
  have zb : (st b).length ≤ sizeLine := by rw [st_len]; exact smallZ (by omega)
  have zt : (st t.text).length ≤ sizeLine := by rw [st_len]; exact smallZ (by omega)
  have zd : (st (t.text.drop b.length)).length ≤ sizeLine := by rw [st_len, List.length_drop]; exact smallZ (by omega)
  refine ⟨_, rfl, p, _, rfl, hs, rfl, _, _, rfl, _, _, rfl, _, _, rfl, rfl, ?_⟩
  rcases hc with ⟨n, e, rfl, rfl⟩ | ⟨bs, e, rfl, hz⟩
  · refine ⟨_, rfl, rfl, _, rfl, iteF ?_⟩
    have eb : behB t b = [brn t b.length] := beh_one (.inl ⟨n, e⟩)
    rw [eb] at q
    refine ⟨_, rfl, _, rfl, _, rfl, zb, _, rfl, _, rfl, zt, ?_⟩
    rw [st_len, cut_from]
    refine ⟨_, rfl, 1, rfl, _, rfl, zd, ?_⟩
    rw [show cutS (st (t.text.drop b.length)) none (some 1) = _ from cut_to _ 1]
    refine ⟨_, rfl, _, rfl, 1, rfl, _, rfl, zd, ?_⟩
    rw [show cutS (st (t.text.drop b.length)) (some 1) none = _ from cut_from _ 1]
    refine ⟨_, rfl, (by show 3 ≤ sizeLine; decide), fun r nr => ⟨(by show 2 ≤ sizeLine; decide), fun r2 nr2 => ⟨(by show 1 ≤ sizeLine; decide), fun r3 nr3 => q _ _ (((same_new nr _).trans (same_new nr2 _)).trans (same_new nr3 _)) ?_⟩⟩⟩
    refine Dp_new nr3 (.cons ?_ .nil)
    refine Dp_new nr2 (.cons (.str _) (.cons ?_ .nil))
    have e2 : t.setText ((t.text.drop b.length).drop 1) = .leaf ((t.text.drop b.length).drop 1) n := by rw [e]; rfl
    show Dp K _ _ (t.setText ((t.text.drop b.length).drop 1)).toD
    rw [e2]
    exact Dp_new nr (.cons (.str _) (.cons (.str _) (.cons (.int _) .nil)))
  · refine ⟨_, rfl, rfl, _, rfl, iteT ?_⟩
    refine ⟨_, rfl, _, rfl, rfl, _, rfl, ?_⟩
    by_cases c : t.text = b
    · rw [decide_eq_true (show V.str (st t.text) = V.str (st b) by rw [c])]
      have eb : behB t b = bs := by
        rw [e, c]; exact beh_all
      rw [eb] at q
      exact iteT ⟨_, rfl, q _ _ (Same.refl _) hz⟩
    · rw [decide_eq_false (fun z => c (st_iff.mp z))]
      refine iteF ?_
      have eb : behB t b = [brn t b.length] := beh_one (.inr c)
      rw [eb] at q
      refine ⟨_, rfl, _, rfl, _, rfl, zb, _, rfl, _, rfl, zt, ?_⟩
      rw [st_len, cut_from]
      refine ⟨_, rfl, 1, rfl, _, rfl, zd, ?_⟩
      rw [show cutS (st (t.text.drop b.length)) none (some 1) = _ from cut_to _ 1]
      refine ⟨_, rfl, _, rfl, 1, rfl, _, rfl, zd, ?_⟩
      rw [show cutS (st (t.text.drop b.length)) (some 1) none = _ from cut_from _ 1]
      refine ⟨_, rfl, (by show 3 ≤ sizeLine; decide), fun r nr => ⟨(by show 2 ≤ sizeLine; decide), fun r2 nr2 => ⟨(by show 1 ≤ sizeLine; decide), fun r3 nr3 => q _ _ (((same_new nr _).trans (same_new nr2 _)).trans (same_new nr3 _)) ?_⟩⟩⟩
      refine Dp_new nr3 (.cons ?_ .nil)
      refine Dp_new nr2 (.cons (.str _) (.cons ?_ .nil))
      have e2 : t.setText ((t.text.drop b.length).drop 1) = .fork ((t.text.drop b.length).drop 1) bs := by rw [e]; rfl
      show Dp K _ _ (t.setText ((t.text.drop b.length).drop 1)).toD
      rw [e2]
      exact Dp_new nr (.cons (.str _) (.cons (.str _) (.cons hz .nil)))
theorem ok_replaced (F : Fun K "replaced" "replaced" sreplaced f fd)
    (G_placed : Has P w K mg base "placed" pplaced 1 (spPlaced K)) (m_len : mg "len" = none) (m_tuple : mg "tuple" = none) :
    FnOk P w K mg base CX0 2 f fd preplaced (spReplaced K) := by
  refine F.ok creplaced (fun vs H Q E h => ?_) (fun cdv A outer s H vs Q E hr h => ?_)
  · obtain ⟨v, u, t, bs, s', o, rfl, _⟩ := h
    rfl
  obtain ⟨v, u, t, bs, s', o, rfl, hv, hu, hl, ht, hs, hb, hne, q⟩ := h
  refine ⟨_, (pss_cons (ps_asg (pv 0) (pg_tup (by rfl) (pgs_cons (pg_name (i := 3) creplaced.nd rfl (Or.inl rfl)) (pgs_cons (pg_name (i := 4) creplaced.nd rfl (Or.inl rfl)) (pgs_cons (pg_name (i := 5) creplaced.nd rfl (Or.inl rfl)) pgs_nil)))))
    (pss_cons (ps_if (pt_cmpR op_notN (pv 2) pe_non (nomark _)) (pss_one (ps_ret (pe_tup (pa_cons pe_str (pa_cons (pv 4) (pa_cons (pe_has G_placed hr (by omega) (pa_cons (pv 5) (pa_cons (pe_tup (pa_cons (pv 1) (pa_cons (pv 2) pa_nil))) pa_nil))) pa_nil)))))) pss_nil)
    (pss_cons (ps_setLc (i := 6) (own := [("branch", 11)]) (g := gName 11) (by rfl) creplaced.nd rfl rfl (sw_true rfl rfl rfl (by decide +kernel)) (pi_tup (pv 5)) (blkOk_by (own := [("branch", 11)]) (N := ["fork", "sign", "inner", "_", "shared", "branches", "left", "last_sign", "kind", "text", "held", "branch"]) (sc := defScope sreplaced) (by decide +kernel)) (fun _ _ _ _ _ => pg_name (i := 11) creplaced.nd rfl (Or.inl rfl)) (fun _ _ _ _ _ => (pts_one (pt_cmpR op_ne (pe_ix (r := rIxT K) ix_tup (pv 11) pe_int (fun _ _ => rfl)) (pv 1) (nomark _)))) (fun _ _ _ _ _ => (pv 11)))
    (pss_cons (ps_if (pt_cmpR op_gt (pe_callB call_len_seq (by rfl) m_len (by decide +kernel) (pa_cons (pv 6) pa_nil)) pe_int (nomark _)) (pss_one (ps_ret (pe_tup (pa_cons pe_str (pa_cons (pv 4) (pa_cons (pe_callTy call_tuple_of (by rfl) m_tuple (by decide +kernel) (pa_cons (pv 6) pa_nil)) pa_nil)))))) pss_nil)
    (pss_cons (ps_asg (pe_ix (r := rIxL K) ix_list (pv 6) pe_int (fun _ _ => rfl)) (pg_tup (by rfl) (pgs_cons (pg_name (i := 7) creplaced.nd rfl (Or.inl rfl)) (pgs_cons (pg_tup (by rfl) (pgs_cons (pg_name (i := 8) creplaced.nd rfl (Or.inl rfl)) (pgs_cons (pg_name (i := 9) creplaced.nd rfl (Or.inl rfl)) (pgs_cons (pg_name (i := 10) creplaced.nd rfl (Or.inl rfl)) pgs_nil)))) pgs_nil))))
    (pss_one (ps_ret (pe_tup (pa_cons (pv 8) (pa_cons (pe_op op_add_str (pe_op op_add_str (pv 4) (pv 7)) (pv 9)) (pa_cons (pv 10) pa_nil))))))))))), ?_⟩
  obtain ⟨p, x1, x2, z, rfl, hp, g1, g2, g3⟩ := Dp_three hv
  cases Dp_str g1
  cases Dp_str g2
  refine ⟨_, rfl, p, _, rfl, hp, rfl, _, _, rfl, _, _, rfl, _, _, rfl, rfl, ?_⟩
  cases o with
  | some u2 =>
    have nn : decide (u = V.non) = false := decide_eq_false fun e => by
      rw [e] at hu
      have hu : Dp K H .non u2.toD := hu
      cases u2 <;> · simp only [Tr.toD] at hu; obtain ⟨_, _, e, _⟩ := Dp_tup hu; cases e
    refine ⟨_, rfl, rfl, _, rfl, ?_⟩
    show if (!decide (u = V.non)) = true then _ else _
    rw [nn]
    refine iteT ?_
    refine ⟨_, rfl, _, rfl, _, rfl, _, rfl, (by show 2 ≤ sizeLine; decide), fun m nm => ?_⟩
    have sm := same_new nm (.tup [.str (st s'), u])
    refine ⟨z, .ref m, bs, (s', u2), rfl, Dp_same sm g3, Dp_new nm (.cons (.str _) (.cons hu .nil)), hl, fun u4 H4 s4 hu4 => ⟨(by show 3 ≤ sizeLine; decide), fun c nc => q _ _ ((sm.trans s4).trans (same_new nc _)) ?_⟩⟩
    exact Dp_new nc (.cons (.str _) (.cons (.str _) (.cons hu4 .nil)))
  | none =>
    cases Dp_non hu
    refine ⟨_, rfl, rfl, _, rfl, iteF ?_⟩
    obtain ⟨a, xs, rfl, ha, hda⟩ := Dp_tup g3
    rw [toDs_br] at hda
    have hxl : xs.length = bs.length := by rw [DpAll_len hda, List.length_map]
    refine ⟨_, rfl, a, rfl, ⟨_, ha⟩, fun D nD => lc_tup (K := K) (xs := xs) (LcP K H D (fm bs (fun c => !decide (c.1 = s')) brD)) (lcp0 nD rfl) (fun _ _ _ h => sameT h.1 ha) (fun i c H2 hc h2 => ?_) (fun H2 h2 => ?_)⟩
    · obtain ⟨d, hd', hx'⟩ := DpAll_map hda hc
      have hx1 := Dp_same h2.1 hx'
      obtain ⟨r, w1, w2, rfl, hr1, j1, j2⟩ := Dp_two hx1
      cases Dp_str j1
      refine ⟨rfl, _, rfl, r, _, _, _, rfl, rfl, hr1, (rfl : atI [V.str (st d.1), w2] 0 = some (V.str (st d.1))), _, rfl, rfl, _, rfl, ?_⟩
      have ed' : decide (V.str (st d.1) = V.str (st s')) = decide (d.1 = s') := decide_eq_decide.mpr st_iff
      rw [ed']
      by_cases e : d.1 = s'
      · rw [decide_eq_true e]
        exact iteF (lcp_skip h2 (Same.refl _) (fm_no hd' (by simp [e])))
      · rw [decide_eq_false e]
        refine iteT ⟨_, rfl, ?_⟩
        exact lcp_add h2 nD (Same.refl _) hx1 (fm_yes hd' (by simp [e])) (fm_nolist brD_nolist) (brD_nolist d) (Nat.le_trans fm_len (by omega))
    rw [hxl] at h2
    obtain ⟨s2, acc, e2, d2⟩ := h2
    rw [fm_all] at d2
    have fne := hne rfl
    have hb' : ∀ b ∈ bs.filter (fun c => !decide (c.1 = s')), b.1.length ≤ 1 ∧ b.2.text.length ≤ 1000 := fun b hb2 => hb b (List.mem_filter.mp hb2).1
    have eq0 : repl t bs s' none = knt t (bs.filter fun c => !decide (c.1 = s')) := rfl
    rw [eq0] at q
    generalize bs.filter (fun c => !decide (c.1 = s')) = fs at q d2 fne hb'
    have al : acc.length = fs.length := by rw [DpAll_len d2, List.length_map]
    refine ⟨_, rfl, D, acc, rfl, .inl (SqL.of e2), _, _, rfl, rfl, _, rfl, ?_⟩
    rw [al]
    match fs, fne, d2, hb', q with
    | [b], _, d2, hb', q =>
      rw [decide_eq_false (by simp)]
      refine iteF ?_
      obtain ⟨x, xr, rfl, hx, hxr⟩ := DpAll_cons d2
      cases DpAll_nil hxr
      obtain ⟨r, w1, w2, rfl, hr1, j1, j2⟩ := Dp_two hx
      cases Dp_str j1
      obtain ⟨b1, b2⟩ := hb' b (List.mem_cons_self ..)
      obtain ⟨p3, kd, z3, rfl, hs3, hc3⟩ := Dp_tree j2
      refine ⟨_, rfl, D, _, _, .ref r, rfl, rfl, SqL.of e2, (atI_nat (j := 0) rfl), r, _, rfl, hr1, rfl, _, _, rfl, _, _, rfl, p3, _, rfl, hs3, rfl, _, _, rfl, _, _, rfl, _, _, rfl, rfl, rfl, ?_⟩
      refine ⟨_, rfl, _, rfl, _, rfl, _, _, rfl, rfl, ?_, ?_⟩
      · rw [st_len, st_len]; exact smallZ (by omega)
      rw [st_add]
      refine ⟨_, rfl, _, _, rfl, rfl, ?_, ?_⟩
      · rw [st_len, st_len, List.length_append]; exact smallZ (by omega)
      rw [st_add]
      refine ⟨_, rfl, (by show 3 ≤ sizeLine; decide), fun m nm => q _ _ (s2.trans (same_new nm _)) ?_⟩
      show Dp K _ _ (b.2.ahd (t ++ b.1)).toD
      rcases hc3 with ⟨k, e, rfl, rfl⟩ | ⟨ds, e, rfl, hz⟩
      · rw [e]; exact Dp_new nm (.cons (.str _) (.cons (.str _) (.cons (.int _) .nil)))
      · rw [e]; exact Dp_new nm (.cons (.str _) (.cons (.str _) (.cons hz .nil)))
    | b :: c :: r, _, d2, _, q =>
      rw [decide_eq_true (by simp; omega)]
      refine iteT ?_
      refine ⟨_, rfl, _, rfl, D, acc, rfl, .inl ⟨SqL.of e2, fun l nl => ?_⟩⟩
      refine ⟨(by show 3 ≤ sizeLine; decide), fun m nm => q _ _ (s2.trans ((same_new nl _).trans (same_new nm _))) ?_⟩
      show Dp K _ _ (Tr.fork t (b :: c :: r)).toD
      refine Dp_new nm (.cons (.str _) (.cons (.str _) (.cons (Dp_new nl ?_) .nil)))
      rw [toDs_br]; exact d2
theorem ok_ahead (F : Fun K "ahead" "ahead" sahead f fd) :
    FnOk P w K mg base CX0 1 f fd pahead (spAhead K) := by
  refine F.ok cahead (fun vs H Q E h => ?_) (fun cdv A outer s H vs Q E hr h => ?_)
  · obtain ⟨v, o, b, rfl, _⟩ := h
    rfl
  obtain ⟨v, o, b, rfl, hv, hb, ht, q⟩ := h
  refine ⟨_, (pss_cons (ps_if (pt_cmpR op_isN (pv 0) pe_non (nomark _)) (pss_one (ps_ret pe_non)) pss_nil)
    (pss_cons (ps_asg (pv 0) (pg_tup (by rfl) (pgs_cons (pg_name (i := 2) cahead.nd rfl (Or.inl rfl)) (pgs_cons (pg_name (i := 3) cahead.nd rfl (Or.inl rfl)) (pgs_cons (pg_name (i := 4) cahead.nd rfl (Or.inl rfl)) pgs_nil)))))
    (pss_one (ps_ret (pe_tup (pa_cons (pv 2) (pa_cons (pe_op op_add_str (pv 1) (pv 3)) (pa_cons (pv 4) pa_nil)))))))), ?_⟩
  cases o with
  | none =>
    cases Dp_non hv
    exact ⟨_, rfl, rfl, _, rfl, iteT (q .non H (Same.refl H) .non)⟩
  | some t =>
    have hl := ht t rfl
    obtain ⟨p, x, z, rfl, hs, hc⟩ := Dp_tree hv
    refine ⟨_, rfl, rfl, _, rfl, iteF ?_⟩
    refine ⟨_, rfl, p, _, rfl, hs, rfl, _, _, rfl, _, _, rfl, _, _, rfl, rfl, ?_⟩
    refine ⟨_, rfl, _, rfl, _, rfl, _, _, rfl, rfl, ?_, _, rfl, (by show 3 ≤ sizeLine; decide), fun r hr' => ?_⟩
    · rw [st_len, st_len]; exact smallZ (by omega)
    rw [st_add]
    refine q _ _ (same_new hr' _) ?_
    rcases hc with ⟨n, e, rfl, rfl⟩ | ⟨bs, e, rfl, hz⟩
    · rw [e]
      exact Dp_new hr' (.cons (.str _) (.cons (.str _) (.cons (.int _) .nil)))
    · rw [e]
      exact Dp_new hr' (.cons (.str _) (.cons (.str _) (.cons hz .nil)))
theorem ok_names0 : FnOk P w K mg base CX0 0 f fd pnames (spNames K 0) := by
  have no : ∀ vs H Q E, ¬ spNames K 0 vs H Q E := fun vs H Q E h => by
    obtain ⟨v, o, _, _, _, h5, _⟩ := h
    omega
  exact ⟨fun vs H Q E h => absurd h (no vs H Q E), fun A outer s H args us vs Q E _ _ _ _ h => absurd h (no vs H Q E)⟩
theorem ok_names1 {n : Nat} (F : Fun K "names" "names" snames f fd) (G_names : Has P w K mg base "names" pnames (n + 1) (spNames K n)) :
    FnOk P w K mg base CX0 (n + 2) f fd pnames (spNames K (n + 1)) := by
  refine F.ok cnames (fun vs H Q E h => ?_) (fun cdv A outer s H vs Q E hr h => ?_)
  · obtain ⟨v, o, rfl, _⟩ := h
    rfl
  obtain ⟨v, o, rfl, hv, hf, hd, q⟩ := h
  refine ⟨_, (pss_cons (ps_if (pt_cmpR op_isN (pv 0) pe_non (nomark _)) (pss_one (ps_ret (pe_lst pa_nil))) pss_nil)
    (pss_cons (ps_asg (pv 0) (pg_tup (by rfl) (pgs_cons (pg_name (i := 1) cnames.nd rfl (Or.inl rfl)) (pgs_cons (pg_name (i := 2) cnames.nd rfl (Or.inr rfl)) (pgs_cons (pg_name (i := 3) cnames.nd rfl (Or.inl rfl)) pgs_nil)))))
    (pss_cons (ps_if (pt_cmpR op_eq (pv 1) pe_str (nomark _)) (pss_one (ps_ret (pe_lst (pa_cons (pe_tup (pa_cons (pv 2) (pa_cons (pv 3) pa_nil))) pa_nil)))) pss_nil)
    (pss_cons (ps_set (i := 4) cnames.nd rfl (Or.inl rfl) (pe_lst pa_nil))
    (C8.pss_cut (ps_for PassesOwn.never rfl (pi_tup (pv 3)) (pg_tup (by rfl) (pgs_cons (pg_name (i := 5) cnames.nd rfl (Or.inr rfl)) (pgs_cons (pg_name (i := 6) cnames.nd rfl (Or.inl rfl)) pgs_nil))) (pss_one (ps_expr (pe_bm PySem.F.plainAttrs_list PySem.F.slot_list_extend PySem.F.type_list_extend mt_extend (pv 4) (pa_cons (pe_lc (own := [("name", 7), ("number", 8)]) (g := (gTup K 2 (gCons (gName 7) (gCons (gName 8) gNil)))) (by rfl) cnames.nd (pi_list (pe_has G_names hr (by omega) (pa_cons (pv 6) pa_nil))) (blkOk_by (own := [("name", 7), ("number", 8)]) (N := ["tree", "kind", "text", "held", "pairs", "sign", "inner", "name", "number"]) (sc := defScope snames) (by decide +kernel)) (fun _ _ _ _ _ => pg_tup rfl (pgs_cons (pg_name (i := 7) cnames.nd rfl (Or.inl rfl)) (pgs_cons (pg_name (i := 8) cnames.nd rfl (Or.inl rfl)) pgs_nil))) (fun _ _ _ _ _ => pts_nil) (fun _ _ _ _ _ => (pe_tup (pa_cons (pe_op op_add_str (pe_op op_add_str (pv 2) (pv 5)) (pv 7)) (pa_cons (pv 8) pa_nil))))) pa_nil)))))
    (pss_one (ps_ret (pv 4)))))))), ?_⟩
  cases o with
  | none =>
    cases Dp_non hv
    exact ⟨_, rfl, rfl, _, rfl, iteT ⟨(by show 0 ≤ sizeLine; decide), fun L nL => q L [] _ nL (same_new nL _) upd_same .nil⟩⟩
  | some t =>
    have ft := hf t rfl
    have tl := ft.text
    obtain ⟨p, kd, z, rfl, hs, hc⟩ := Dp_tree hv
    refine ⟨_, rfl, rfl, _, rfl, iteF ?_⟩
    refine ⟨_, rfl, p, _, rfl, hs, rfl, _, _, rfl, _, _, rfl, _, _, rfl, rfl, ?_⟩
    rcases hc with ⟨m, e, rfl, rfl⟩ | ⟨bs, e, rfl, hz⟩
    · refine ⟨_, rfl, rfl, _, rfl, iteT ?_⟩
      refine ⟨_, rfl, _, rfl, (by show 2 ≤ sizeLine; decide), fun c nc => ⟨(by show 1 ≤ sizeLine; decide), fun L nL => q L [.ref c] _ (none_back (same_new nc _) nL) ((same_new nc _).trans (same_new nL _)) upd_same ?_⟩⟩
      have e2 : rowsOf Tr.rws (some t) = [(t.text, m)] := by rw [e]; rfl
      rw [e2]
      exact .cons (Dp_same (same_new nL _) (Dp_new nc (.cons (.str _) (.cons (.int _) .nil)))) .nil
    · refine ⟨_, rfl, rfl, _, rfl, iteF ?_⟩
      have fb : Fits (.fork t.text bs) := by rw [← e]; exact ft
      have e2 : rowsOf Tr.rws (some t) = ([] : List Row) ++ (gat Tr.rws bs).map (pre t.text) := by rw [e]; show (rwss bs).map (pre t.text) = _; rw [gat_rws]; rfl
      rw [e2] at q
      have gs : (gat Tr.rws bs).length ≤ 10000 := gat_small (g := 0) (fun t bs => by show ((rwss bs).map (pre t)).length = _; rw [List.length_map, gat_rws]; omega) bnd_rws fb
      obtain ⟨a, xs, rfl, ha, hdx⟩ := Dp_tup hz
      rw [toDs_br] at hdx
      have hxl : xs.length = bs.length := by rw [DpAll_len hdx, List.length_map]
      refine ⟨(by show 0 ≤ sizeLine; decide), fun L nL => ?_⟩
      refine ⟨fun σ' H' => ∃ (y5 y6 : Option V) (acc : List V), σ' = [some (.ref p), some (.str (Str.ofString "fork")), some (.str (st t.text)), some (.ref a), some (.ref L), y5, y6, none, none] ∧ Same H H' ∧ H' L = some (.lst acc) ∧ DpAll K H' acc ((([] : List Row) ++ (gat Tr.rws bs).map (pre t.text)).map rowD), ?_, ?_⟩
      · refine ⟨_, rfl, a, rfl, ⟨_, sameT (same_new nL _) ha⟩, for_tup (xs := xs) (fun i σ H' => ∃ (y5 y6 : Option V) (acc : List V), σ = [some (.ref p), some (.str (Str.ofString "fork")), some (.str (st t.text)), some (.ref a), some (.ref L), y5, y6, none, none] ∧ Same H H' ∧ H' L = some (.lst acc) ∧ DpAll K H' acc ((([] : List Row) ++ (gat Tr.rws (bs.take i)).map (pre t.text)).map rowD))
          ⟨none, none, [], rfl, same_new nL _, upd_same, .nil⟩ (fun i σ H' hi h1 => ?_) (fun i x σ H' hx h1 => ?_) (fun σ H' h1 => ?_)⟩
        · obtain ⟨y5, y6, acc, rfl, s1, _⟩ := h1
          exact sameT s1 ha
        · obtain ⟨y5, y6, acc, rfl, s1, hL, hacc⟩ := h1
          obtain ⟨b, hb, hx0⟩ := DpAll_map hdx hx
          have hx1 := Dp_same s1 hx0
          obtain ⟨pb, z1, z2, rfl, hp, h1, h2⟩ := Dp_two hx1
          cases Dp_str h1
          have hbm : b ∈ bs := List.mem_of_getElem? hb
          obtain ⟨fs, ds, ls⟩ := fb.sub hbm
          have hdt : t.deep < n + 1 := hd
          rw [e] at hdt
          have small := (bnd_rws b.2 fs).1
          have zlen := (bnd_rws b.2 fs).2
          refine ⟨pb, _, rfl, hp, rfl, _, _, rfl, _, _, rfl, rfl, ?_⟩
          refine ⟨_, rfl, .inl ⟨rfl, _, SqL.of hL⟩, _, rfl, z2, some b.2, rfl, h2, (fun u hu => by cases hu; exact fs), (show b.2.deep < n by omega), fun M zs H1 nM sM eM dM => ⟨M, rfl, ⟨_, SqL.of eM⟩, fun D nD => lc_list (K := K) (xs := zs) (LcP K H1 D (fm (Tr.rws b.2) (fun _ => true) (fun r => rowD (pre (t.text ++ b.1) r)))) (lcp0 nD rfl) (fun _ _ _ h => h.1.seq (SqL.of eM)) (fun j y H2 hy h2 => ?_) (fun H2 h2 => ?_)⟩⟩
          · obtain ⟨r, hr, hxr⟩ := DpAll_map dM hy
            have hx2 := Dp_same h2.1 hxr
            obtain ⟨pr, w1, w2, rfl, hpr, g1, g2⟩ := Dp_two hx2
            cases Dp_str g1
            have rl := small r (List.mem_of_getElem? hr)
            refine ⟨pr, _, rfl, hpr, rfl, _, _, rfl, _, _, rfl, rfl, ?_⟩
            refine ⟨rfl, yes_if ?_⟩
            refine ⟨_, rfl, _, rfl, _, _, rfl, rfl, ?_, ?_⟩
            · rw [st_len, st_len]; exact smallZ (by omega)
            rw [st_add]
            refine ⟨_, rfl, _, _, rfl, rfl, ?_, ?_⟩
            · rw [st_len, st_len, List.length_append]; exact smallZ (by omega)
            rw [st_add]
            refine ⟨_, rfl, (by show 2 ≤ sizeLine; decide), fun c nc => ?_⟩
            exact lcp_add h2 nD (same_new nc _) (Dp_new nc (.cons (.str _) (.cons g2 .nil))) (fm_yes hr rfl) (fm_nolist fun _ => rfl) rfl (Nat.le_trans fm_len (by omega))
          have zl : zs.length = (Tr.rws b.2).length := by rw [DpAll_len dM]; show ((Tr.rws b.2).map rowD).length = _; rw [List.length_map]
          rw [zl] at h2
          obtain ⟨s2, acc2, e2', d2⟩ := h2
          rw [fm_true] at d2
          have d2' : DpAll K H2 acc2 ((((Tr.rws b.2).map (pre b.1)).map (pre t.text)).map rowD) := by
            rw [pre_pre, List.map_map]; exact d2
          obtain ⟨g1, g2, g3⟩ := list_grow nL s1 (sM.trans s2) hL hacc d2'
          have gt := gat_take Tr.rws bs i
          refine ⟨L, D, acc, acc2, rfl, rfl, (sM.trans s2) _ _ hL, e2', ?_, ?_⟩
          · have l1 := DpAll_len hacc
            have l2 := DpAll_len d2'
            simp only [List.length_map, List.length_append, List.length_cons, List.length_nil] at l1 l2
            exact smallZ (by omega)
          · refine ⟨_, _, acc ++ acc2, rfl, g1, g2, ?_⟩
            rw [gat_next hb, List.map_append (f := pre t.text), ← List.append_assoc]
            exact g3
        · obtain ⟨y5, y6, acc, rfl, s1, hL, hacc⟩ := h1
          rw [hxl, List.take_length] at hacc
          exact ⟨y5, y6, acc, rfl, s1, hL, hacc⟩
      · rintro σ' H' ⟨y5, y6, acc, rfl, s1, hL, hacc⟩
        exact ⟨_, rfl, q L acc H' nL s1 hL hacc⟩
theorem has_names (D : DefAt K mg "names" snames f fd) (b : Binds K fd pnames []) : ∀ n, Has P w K mg base "names" pnames (n + 1) (spNames K n)
  | 0 => (D.has b ok_names0).mono (by omega)
  | n + 1 => D.has b (ok_names1 D.1 (has_names D b n))
theorem ok_cut0 : FnOk P w K mg base CX0 0 f fd pcut (spCutN K 0) := by
  have no : ∀ vs H Q E, ¬ spCutN K 0 vs H Q E := fun vs H Q E h => by
    obtain ⟨v, o, b, R, _, _, _, _, h5, _⟩ := h
    omega
  exact ⟨fun vs H Q E h => absurd h (no vs H Q E), fun A outer s H args us vs Q E _ _ _ _ h => absurd h (no vs H Q E)⟩
theorem ok_cut1 {n : Nat} (F : Fun K "cut" "cut" scut f fd) (G_cut : Has P w K mg base "cut" pcut (n + 2) (spCutN K n)) (G_rest : Has P w K mg base "rest" prest 1 spRest) (G_inner_of : Has P w K mg base "inner_of" pinner_of 1 (spInner K))
    (G_replaced : Has P w K mg base "replaced" preplaced 2 (spReplaced K)) : FnOk P w K mg base CX0 (n + 3) f fd pcut (spCutN K (n + 1)) := by
  refine F.ok ccut (fun vs H Q E h => ?_) (fun cdv A outer s H vs Q E hr h => ?_)
  · obtain ⟨v, o, b, R, rfl, _⟩ := h
    rfl
  obtain ⟨v, o, b, R, rfl, hv, tr, hf, hd, hb, q⟩ := h
  refine ⟨_, (pss_cons (ps_if (pt_cmpR op_isN (pv 0) pe_non (nomark _)) (pss_one (ps_ret (pe_tup (pa_cons pe_non (pa_cons pe_non pa_nil))))) pss_nil)
    (pss_cons (ps_asg (pv 0) (pg_tup (by rfl) (pgs_cons (pg_name (i := 2) ccut.nd rfl (Or.inl rfl)) (pgs_cons (pg_name (i := 3) ccut.nd rfl (Or.inl rfl)) (pgs_cons (pg_name (i := 4) ccut.nd rfl (Or.inl rfl)) pgs_nil)))))
    (pss_cons (ps_set (i := 5) ccut.nd rfl (Or.inl rfl) (pe_has G_rest hr (by omega) (pa_cons (pv 3) (pa_cons (pv 1) pa_nil))))
    (pss_cons (ps_if (pt_cmpR op_notN (pv 5) pe_non (nomark _)) (pss_one (ps_ret (pe_tup (pa_cons pe_non (pa_cons (pe_tup (pa_cons (pv 2) (pa_cons (pv 5) (pa_cons (pv 4) pa_nil)))) pa_nil))))) pss_nil)
    (pss_cons (ps_set (i := 5) ccut.nd rfl (Or.inl rfl) (pe_has G_rest hr (by omega) (pa_cons (pv 1) (pa_cons (pv 3) pa_nil))))
    (pss_cons (ps_if (PW.pt (pw_or (pt_cmpR op_eq (pv 2) pe_str (nomark _)) (pw_or1 (pt_cmpR op_isN (pv 5) pe_non (nomark _))))) (pss_one (ps_ret (pe_tup (pa_cons (pv 0) (pa_cons pe_non pa_nil))))) pss_nil)
    (pss_cons (ps_set (i := 6) ccut.nd rfl (Or.inl rfl) (pe_slice sl_str (pv 5) po_none (po_some pe_int)))
    (pss_cons (ps_asg (pe_has G_cut hr (by omega) (pa_cons (pe_has G_inner_of hr (by omega) (pa_cons (pv 4) (pa_cons (pv 6) pa_nil))) (pa_cons (pe_slice sl_str (pv 5) (po_some pe_int) po_none) pa_nil))) (pg_tup (by rfl) (pgs_cons (pg_name (i := 7) ccut.nd rfl (Or.inl rfl)) (pgs_cons (pg_name (i := 8) ccut.nd rfl (Or.inl rfl)) pgs_nil))))
    (pss_one (ps_ret (pe_tup (pa_cons (pe_has G_replaced hr (by omega) (pa_cons (pv 0) (pa_cons (pv 6) (pa_cons (pv 7) pa_nil)))) (pa_cons (pv 8) pa_nil))))))))))))), ?_⟩
  cases o with
  | none =>
    cases Dp_non hv
    have e : R = [] := tr
    subst e
    exact ⟨_, rfl, rfl, _, rfl, iteT ⟨(by show 2 ≤ sizeLine; decide), fun l nl => q _ none none _ rfl rfl (same_new nl _) (Dp_new nl (.cons .non (.cons .non .nil)))⟩⟩
  | some t =>
    have ft := hf t rfl
    have tl := ft.text
    obtain ⟨p, kd, z, rfl, hs, hc⟩ := Dp_tree hv
    have eR : t.rws = R := tr.2
    subst eR
    refine ⟨_, rfl, rfl, _, rfl, iteF ?_⟩
    refine ⟨_, rfl, p, _, rfl, hs, rfl, _, _, rfl, _, _, rfl, _, _, rfl, rfl, ?_⟩
    refine ⟨_, rfl, _, rfl, t.text, b, rfl, by omega, hb, ?_⟩
    by_cases c1 : b <+: t.text
    · rw [if_pos c1]
      refine ⟨_, rfl, rfl, _, rfl, iteT ?_⟩
      refine ⟨_, rfl, _, rfl, _, rfl, (by show 3 ≤ sizeLine; decide), fun r nr => ⟨(by show 2 ≤ sizeLine; decide), fun r2 nr2 => ?_⟩⟩
      obtain ⟨a1, a2⟩ := cut_all tr.1 c1
      refine q _ _ _ _ a1 a2 ((same_new nr _).trans (same_new nr2 _)) (Dp_new nr2 (.cons .non (.cons ?_ .nil)))
      show Dp K _ _ (t.setText (t.text.drop b.length)).toD
      rcases hc with ⟨m, e, rfl, rfl⟩ | ⟨bs, e, rfl, hz⟩
      · have e2 : t.setText (t.text.drop b.length) = .leaf (t.text.drop b.length) m := by rw [e]; rfl
        rw [e2]
        exact Dp_new nr (.cons (.str _) (.cons (.str _) (.cons (.int _) .nil)))
      · have e2 : t.setText (t.text.drop b.length) = .fork (t.text.drop b.length) bs := by rw [e]; rfl
        rw [e2]
        exact Dp_new nr (.cons (.str _) (.cons (.str _) (.cons hz .nil)))
    · rw [if_neg c1]
      refine ⟨_, rfl, rfl, _, rfl, iteF ?_⟩
      refine ⟨_, rfl, _, rfl, b, t.text, rfl, hb, by omega, ?_⟩
      have none_so : (∃ m, t = .leaf t.text m) ∨ ¬ t.text <+: b → Treed (some t) (stayR b t.rws) ∧ Treed none (goneR b t.rws) := fun h => cut_no tr.1 fun x m hx pb => by
        have pt := text_pre hx
        rcases h with ⟨k, e⟩ | h
        · rw [e] at hx
          have ex := (mem_leaf.mp hx).1
          rw [ex] at pb; exact c1 pb
        · rcases Nat.le_total t.text.length b.length with l | l
          · exact h (List.prefix_of_prefix_length_le pt pb l)
          · exact c1 (List.prefix_of_prefix_length_le pb pt l)
      have stop : ∀ {H' : Hp}, Same H H' → Treed (some t) (stayR b t.rws) ∧ Treed none (goneR b t.rws) → 2 ≤ sizeLine ∧ ∀ l, H' l = none → Q (.ref l) (upd H' l (.tup [.ref p, .non])) := fun {H'} s' ⟨a1, a2⟩ => ⟨by decide, fun l nl => q _ _ _ _ a1 a2 (s'.trans (same_new nl _)) (Dp_new nl (.cons (Dp_same s' hv) (.cons .non .nil)))⟩
      rcases hc with ⟨m, e, rfl, rfl⟩ | ⟨bs, e, rfl, hz⟩
      · refine ⟨_, rfl, rfl, _, rfl, iteT ?_⟩
        exact ⟨_, rfl, stop (Same.refl H) (none_so (.inl ⟨m, e⟩))⟩
      · refine ⟨_, rfl, rfl, _, rfl, iteF ?_⟩
        by_cases c2 : t.text <+: b
        · rw [if_pos c2]
          refine ⟨_, rfl, rfl, _, rfl, iteF ?_⟩
          obtain ⟨y, ey⟩ := c2
          have ed : b.drop t.text.length = y := by rw [← ey, List.drop_left]
          have yne : y ≠ [] := fun z => c1 (by rw [z, List.append_nil] at ey; rw [ey]; exact List.prefix_refl _)
          have yl : y.length ≤ 1000 := by rw [← ed, List.length_drop]; omega
          have zy : (st y).length ≤ sizeLine := by rw [st_len]; exact smallZ (by omega)
          rw [ed]
          have fb : Fits (.fork t.text bs) := by rw [← e]; exact ft
          have w := wfB_iff.mp fb.1.2
          refine ⟨_, rfl, 1, rfl, _, rfl, zy, ?_⟩
          rw [show cutS (st y) none (some 1) = _ from cut_to _ 1]
          refine ⟨_, rfl, _, rfl, z, bs, y.take 1, rfl, hz, fun u hu => ?_⟩
          refine ⟨_, rfl, 1, rfl, _, rfl, zy, ?_⟩
          rw [show cutS (st y) (some 1) none = _ from cut_from _ 1]
          have hdt : t.deep < n + 1 := hd
          rw [e] at hdt
          have wi : ∀ t', innr bs (y.take 1) = some t' → Wf t' := fun t' h' => (w.1 _ (innr_mem h')).2.2
          have di : dpt (innr bs (y.take 1)) < n := by
            cases hi : innr bs (y.take 1) with
            | none =>
              have := deeps_pos fb.1
              simp only [Tr.deep] at hdt
              show 0 < n
              omega
            | some u' =>
              have := (fb.sub (innr_mem hi)).2.1
              show u'.deep < n
              simp only at this
              omega
          refine ⟨u, innr bs (y.take 1), y.drop 1, rO (innr bs (y.take 1)), rfl, hu, treed_of wi, fun t' h' => (fb.sub (innr_mem h')).1, di, by rw [List.length_drop]; omega, fun r o1 o2 H1 t1 t2 s1 hr1 => ?_⟩
          obtain ⟨p2, l1, l2, rfl, hp2, d1, d2⟩ := Dp_two hr1
          refine ⟨p2, _, rfl, hp2, rfl, _, _, rfl, _, _, rfl, rfl, ?_⟩
          obtain ⟨a1, a2⟩ := cut_in fb.1 yne t1 t2
          have hv1 := Dp_same s1 hv
          rw [e] at hv1
          refine ⟨_, rfl, _, rfl, _, rfl, .ref p, l1, t.text, bs, y.take 1, o1, rfl, hv1, d1, fb.len, tl, by rw [List.length_take]; omega, fun c hc => ?_, fun _ => filt_ne w.2 fb.1.1, fun u4 H4 s4 hu4 => ?_⟩
          · have := fb.sub hc
            exact ⟨this.2.2, this.1.text⟩
          refine ⟨_, rfl, (by show 2 ≤ sizeLine; decide), fun l nl => ?_⟩
          rw [ey, ← e] at a1 a2
          refine q _ _ _ _ a1 a2 ((s1.trans s4).trans (same_new nl _)) (Dp_new nl (.cons hu4 (.cons (Dp_same s4 d2) .nil)))
        · rw [if_neg c2]
          refine ⟨_, rfl, rfl, _, rfl, iteT ?_⟩
          exact ⟨_, rfl, stop (Same.refl H) (none_so (.inr c2))⟩
theorem has_cut (D : DefAt K mg "cut" scut f fd) (b : Binds K fd pcut []) (G_rest : Has P w K mg base "rest" prest 1 spRest) (G_inner_of : Has P w K mg base "inner_of" pinner_of 1 (spInner K)) (G_replaced : Has P w K mg base "replaced" preplaced 2 (spReplaced K)) :
    ∀ n, Has P w K mg base "cut" pcut (n + 2) (spCutN K n)
  | 0 => D.has b (ok_cut0.mono (Nat.zero_le _))
  | n + 1 => D.has b (ok_cut1 D.1 (has_cut D b G_rest G_inner_of G_replaced n) G_rest G_inner_of G_replaced)
theorem ok_joined0 {CN : Addr} : FnOk P w K mg base (L2.CX P w) 0 f fd pjoined (spJoinedN K CN 0) := by
  have no : ∀ vs H Q E, ¬ spJoinedN K CN 0 vs H Q E := fun vs H Q E h => by
    obtain ⟨v, w', o1, o2, _, _, _, h5, _⟩ := h
    omega
  exact ⟨fun vs H Q E h => absurd h (no vs H Q E), fun A outer s H args us vs Q E _ _ _ _ h => absurd h (no vs H Q E)⟩
theorem ok_joined1 {n : Nat} {CN CT : Addr} (F : Fun K "joined" "joined" sjoined f fd) (TTaken : ErrTxt K mg "Taken" CN CT) (G_joined : HasX P w K mg base "joined" pjoined (n + 1) (spJoinedN K CN n)) (G_common : Has P w K mg base "common" pcommon 1 spCommon)
    (G_branches_behind : Has P w K mg base "branches_behind" pbranches_behind 1 (spBehind K)) (G_placed : Has P w K mg base "placed" pplaced 1 (spPlaced K)) (G_inner_of : Has P w K mg base "inner_of" pinner_of 1 (spInner K)) :
    FnOk P w K mg base (L2.CX P w) (n + 2) f fd pjoined (spJoinedN K CN (n + 1)) := by
  refine F.okX cjoined (fun vs H Q E h => ?_) (fun cdv A outer s H vs Q E hr h => ?_)
  · obtain ⟨v, w', o1, o2, rfl, _⟩ := h
    rfl
  obtain ⟨v, w', o1, o2, rfl, ⟨h1, j1⟩, ⟨h2, j2⟩, hd, qe, qn⟩ := h
  refine ⟨_, (pss_cons (ps_if (pt_cmpR op_isN (pv 0) pe_non (nomark _)) (pss_one (ps_ret (pv 1))) pss_nil)
    (pss_cons (ps_if (pt_cmpR op_isN (pv 1) pe_non (nomark _)) (pss_one (ps_ret (pv 0))) pss_nil)
    (C8.pss_cut (ps_if (PW.pt (pw_and (pt_cmpR op_eq (pe_ix (r := rIxT K) ix_tup (pv 0) pe_int (fun _ _ => rfl)) pe_str (nomark _)) (pw_and1 (pt_cmpR (op_eqD hr.units) (pe_slice sl_tup (pv 0) po_none (po_some pe_int)) (pe_slice sl_tup (pv 1) po_none (po_some pe_int)) (nomark _))))) (pss_one (ps_raise rfl (takes_of rfl rfl rfl rfl) (SkE.pmk_own1 PySem.F.excBase_ValueError TTaken.xN TTaken.gN TTaken.kN (raises_own TTaken.bN TTaken.tN) (by rfl) pe_str))) pss_nil)
    (pss_cons (ps_set (i := 2) cjoined.nd rfl (Or.inl rfl) (pe_has G_common hr (by omega) (pa_cons (pe_ix (r := rIxT K) ix_tup (pv 0) pe_int (fun _ _ => rfl)) (pa_cons (pe_ix (r := rIxT K) ix_tup (pv 1) pe_int (fun _ _ => rfl)) pa_nil))))
    (pss_cons (ps_set (i := 3) cjoined.nd rfl (Or.inl rfl) (pe_has G_branches_behind hr (by omega) (pa_cons (pv 0) (pa_cons (pv 2) pa_nil))))
    (pss_cons (ps_for (passes_of rfl) rfl (pi_tup (pe_has G_branches_behind hr (by omega) (pa_cons (pv 1) (pa_cons (pv 2) pa_nil)))) (pg_tup (by rfl) (pgs_cons (pg_name (i := 4) cjoined.nd rfl (Or.inl rfl)) (pgs_cons (pg_name (i := 5) cjoined.nd rfl (Or.inl rfl)) pgs_nil))) (pss_one (ps_set (i := 3) cjoined.nd rfl (Or.inl rfl) (pe_has G_placed hr (by omega) (pa_cons (pv 3) (pa_cons (pe_tup (pa_cons (pv 4) (pa_cons (pe_hasX (E := E) G_joined hr (by omega) (passes_call (takes_of rfl rfl rfl rfl) fun _ _ _ _ h => h) (pa_cons (pe_has G_inner_of hr (by omega) (pa_cons (pv 3) (pa_cons (pv 4) pa_nil))) (pa_cons (pv 5) pa_nil))) pa_nil))) pa_nil))))))
    (pss_one (ps_ret (pe_tup (pa_cons pe_str (pa_cons (pv 2) (pa_cons (pv 3) pa_nil)))))))))))), ?_⟩
  cases o1 with
  | none =>
    cases Dp_non h1
    exact ⟨_, rfl, rfl, _, rfl, iteT ⟨_, rfl, qn (fun ⟨x, m, k, e, _⟩ => by simp [rO] at e) o2 w' H (fun t e => (j2 t e).wf) (fun r => by simp [rO]) (Same.refl H) h2⟩⟩
  | some t =>
  cases o2 with
  | none =>
    cases Dp_non h2
    obtain ⟨p1, k1, z1, rfl, hs1, hk1, hc1⟩ := Dp_kind h1
    exact ⟨_, rfl, rfl, _, rfl, iteF ⟨_, rfl, rfl, _, rfl, iteT ⟨_, rfl, qn (fun ⟨x, m, k, _, e⟩ => by simp [rO] at e) (some t) (.ref p1) H (fun t e => (j1 t e).wf) (fun r => by simp [rO]) (Same.refl H) h1⟩⟩⟩
  | some u =>
  have t1 := j1 t rfl
  have u1 := j2 u rfl
  have tl := t1.fits.text
  have ul := u1.fits.text
  have ta := t1.asc.text t1.wf
  have ua := u1.asc.text u1.wf
  obtain ⟨p1, k1, z1, rfl, hs1, hk1, hc1⟩ := Dp_kind h1
  obtain ⟨p2, k2, z2, rfl, hs2, hk2, hc2⟩ := Dp_kind h2
  refine ⟨_, rfl, rfl, _, rfl, iteF ⟨_, rfl, rfl, _, rfl, iteF ?_⟩⟩
  refine ⟨fun σ' H' => σ' = [some (.ref p1), some (.ref p2), none, none, none, none] ∧ Same H H' ∧ ¬ ((∃ n, t = .leaf t.text n) ∧ (∃ n, u = .leaf u.text n) ∧ t.text = u.text), ?_, ?_⟩
  · refine ⟨_, rfl, p1, _, _, _, rfl, rfl, hs1, (rfl : atI [V.str k1, V.str (st t.text), z1] 0 = some (V.str k1)), rfl, _, rfl, ?_⟩
    rcases hc1 with ⟨rfl, n1, e1, rfl⟩ | ⟨rfl, bs, e1, hz1⟩
    · rw [decide_eq_true (rfl : V.str (Str.ofString "leaf") = V.str (Str.ofString "leaf"))]
      refine iteT ?_
      refine ⟨_, rfl, 2, rfl, p1, _, rfl, hs1, (fun e => absurd e.2 (by show HT.sIx 3 3 (some 2) ≠ 3; decide +kernel)), fun pa na => ?_⟩
      have sa := same_new na (.tup (cutV [V.str (Str.ofString "leaf"), V.str (st t.text), V.int n1] none (some 2)))
      have ha : Dp K (upd H pa (.tup (cutV [V.str (Str.ofString "leaf"), V.str (st t.text), V.int n1] none (some 2)))) (.ref pa) (headD (Str.ofString "leaf") t.text) := Dp_new na (show DpAll K H [V.str (Str.ofString "leaf"), V.str (st t.text)] _ from .cons (.str _) (.cons (.str _) .nil))
      generalize hHa : upd H pa (.tup (cutV [V.str (Str.ofString "leaf"), V.str (st t.text), V.int n1] none (some 2))) = Ha at sa ha
      refine ⟨_, rfl, 2, rfl, p2, _, rfl, sameT sa hs2, (fun e => absurd e.2 (by show HT.sIx 3 3 (some 2) ≠ 3; decide +kernel)), fun pb nb => ?_⟩
      have sb := same_new nb (.tup (cutV [V.str k2, V.str (st u.text), z2] none (some 2)))
      have hb : Dp K (upd Ha pb (.tup (cutV [V.str k2, V.str (st u.text), z2] none (some 2)))) (.ref pb) (headD k2 u.text) := Dp_new nb (show DpAll K Ha [V.str k2, V.str (st u.text)] _ from .cons (.str _) (.cons (.str _) .nil))
      have hab := Dp_same sb ha
      have sab := sa.trans sb
      generalize hHb : upd Ha pb (.tup (cutV [V.str k2, V.str (st u.text), z2] none (some 2))) = Hb at sb hb hab sab
      refine ⟨headD (Str.ofString "leaf") t.text, headD k2 u.text, hab, hb, head_shaped hk1 ta, head_shaped hk2 ua, _, rfl, ?_⟩
      rw [head_eqv]
      by_cases c : Str.ofString "leaf" = k2 ∧ t.text = u.text
      · rw [decide_eq_true c.1, decide_eq_true c.2]
        refine iteT ?_
        refine qe ?_ Hb sab
        rcases hc2 with ⟨_, n2, e2, _⟩ | ⟨e, _⟩
        · refine ⟨t.text, n1, n2, ?_, ?_⟩
          · show _ ∈ t.rws; rw [e1]; simp [Tr.rws, Tr.text]
          · show _ ∈ u.rws; rw [e2, ← c.2]; simp [Tr.rws]
        · exact absurd (c.1.trans e) (by decide +kernel)
      · have cf : (decide (Str.ofString "leaf" = k2) && decide (t.text = u.text)) = false := by
          rw [Bool.and_eq_false_iff]
          by_cases c1 : Str.ofString "leaf" = k2
          · exact .inr (decide_eq_false fun c2 => c ⟨c1, c2⟩)
          · exact .inl (decide_eq_false c1)
        rw [cf]
        refine iteF ⟨rfl, sab, fun ⟨_, ⟨n2, e2⟩, e3⟩ => c ⟨?_, e3⟩⟩
        rcases hc2 with ⟨e, _⟩ | ⟨_, cs, e, _⟩
        · exact e.symm
        · rw [e] at e2; cases e2
    · rw [decide_eq_false (show ¬ V.str (Str.ofString "fork") = V.str (Str.ofString "leaf") from fun e => absurd (V.str.inj e) (by decide +kernel))]
      refine iteF ⟨rfl, Same.refl H, fun ⟨⟨n2, e2⟩, _⟩ => ?_⟩
      rw [e1] at e2; cases e2
  rintro σ' H2 ⟨rfl, s2, ne⟩
  have l1 := lcp_le1 t.text u.text
  have l2 := lcp_le2 t.text u.text
  have cl : (t.text.take (lcp t.text u.text)).length = lcp t.text u.text := by rw [List.length_take]; omega
  have hs12 := sameT s2 hs1
  have hs22 := sameT s2 hs2
  refine ⟨_, rfl, p1, _, _, _, rfl, rfl, hs12, (rfl : atI [V.str k1, V.str (st t.text), z1] 1 = some (V.str (st t.text))), _, rfl, p2, _, _, _, rfl, rfl, hs22, (rfl : atI [V.str k2, V.str (st u.text), z2] 1 = some (V.str (st u.text))), t.text, u.text, rfl, by omega, by omega, fun H3 s3 => ?_⟩
  have s03 := s2.trans s3
  refine ⟨_, rfl, _, rfl, .ref p1, t, t.text.take (lcp t.text u.text), rfl, Dp_same s03 h1, tl, by omega, fun bv H4 s4 hb4 => ?_⟩
  have s04 := s03.trans s4
  refine ⟨_, rfl, _, rfl, .ref p2, u, t.text.take (lcp t.text u.text), rfl, Dp_same s04 h2, ul, by omega, fun cv H5 s5 hc5 => ?_⟩
  have s05 := s04.trans s5
  have hb5 := Dp_same s5 hb4
  obtain ⟨a, xs, rfl, ha, hda⟩ := Dp_tup hc5
  rw [toDs_br] at hda
  have hxl : xs.length = (behB u (t.text.take (lcp t.text u.text))).length := by rw [DpAll_len hda, List.length_map]
  have wb := (beh_wf t1.wf l1).1
  have wc : WfB (behB u (t.text.take (lcp t.text u.text))) := by rw [lcp_take]; exact (beh_wf u1.wf l2).1
  have bl := t1.beh_len l1
  have cl2 : (behB u (t.text.take (lcp t.text u.text))).length ≤ 1000 := by rw [lcp_take]; exact u1.beh_len l2
  have shr : ∀ {s : List Nat} {v : Tr}, (s, v) ∈ behB u (t.text.take (lcp t.text u.text)) → Share (rO (innr (behB t (t.text.take (lcp t.text u.text))) s)) v.rws → Share (rO (some t)) (rO (some u)) := fun {s v} hm sh => by
    refine share_up t1.wf u1.wf (s := s) ?_
    rw [mem_innr (wfB_iff.mp wc).2 hm]; exact sh
  have dep := fun {c : List Nat × Tr} (hc : c ∈ behB u (t.text.take (lcp t.text u.text))) => beh_deep t1 u1 ne hc
  have jt1 : ∀ {s : List Nat} {v : Tr}, innr (behB t (t.text.take (lcp t.text u.text))) s = some v → JT v := fun hi => (t1.beh l1 (innr_mem hi)).1
  have jt2 : ∀ {c : List Nat × Tr}, c ∈ behB u (t.text.take (lcp t.text u.text)) → JT c.2 := fun hc => by
    rw [lcp_take] at hc; exact (u1.beh l2 hc).1
  have fin := fun {ds : List (List Nat × Tr)} {k : Nat} (hk : (behB u (t.text.take (lcp t.text u.text))).length ≤ k) (j : Jn (behB t (t.text.take (lcp t.text u.text))) (behB u (t.text.take (lcp t.text u.text))) k ds) => jn_all t1.wf u1.wf ne hk j
  generalize hB : behB t (t.text.take (lcp t.text u.text)) = B at *
  generalize hC : behB u (t.text.take (lcp t.text u.text)) = C at *
  generalize hP : t.text.take (lcp t.text u.text) = pp at *
  have hd' : t.deep + u.deep < n + 1 := hd
  refine ⟨a, rfl, ⟨_, ha⟩, for_tup (xs := xs) (fun i σ H' => ∃ (y4 y5 : Option V) (bv' : V) (ds : List (List Nat × Tr)), σ = [some (.ref p1), some (.ref p2), some (.str (st pp)), some bv', y4, y5] ∧ Same H5 H' ∧ Jn B C i ds ∧ ds.length ≤ 1000 + i ∧ Dp K H' bv' (.tuple (toDs ds)))
    ⟨none, none, bv, B, rfl, Same.refl _, jn0 wb, bl, hb5⟩ (fun i σ H' hi h1 => ?_) (fun i x σ H' hx h1 => ?_) (fun σ H' h1 => ?_)⟩
  · obtain ⟨_, _, _, _, _, s', _⟩ := h1
    exact sameT s' ha
  · obtain ⟨y4, y5, bv', ds, rfl, s', jn, dl, hbv⟩ := h1
    obtain ⟨c, hc, hxc⟩ := DpAll_map hda hx
    have hcm : c ∈ C := List.mem_of_getElem? hc
    have hlt := (List.getElem?_eq_some_iff.mp hc).1
    obtain ⟨r, w1, w2, rfl, hr1, g1, g2⟩ := Dp_two (Dp_same s' hxc)
    cases Dp_str g1
    refine ⟨r, _, rfl, hr1, rfl, _, _, rfl, _, _, rfl, rfl, ?_⟩
    have eo := jn.old c.1 (jn_ahead wc hc)
    refine ⟨_, rfl, _, rfl, _, rfl, _, rfl, bv', ds, c.1, rfl, hbv, fun iv hiv => ?_⟩
    rw [eo] at hiv
    refine ⟨_, rfl, iv, w2, innr B c.1, some c.2, rfl, ⟨hiv, fun v e => jt1 e⟩, ⟨g2, fun v e => by cases e; exact jt2 hcm⟩, ?_, fun sh H6 s6 => ?_, fun ns o uu H6 wf hm s6 huu => ?_⟩
    · have := dep hcm
      show dpt (innr B c.1) + c.2.deep < n
      omega
    · exact qe (shr hcm sh) H6 ((s05.trans s').trans s6)
    · obtain ⟨row, hrow⟩ := rws_ne c.2 (jt2 hcm).wf
      have : row ∈ rO o := (hm row).mpr (.inr hrow)
      cases o with
      | none => simp [rO] at this
      | some ou =>
        refine ⟨(by show 2 ≤ sizeLine; decide), fun m nm => ?_⟩
        have sm := same_new nm (.tup [.str (st c.1), uu])
        refine ⟨bv', .ref m, ds, (c.1, ou), rfl, Dp_same (s6.trans sm) hbv, Dp_new nm (.cons (.str _) (.cons huu .nil)), by omega, fun bv2 H7 s7 hb2 => ?_⟩
        have pl := placed_len ds (c.1, ou)
        exact ⟨_, _, bv2, placed ds (c.1, ou), rfl, (s'.trans (s6.trans sm)).trans s7, jn_succ jn wb wc hc ns (wf ou rfl) hm, by omega, hb2⟩
  · obtain ⟨y4, y5, bv', ds, rfl, s', jn, dl, hbv⟩ := h1
    obtain ⟨a1, a2, a3⟩ := fin (k := xs.length) (by omega) jn
    refine ⟨_, rfl, _, rfl, (by show 3 ≤ sizeLine; decide), fun m nm => ?_⟩
    refine qn a3 (some (.fork pp ds)) _ _ (fun t' e => by cases e; exact a1) a2 ((s05.trans s').trans (same_new nm _)) ?_
    exact Dp_new nm (.cons (.str _) (.cons (.str _) (.cons hbv .nil)))
theorem has_joined {CN CT : Addr} (D : DefAt K mg "joined" sjoined f fd) (b : Binds K fd pjoined []) (TTaken : ErrTxt K mg "Taken" CN CT) (G_common : Has P w K mg base "common" pcommon 1 spCommon)
    (G_branches_behind : Has P w K mg base "branches_behind" pbranches_behind 1 (spBehind K)) (G_placed : Has P w K mg base "placed" pplaced 1 (spPlaced K)) (G_inner_of : Has P w K mg base "inner_of" pinner_of 1 (spInner K)) :
    ∀ n, HasX P w K mg base "joined" pjoined (n + 1) (spJoinedN K CN n)
  | 0 => D.hasX b (ok_joined0.mono (Nat.zero_le _))
  | n + 1 => D.hasX b (ok_joined1 D.1 TTaken (has_joined D b TTaken G_common G_branches_behind G_placed G_inner_of n) G_common G_branches_behind G_placed G_inner_of)
theorem ok_Pparted {CT CNotThere : Addr} (F : Fun K "_parted" "_parted" sPparted f fd) (TNotThere : ErrTxt K mg "NotThere" CNotThere CT)
    (G_cut : Has P w K mg base "cut" pcut 52 (spCut K)) :
    FnOk P w K mg base (L2.CX P w) 53 f fd pPparted (spParted K CNotThere) := by
  refine F.okX cPparted (fun vs H Q E h => ?_) (fun cdv A outer s H vs Q E hr h => ?_)
  · obtain ⟨v, o, b, R, rfl, _⟩ := h
    rfl
  obtain ⟨v, o, b, R, rfl, hv, tr, hf, hd, hb, ht, qe, qn⟩ := h
  refine ⟨_, (pss_cons (ps_asg (pe_has G_cut hr (by omega) (pa_cons (pv 0) (pa_cons (pv 1) pa_nil))) (pg_tup (by rfl) (pgs_cons (pg_name (i := 2) cPparted.nd rfl (Or.inl rfl)) (pgs_cons (pg_name (i := 3) cPparted.nd rfl (Or.inl rfl)) pgs_nil))))
    (pss_cons (ps_if (pt_cmpR op_isN (pv 3) pe_non (nomark _)) (pss_one (ps_raise rfl (takes_of rfl rfl rfl rfl) (SkE.pmk_own1 PySem.F.excBase_ValueError TNotThere.xN TNotThere.gN TNotThere.kN (raises_own TNotThere.bN TNotThere.tN) (by rfl) (pe_joined (.cons pe_str (.cons (pe_fmtR (pv 1)) .nil)))))) pss_nil)
    (pss_one (ps_ret (pe_tup (pa_cons (pv 2) (pa_cons (pv 3) pa_nil))))))), ?_⟩
  refine ⟨_, rfl, _, rfl, v, o, b, R, rfl, hv, tr, hf, hd, by omega, fun u o1 o2 H1 t1 t2 s1 hu => ?_⟩
  obtain ⟨p, l1, l2, rfl, hp, d1, d2⟩ := Dp_two hu
  refine ⟨p, _, rfl, hp, rfl, _, _, rfl, _, _, rfl, rfl, ?_⟩
  have rs := repr_small (l := b) (by omega) ht
  cases o2 with
  | none =>
    cases Dp_non d2
    refine ⟨_, rfl, rfl, _, rfl, iteT ?_⟩
    refine ⟨_, rfl, by decide +kernel, _, rfl, .inl ⟨_, rfl, smallZ rs, _, rfl, ?_, qe ((treed_nil t2).mp rfl) _ s1⟩⟩
    have h0 : (Str.empty ++ Str.ofString "no name begins with ").length ≤ 100 := by decide +kernel
    rw [str_app_len]
    exact Nat.le_trans (Nat.add_le_add h0 rs) (by decide)
  | some u2 =>
    have nn : decide (l2 = V.non) = false := decide_eq_false fun e => by
      rw [e] at d2
      have d2 : Dp K H1 .non u2.toD := d2
      cases u2 <;> · simp only [Tr.toD] at d2; obtain ⟨_, _, e, _⟩ := Dp_tup d2; cases e
    refine ⟨_, rfl, rfl, _, rfl, ?_⟩
    rw [nn]
    refine iteF ?_
    refine ⟨_, rfl, _, rfl, (by show 2 ≤ sizeLine; decide), fun m nm => qn (fun e => ?_) _ o1 (some u2) _ t1 t2 (s1.trans (same_new nm _)) (Dp_new nm (.cons d1 (.cons d2 .nil)))⟩
    have := (treed_nil t2).mpr e
    cases this
theorem ok_moved {CT CNotThere CTaken : Addr} (F : Fun K "moved" "moved" smoved f fd) (TNotThere : ErrTxt K mg "NotThere" CNotThere CT) (TTaken : ErrTxt K mg "Taken" CTaken CT)
    (G_Pparted : HasX P w K mg base "_parted" pPparted 53 (spParted K CNotThere))
    (G_joined : HasX P w K mg base "joined" pjoined 100 (spJoined K CTaken))
    (G_ahead : Has P w K mg base "ahead" pahead 1 (spAhead K)) :
    FnOk P w K mg base (L2.CX P w) 102 f fd pmoved (spMoved K CNotThere CTaken stayR) := by
  refine F.okX cmoved (fun vs H Q E h => ?_) (fun cdv A outer s H vs Q E hr h => ?_)
  · obtain ⟨v, o, R, b, c, rfl, _⟩ := h
    rfl
  obtain ⟨v, o, R, b, c, rfl, hv, tr, g, hb, hc, tb, tc, q1, q2, q3⟩ := h
  refine ⟨_, (pss_cons (ps_asg (pe_hasX (E := E) G_Pparted hr (by omega) (passes_call (takes_of rfl rfl rfl rfl) fun _ _ _ _ h => h) (pa_cons (pv 0) (pa_cons (pv 1) pa_nil))) (pg_tup (by rfl) (pgs_cons (pg_name (i := 3) cmoved.nd rfl (Or.inl rfl)) (pgs_cons (pg_name (i := 4) cmoved.nd rfl (Or.inl rfl)) pgs_nil))))
    (pss_one (ps_ret (pe_hasX (E := E) G_joined hr (by omega) (passes_call (takes_of rfl rfl rfl rfl) fun _ _ _ _ h => h) (pa_cons (pv 3) (pa_cons (pe_has G_ahead hr (by omega) (pa_cons (pv 4) (pa_cons (pv 2) pa_nil))) pa_nil)))))), ?_⟩
  obtain ⟨ff, fd50⟩ := good_fits tr g
  refine ⟨_, rfl, _, rfl, v, o, b, R, rfl, hv, tr, ff, fd50, by omega, fun x hx => tab_ok x (tb x hx), fun e => q1 (fresh_nil.mpr e), fun ne u o1 o2 H1 t1 t2 s1 hu => ?_⟩
  have ne' : freshR b c R ≠ [] := fun e => ne (fresh_nil.mp e)
  obtain ⟨p, l1, l2, rfl, hp, d1, d2⟩ := Dp_two hu
  refine ⟨p, _, rfl, hp, rfl, _, _, rfl, _, _, rfl, rfl, ?_⟩
  have f2 := (good_fits t2 (gone_good g)).1
  refine ⟨_, rfl, _, rfl, _, rfl, l2, o2, c, rfl, d2, by omega, fun t e => (f2 t e).text, fun v3 H2 s2 h3 => ?_⟩
  exact ⟨l1, v3, o1, o2.map (Tr.ahd c), stayR b R, freshR b c R, rfl, good_inJ (Dp_same s2 d1) t1 (stay_good g), fresh_inJ h3 t2 g hc tc, fun sh H' s' => q2 ne' sh H' ((s1.trans s2).trans s'), fun ns o4 T u4 H' bo t4 s' hu4 => q3 ne' ns o4 T u4 H' bo t4 ((s1.trans s2).trans s') hu4⟩
theorem ok_copied {CT CNotThere CTaken : Addr} (F : Fun K "copied" "copied" scopied f fd) (TNotThere : ErrTxt K mg "NotThere" CNotThere CT) (TTaken : ErrTxt K mg "Taken" CTaken CT)
    (G_Pparted : HasX P w K mg base "_parted" pPparted 53 (spParted K CNotThere))
    (G_joined : HasX P w K mg base "joined" pjoined 100 (spJoined K CTaken))
    (G_ahead : Has P w K mg base "ahead" pahead 1 (spAhead K)) :
    FnOk P w K mg base (L2.CX P w) 102 f fd pcopied (spMoved K CNotThere CTaken (fun _ R => R)) := by
  refine F.okX ccopied (fun vs H Q E h => ?_) (fun cdv A outer s H vs Q E hr h => ?_)
  · obtain ⟨v, o, R, b, c, rfl, _⟩ := h
    rfl
  obtain ⟨v, o, R, b, c, rfl, hv, tr, g, hb, hc, tb, tc, q1, q2, q3⟩ := h
  refine ⟨_, (pss_cons (ps_asg (pe_hasX (E := E) G_Pparted hr (by omega) (passes_call (takes_of rfl rfl rfl rfl) fun _ _ _ _ h => h) (pa_cons (pv 0) (pa_cons (pv 1) pa_nil))) (pg_tup (by rfl) (pgs_cons (pg_name (i := 3) ccopied.nd rfl (Or.inl rfl)) (pgs_cons (pg_name (i := 4) ccopied.nd rfl (Or.inl rfl)) pgs_nil))))
    (pss_one (ps_ret (pe_hasX (E := E) G_joined hr (by omega) (passes_call (takes_of rfl rfl rfl rfl) fun _ _ _ _ h => h) (pa_cons (pv 0) (pa_cons (pe_has G_ahead hr (by omega) (pa_cons (pv 4) (pa_cons (pv 2) pa_nil))) pa_nil)))))), ?_⟩
  obtain ⟨ff, fd50⟩ := good_fits tr g
  refine ⟨_, rfl, _, rfl, v, o, b, R, rfl, hv, tr, ff, fd50, by omega, fun x hx => tab_ok x (tb x hx), fun e => q1 (fresh_nil.mpr e), fun ne u o1 o2 H1 t1 t2 s1 hu => ?_⟩
  have ne' : freshR b c R ≠ [] := fun e => ne (fresh_nil.mp e)
  obtain ⟨p, l1, l2, rfl, hp, d1, d2⟩ := Dp_two hu
  refine ⟨p, _, rfl, hp, rfl, _, _, rfl, _, _, rfl, rfl, ?_⟩
  have f2 := (good_fits t2 (gone_good g)).1
  refine ⟨_, rfl, _, rfl, _, rfl, l2, o2, c, rfl, d2, by omega, fun t e => (f2 t e).text, fun v3 H2 s2 h3 => ?_⟩
  exact ⟨v, v3, o, o2.map (Tr.ahd c), R, freshR b c R, rfl, good_inJ (Dp_same (s1.trans s2) hv) tr g, fresh_inJ h3 t2 g hc tc, fun sh H' s' => q2 ne' sh H' ((s1.trans s2).trans s'), fun ns o4 T u4 H' bo t4 s' hu4 => q3 ne' ns o4 T u4 H' bo t4 ((s1.trans s2).trans s') hu4⟩
theorem ok_found0 : FnOk P w K mg base CX0 0 f fd pfound (spFound K 0) := by
  have no : ∀ vs H Q E, ¬ spFound K 0 vs H Q E := fun vs H Q E h => by
    obtain ⟨v, o, x, _, _, _, h5, _⟩ := h
    omega
  exact ⟨fun vs H Q E h => absurd h (no vs H Q E), fun A outer s H args us vs Q E _ _ _ _ h => absurd h (no vs H Q E)⟩
theorem ok_found1 {n : Nat} (F : Fun K "found" "found" sfound f fd) (G_found : Has P w K mg base "found" pfound (n + 1) (spFound K n)) (G_rest : Has P w K mg base "rest" prest 1 spRest) (G_inner_of : Has P w K mg base "inner_of" pinner_of 1 (spInner K)) :
    FnOk P w K mg base CX0 (n + 2) f fd pfound (spFound K (n + 1)) := by
  refine F.ok cfound (fun vs H Q E h => ?_) (fun cdv A outer s H vs Q E hr h => ?_)
  · obtain ⟨v, o, x, rfl, _⟩ := h
    rfl
  obtain ⟨v, o, x, rfl, hv, hf, hd, hx, q⟩ := h
  refine ⟨_, (pss_cons (ps_if (pt_cmpR op_isN (pv 0) pe_non (nomark _)) (pss_one (ps_ret pe_non)) pss_nil)
    (pss_cons (ps_asg (pv 0) (pg_tup (by rfl) (pgs_cons (pg_name (i := 2) cfound.nd rfl (Or.inl rfl)) (pgs_cons (pg_name (i := 3) cfound.nd rfl (Or.inl rfl)) (pgs_cons (pg_name (i := 4) cfound.nd rfl (Or.inl rfl)) pgs_nil)))))
    (pss_cons (ps_set (i := 5) cfound.nd rfl (Or.inl rfl) (pe_has G_rest hr (by omega) (pa_cons (pv 1) (pa_cons (pv 3) pa_nil))))
    (pss_cons (ps_if (pt_cmpR op_isN (pv 5) pe_non (nomark _)) (pss_one (ps_ret pe_non)) pss_nil)
    (pss_cons (ps_if (pt_cmpR op_eq (pv 2) pe_str (nomark _)) (pss_one (ps_ret (pe_has G_found hr (by omega) (pa_cons (pe_has G_inner_of hr (by omega) (pa_cons (pv 4) (pa_cons (pe_slice sl_str (pv 5) po_none (po_some pe_int)) pa_nil))) (pa_cons (pe_slice sl_str (pv 5) (po_some pe_int) po_none) pa_nil))))) pss_nil)
    (pss_cons (ps_if (pt_cmpR op_eq (pv 5) pe_str (nomark _)) (pss_one (ps_ret (pv 4))) pss_nil)
    (pss_one (ps_ret pe_non)))))))), ?_⟩
  cases o with
  | none =>
    cases Dp_non hv
    exact ⟨_, rfl, rfl, _, rfl, iteT q⟩
  | some t =>
    have ft := hf t rfl
    have tl := ft.text
    obtain ⟨p, k, z, rfl, hs, hc⟩ := Dp_tree hv
    refine ⟨_, rfl, rfl, _, rfl, iteF ?_⟩
    refine ⟨_, rfl, p, _, rfl, hs, rfl, _, _, rfl, _, _, rfl, _, _, rfl, rfl, ?_⟩
    refine ⟨_, rfl, _, rfl, x, t.text, rfl, hx, by omega, ?_⟩
    by_cases hp : t.text <+: x
    · rw [if_pos hp]
      obtain ⟨y, ey⟩ := hp
      have ed : x.drop t.text.length = y := by rw [← ey, List.drop_left]
      have yl : y.length ≤ 1000 := by rw [← ed, List.length_drop]; omega
      rw [ed]
      refine ⟨_, rfl, rfl, _, rfl, iteF ?_⟩
      rcases hc with ⟨m, e, rfl, rfl⟩ | ⟨bs, e, rfl, hz⟩
      · refine ⟨_, rfl, rfl, _, rfl, iteF ?_⟩
        refine ⟨_, rfl, rfl, _, rfl, ?_⟩
        have ef : fndO (some t) x = if x = t.text then some m else none := by rw [e]; show fnd _ x = _; unfold fnd; rw [← e]
        rw [ef] at q
        have ex : (V.str (st y) = V.str (Str.ofString "")) ↔ x = t.text := by
          rw [show V.str (Str.ofString "") = V.str (st []) from rfl, st_iff]
          constructor
          · intro z; rw [← ey, z, List.append_nil]
          · intro z; rw [← ey] at z; exact List.append_right_eq_self.mp z
        by_cases c : x = t.text
        · rw [if_pos c] at q
          rw [decide_eq_true (ex.mpr c)]
          exact iteT ⟨_, rfl, q⟩
        · rw [if_neg c] at q
          rw [decide_eq_false (fun z => c (ex.mp z))]
          exact iteF q
      · refine ⟨_, rfl, rfl, _, rfl, iteT ?_⟩
        have zy : (st y).length ≤ sizeLine := by rw [st_len]; exact smallZ (by omega)
        have fb : Fits (.fork t.text bs) := by rw [← e]; exact ft
        refine ⟨_, rfl, _, rfl, 1, rfl, _, rfl, zy, ?_⟩
        rw [show cutS (st y) none (some 1) = _ from cut_to _ 1]
        refine ⟨z, bs, y.take 1, rfl, hz, fun u hu => ?_⟩
        refine ⟨_, rfl, 1, rfl, _, rfl, zy, ?_⟩
        rw [show cutS (st y) (some 1) none = _ from cut_from _ 1]
        have ef : fndO (some t) x = fndO (innr bs (y.take 1)) (y.drop 1) := by
          rw [e]
          show fnd _ x = _
          unfold fnd
          rw [if_pos ⟨y, ey⟩, ed, fndIn_eq]
          rfl
        rw [ef] at q
        refine ⟨u, innr bs (y.take 1), y.drop 1, rfl, hu, fun u' hu' => (fb.sub (innr_mem hu')).1, ?_, by rw [List.length_drop]; omega, q⟩
        have hdt : t.deep < n + 1 := hd
        rw [e] at hdt
        cases hi : innr bs (y.take 1) with
        | none =>
          have : 1 ≤ (Tr.fork t.text bs).deep := Tr.deep_pos _
          have : 0 < deeps bs := by
            have h2 := fb.1.1
            match bs, h2 with
            | (s, u) :: r, _ => have := u.deep_pos; have : u.deep ≤ deeps ((s, u) :: r) := Nat.le_max_left _ _; omega
          simp only [Tr.deep] at hdt
          show 0 < n
          omega
        | some u' =>
          have := (fb.sub (innr_mem hi)).2.1
          show u'.deep < n
          simp only at this
          omega
    · rw [if_neg hp]
      refine ⟨_, rfl, rfl, _, rfl, iteT ?_⟩
      have ef : fndO (some t) x = none := by
        show fnd t x = none
        cases t with
        | leaf t m => unfold fnd; rw [if_neg (fun z => hp (by rw [z]; exact List.prefix_refl _))]
        | fork t bs =>
          have hp' : ¬ t <+: x := hp
          unfold fnd; rw [if_neg hp']
      rw [ef] at q
      exact q
theorem has_found (D : DefAt K mg "found" sfound f fd) (b : Binds K fd pfound []) (G_rest : Has P w K mg base "rest" prest 1 spRest) (G_inner_of : Has P w K mg base "inner_of" pinner_of 1 (spInner K)) : ∀ n, Has P w K mg base "found" pfound (n + 1) (spFound K n)
  | 0 => D.has b (ok_found0.mono (Nat.zero_le _))
  | n + 1 => D.has b (ok_found1 D.1 (has_found D b G_rest G_inner_of n) G_rest G_inner_of)
theorem ok_put0 : FnOk P w K mg base CX0 0 f fd pput (spPutN K 0) := by
  have no : ∀ vs H Q E, ¬ spPutN K 0 vs H Q E := fun vs H Q E h => by
    obtain ⟨v, o, x, k, _, _, _, _, h5, _⟩ := h
    omega
  exact ⟨fun vs H Q E h => absurd h (no vs H Q E), fun A outer s H args us vs Q E _ _ _ _ h => absurd h (no vs H Q E)⟩
theorem ok_put1 {n : Nat} (F : Fun K "put" "put" sput f fd) (G_put : Has P w K mg base "put" pput (n + 1) (spPutN K n)) (G_common : Has P w K mg base "common" pcommon 1 spCommon) (G_inner_of : Has P w K mg base "inner_of" pinner_of 1 (spInner K))
    (G_placed : Has P w K mg base "placed" pplaced 1 (spPlaced K)) (G_branches_behind : Has P w K mg base "branches_behind" pbranches_behind 1 (spBehind K)) (m_len : mg "len" = none) :
    FnOk P w K mg base CX0 (n + 2) f fd pput (spPutN K (n + 1)) := by
  refine F.ok cput (fun vs H Q E h => ?_) (fun cdv A outer s H vs Q E hr h => ?_)
  · obtain ⟨v, o, x, k, rfl, _⟩ := h
    rfl
  obtain ⟨v, o, x, k, rfl, hv, hf, ha, hd, hx, hxa, q⟩ := h
  refine ⟨_, (pss_cons (ps_if (PW.pt (pw_or (pt_cmpR op_isN (pv 0) pe_non (nomark _)) (pw_or1 (pt_cmpR (op_eqD hr.units) (pe_slice sl_tup (pv 0) po_none (po_some pe_int)) (pe_tup (pa_cons pe_str (pa_cons (pv 1) pa_nil))) (nomark _))))) (pss_one (ps_ret (pe_tup (pa_cons pe_str (pa_cons (pv 1) (pa_cons (pv 2) pa_nil)))))) pss_nil)
    (pss_cons (ps_set (i := 3) cput.nd rfl (Or.inl rfl) (pe_has G_common hr (by omega) (pa_cons (pe_ix (r := rIxT K) ix_tup (pv 0) pe_int (fun _ _ => rfl)) (pa_cons (pv 1) pa_nil))))
    (pss_cons (ps_set (i := 4) cput.nd rfl (Or.inl rfl) (pe_has G_branches_behind hr (by omega) (pa_cons (pv 0) (pa_cons (pv 3) pa_nil))))
    (pss_cons (ps_set (i := 5) cput.nd rfl (Or.inl rfl) (pe_slice sl_str (pv 1) (po_some (pe_callB call_len_str (by rfl) m_len (by decide +kernel) (pa_cons (pv 3) pa_nil))) po_none))
    (pss_cons (ps_set (i := 6) cput.nd rfl (Or.inl rfl) (pe_slice sl_str (pv 5) po_none (po_some pe_int)))
    (pss_cons (ps_set (i := 7) cput.nd rfl (Or.inl rfl) (pe_has G_put hr (by omega) (pa_cons (pe_has G_inner_of hr (by omega) (pa_cons (pv 4) (pa_cons (pv 6) pa_nil))) (pa_cons (pe_slice sl_str (pv 5) (po_some pe_int) po_none) (pa_cons (pv 2) pa_nil)))))
    (pss_one (ps_ret (pe_tup (pa_cons pe_str (pa_cons (pv 3) (pa_cons (pe_has G_placed hr (by omega) (pa_cons (pv 4) (pa_cons (pe_tup (pa_cons (pv 6) (pa_cons (pv 7) pa_nil))) pa_nil))) pa_nil)))))))))))), ?_⟩
  cases o with
  | none =>
    cases Dp_non hv
    exact ⟨_, rfl, rfl, _, rfl, iteT ⟨_, rfl, _, rfl, (by show 3 ≤ sizeLine; decide), fun l nl => q _ _ (same_new nl _) (Dp_new nl (.cons (.str _) (.cons (.str _) (.cons (.int _) .nil))))⟩⟩
  | some t =>
    have ft := hf t rfl
    have ta := (ha t rfl).text ft.1
    have tl := ft.text
    obtain ⟨p, kd, z, rfl, hs, hc⟩ := Dp_tree hv
    have hk : ∃ s : Str, kd = .str s ∧ PyData.strOk s = true ∧ ((s = Str.ofString "leaf" ∧ ∃ m, t = .leaf t.text m) ∨ (s = Str.ofString "fork" ∧ ∀ m, t ≠ .leaf x m)) := by
      rcases hc with ⟨m, e, rfl, _⟩ | ⟨bs, e, rfl, _⟩
      · exact ⟨_, rfl, by decide +kernel, .inl ⟨rfl, m, e⟩⟩
      · exact ⟨_, rfl, by decide +kernel, .inr ⟨rfl, fun m e2 => by rw [e] at e2; cases e2⟩⟩
    obtain ⟨s0, rfl, hs0, hk⟩ := hk
    refine ⟨_, rfl, rfl, _, rfl, iteF ?_⟩
    refine ⟨_, rfl, 2, rfl, p, _, rfl, hs, (fun e => absurd e.2 (by show HT.sIx 3 3 (some 2) ≠ 3; decide +kernel)), fun p2 n2 => ?_⟩
    have s2 := same_new n2 (.tup (cutV [V.str s0, V.str (st t.text), z] none (some 2)))
    have h2 : Dp K (upd H p2 (.tup (cutV [V.str s0, V.str (st t.text), z] none (some 2)))) (.ref p2) (headD s0 t.text) := Dp_new n2 (show DpAll K H [V.str s0, V.str (st t.text)] _ from .cons (.str _) (.cons (.str _) .nil))
    generalize hH2 : upd H p2 (.tup (cutV [V.str s0, V.str (st t.text), z] none (some 2))) = H2 at s2 h2
    refine ⟨_, rfl, (by show 2 ≤ sizeLine; decide), fun p3 n3 => ?_⟩
    have s3 := same_new n3 (.tup [.str (Str.ofString "leaf"), .str (st x)])
    have h3 : Dp K (upd H2 p3 (.tup [.str (Str.ofString "leaf"), .str (st x)])) (.ref p3) (headD (Str.ofString "leaf") x) := Dp_new n3 (.cons (.str _) (.cons (.str _) .nil))
    have h23 := Dp_same s3 h2
    have s03 := s2.trans s3
    generalize hH3 : upd H2 p3 (.tup [.str (Str.ofString "leaf"), .str (st x)]) = H3 at s3 h3 h23 s03
    refine ⟨headD s0 t.text, headD (Str.ofString "leaf") x, h23, h3, head_shaped hs0 ta, head_shaped (by decide +kernel) hxa, _, rfl, ?_⟩
    rw [head_eqv]
    by_cases c : s0 = Str.ofString "leaf" ∧ t.text = x
    · rw [decide_eq_true c.1, decide_eq_true c.2]
      refine iteT ⟨_, rfl, _, rfl, (by show 3 ≤ sizeLine; decide), fun l nl => q _ _ (s03.trans (same_new nl _)) ?_⟩
      have e : ∃ m, t = .leaf x m := by
        rcases hk with ⟨_, m, e⟩ | ⟨e, _⟩
        · exact ⟨m, by rw [c.2] at e; exact e⟩
        · exact absurd (c.1.symm.trans e) (by decide +kernel)
      obtain ⟨m, e⟩ := e
      have eo : pttO (some t) x k = .leaf x k := by
        rw [e]; show ptt _ x k = _; unfold ptt; rw [if_pos rfl]
      rw [eo]
      exact Dp_new nl (.cons (.str _) (.cons (.str _) (.cons (.int _) .nil)))
    · have cf : (decide (s0 = Str.ofString "leaf") && decide (t.text = x)) = false := by
        rw [Bool.and_eq_false_iff]
        by_cases c1 : s0 = Str.ofString "leaf"
        · exact .inr (decide_eq_false fun c2 => c ⟨c1, c2⟩)
        · exact .inl (decide_eq_false c1)
      rw [cf]
      refine iteF ?_
      have nl' : ∀ m, t ≠ .leaf x m := by
        rcases hk with ⟨e1, m, e2⟩ | ⟨_, e⟩
        · intro m' e3
          exact c ⟨e1, by rw [e3]; rfl⟩
        · exact e
      obtain ⟨eo, hin⟩ := ptt_beh t x k nl'
      have cl : (t.text.take (lcp t.text x)).length = lcp t.text x := by
        rw [List.length_take]; have := lcp_le1 t.text x; omega
      have hs3 := sameT s03 hs
      have l1 := lcp_le1 t.text x
      have hv3 := Dp_same s03 hv
      refine ⟨_, rfl, p, _, _, _, rfl, rfl, hs3, (rfl : atI [V.str s0, V.str (st t.text), z] 1 = some (V.str (st t.text))), _, rfl, t.text, x, rfl, by omega, hx, fun H4 s4 => ?_⟩
      refine ⟨_, rfl, _, rfl, .ref p, t, t.text.take (lcp t.text x), rfl, Dp_same s4 hv3, tl, by omega, fun bv H5 s5 hb => ?_⟩
      have zx : (st x).length ≤ sizeLine := by rw [st_len]; exact smallZ (by omega)
      have zs : (st (t.text.take (lcp t.text x))).length ≤ sizeLine := by rw [st_len]; exact smallZ (by omega)
      refine ⟨_, rfl, _, rfl, _, rfl, zs, _, rfl, _, rfl, zx, ?_⟩
      rw [st_len, cl, cut_from]
      generalize hy : x.drop (lcp t.text x) = y at eo hin
      have yl : y.length ≤ 1000 := by rw [← hy, List.length_drop]; omega
      have ya : ∀ c ∈ y, c < 127 := fun c hc => hxa c (List.mem_of_mem_drop (by rw [hy]; exact hc))
      have zy : (st y).length ≤ sizeLine := by rw [st_len]; exact smallZ (by omega)
      refine ⟨_, rfl, 1, rfl, _, rfl, zy, ?_⟩
      rw [show cutS (st y) none (some 1) = _ from cut_to _ 1]
      refine ⟨_, rfl, _, rfl, bv, _, y.take 1, rfl, hb, fun u hu => ?_⟩
      refine ⟨_, rfl, 1, rfl, _, rfl, zy, ?_⟩
      rw [show cutS (st y) (some 1) none = _ from cut_from _ 1]
      have hdt : t.deep < n + 1 := hd
      have fin : FitsO (innr (behB t (t.text.take (lcp t.text x))) (y.take 1)) ∧ AscO (innr (behB t (t.text.take (lcp t.text x))) (y.take 1)) ∧ dpt (innr (behB t (t.text.take (lcp t.text x))) (y.take 1)) < n := by
        cases hi : innr (behB t (t.text.take (lcp t.text x))) (y.take 1) with
        | none =>
          refine ⟨fun u e => (by cases e), fun u e => (by cases e), ?_⟩
          show 0 < n
          cases ht : t with
          | leaf t' m =>
            -- a leaf of another text: one more call is there
            have : 1 ≤ t.deep := t.deep_pos
            omega
          | fork t' bs => have : 1 ≤ t.deep := t.deep_pos; omega
        | some u' =>
          obtain ⟨bs, e, s', hm⟩ := hin u' hi
          have fb : Fits (.fork t.text bs) := by rw [← e]; exact ft
          have ab : Asc (.fork t.text bs) := by rw [← e]; exact ha t rfl
          obtain ⟨g1, g2, _⟩ := fb.sub hm
          rw [e] at hdt
          refine ⟨fun u2 e2 => by cases e2; exact g1, fun u2 e2 => by cases e2; exact ab.sub hm, ?_⟩
          show u'.deep < n
          have g2 : u'.deep < (Tr.fork t.text bs).deep := g2
          omega
      obtain ⟨f1, f2, f3⟩ := fin
      refine ⟨_, rfl, u, _, y.drop 1, k, rfl, hu, f1, f2, f3, by rw [List.length_drop]; omega, fun c hc => ya c (List.mem_of_mem_drop hc), fun u3 H6 s6 hu3 => ?_⟩
      refine ⟨_, rfl, _, rfl, _, rfl, _, rfl, (by show 2 ≤ sizeLine; decide), fun r nr => ?_⟩
      have sr := same_new nr (.tup [.str (st (y.take 1)), u3])
      have bl : (behB t (t.text.take (lcp t.text x))).length ≤ 5000 := by
        by_cases hb1 : (∃ m, t = .leaf t.text m) ∨ t.text ≠ t.text.take (lcp t.text x)
        · rw [beh_one hb1]; show 1 ≤ 5000; omega
        · obtain ⟨n1, n2⟩ := not_or.mp hb1
          have et : t.text = t.text.take (lcp t.text x) := Decidable.byContradiction fun z => n2 z
          rw [← et]
          cases ht : t with
          | leaf t' m => exact absurd ⟨m, by rw [ht]; rfl⟩ n1
          | fork t' bs =>
            show (behB (.fork t' bs) t').length ≤ 5000
            rw [beh_all]
            have fb : Fits (.fork t' bs) := by rw [← ht]; exact ft
            exact fb.len
      refine ⟨bv, .ref r, _, (y.take 1, pttO (innr (behB t (t.text.take (lcp t.text x))) (y.take 1)) (y.drop 1) k), rfl, Dp_same (s6.trans sr) hb, Dp_new nr (.cons (.str _) (.cons hu3 .nil)), bl, fun u4 H7 s7 hu4 => ⟨(by show 3 ≤ sizeLine; decide), fun m nm => ?_⟩⟩
      refine q _ _ ((((s03.trans s4).trans s5).trans ((s6.trans sr).trans s7)).trans (same_new nm _)) ?_
      rw [show pttO (some t) x k = ptt t x k from rfl, eo]
      exact Dp_new nm (.cons (.str _) (.cons (.str _) (.cons hu4 .nil)))
theorem has_put (D : DefAt K mg "put" sput f fd) (b : Binds K fd pput []) (G_common : Has P w K mg base "common" pcommon 1 spCommon) (G_inner_of : Has P w K mg base "inner_of" pinner_of 1 (spInner K))
    (G_placed : Has P w K mg base "placed" pplaced 1 (spPlaced K)) (G_branches_behind : Has P w K mg base "branches_behind" pbranches_behind 1 (spBehind K)) (m_len : mg "len" = none) : ∀ n, Has P w K mg base "put" pput (n + 1) (spPutN K n)
  | 0 => D.has b (ok_put0.mono (Nat.zero_le _))
  | n + 1 => D.has b (ok_put1 D.1 (has_put D b G_common G_inner_of G_placed G_branches_behind m_len n) G_common G_inner_of G_placed G_branches_behind m_len)
theorem ok_Pless0 : FnOk P w K mg base CX0 0 f fd pPless (spLess K 0) := by
  have no : ∀ vs H Q E, ¬ spLess K 0 vs H Q E := fun vs H Q E h => by
    obtain ⟨v, t, x, k, _, _, _, h5, _⟩ := h
    omega
  exact ⟨fun vs H Q E h => absurd h (no vs H Q E), fun A outer s H args us vs Q E _ _ _ _ h => absurd h (no vs H Q E)⟩
theorem ok_Pless1 {n : Nat} (F : Fun K "_less" "_less" sPless f fd) (G_Pless : Has P w K mg base "_less" pPless (n + 2) (spLess K n)) (G_inner_of : Has P w K mg base "inner_of" pinner_of 1 (spInner K))
    (G_replaced : Has P w K mg base "replaced" preplaced 2 (spReplaced K)) (m_len : mg "len" = none) :
    FnOk P w K mg base CX0 (n + 3) f fd pPless (spLess K (n + 1)) := by
  refine F.ok cPless (fun vs H Q E h => ?_) (fun cdv A outer s H vs Q E hr h => ?_)
  · obtain ⟨v, t, x, k, rfl, _⟩ := h
    rfl
  obtain ⟨v, t, x, k, rfl, hv, ft, hd, hx, q⟩ := h
  have xl := ft.2.1 _ _ hx
  have tl := ft.text
  have zx : (st x).length ≤ sizeLine := by rw [st_len]; exact smallZ (by omega)
  refine ⟨_, (pss_cons (ps_asg (pv 0) (pg_tup (by rfl) (pgs_cons (pg_name (i := 2) cPless.nd rfl (Or.inl rfl)) (pgs_cons (pg_name (i := 3) cPless.nd rfl (Or.inl rfl)) (pgs_cons (pg_name (i := 4) cPless.nd rfl (Or.inl rfl)) pgs_nil)))))
    (pss_cons (ps_if (pt_cmpR op_eq (pv 2) pe_str (nomark _)) (pss_one (ps_ret pe_non)) pss_nil)
    (pss_cons (ps_set (i := 5) cPless.nd rfl (Or.inl rfl) (pe_slice sl_str (pv 1) (po_some (pe_callB call_len_str (by rfl) m_len (by decide +kernel) (pa_cons (pv 3) pa_nil))) po_none))
    (pss_cons (ps_set (i := 6) cPless.nd rfl (Or.inl rfl) (pe_slice sl_str (pv 5) po_none (po_some pe_int)))
    (pss_one (ps_ret (pe_has G_replaced hr (by omega) (pa_cons (pv 0) (pa_cons (pv 6) (pa_cons (pe_has G_Pless hr (by omega) (pa_cons (pe_has G_inner_of hr (by omega) (pa_cons (pv 4) (pa_cons (pv 6) pa_nil))) (pa_cons (pe_slice sl_str (pv 5) (po_some pe_int) po_none) pa_nil))) pa_nil)))))))))), ?_⟩
  obtain ⟨p, kd, z, rfl, hs, hc⟩ := Dp_tree hv
  have zt : (st t.text).length ≤ sizeLine := by rw [st_len]; exact smallZ (by omega)
  refine ⟨_, rfl, p, _, rfl, hs, rfl, _, _, rfl, _, _, rfl, _, _, rfl, rfl, ?_⟩
  rcases hc with ⟨m, e, rfl, rfl⟩ | ⟨bs, e, rfl, hz⟩
  · refine ⟨_, rfl, rfl, _, rfl, iteT (q .non H (Same.refl H) ?_)⟩
    have e2 : wot t x = none := by rw [e]; simp [wot]
    rw [e2]; exact .non
  · refine ⟨_, rfl, rfl, _, rfl, iteF ?_⟩
    have fb : Fits (.fork t.text bs) := by rw [← e]; exact ft
    have w := wfB_iff.mp fb.1.2
    have hx' : (x, k) ∈ (Tr.fork t.text bs).rws := by rw [← e]; exact hx
    obtain ⟨y, ey, hy⟩ := mem_fork.mp hx'
    have ed : x.drop t.text.length = y := by rw [ey, List.drop_left]
    have yl : y.length ≤ 1000 := by rw [← ed, List.length_drop]; omega
    have zy : (st y).length ≤ sizeLine := by rw [st_len]; exact smallZ (by omega)
    obtain ⟨b, hb, v', ev, hv'⟩ := mem_rwss.mp hy
    obtain ⟨g1, g2⟩ := sign_of (w.1 b hb) hv'
    rw [← ev] at g1 g2
    have hi : innr bs (y.take 1) = some b.2 := by rw [← g1]; exact mem_innr w.2 hb
    refine ⟨_, rfl, _, rfl, _, rfl, zt, _, rfl, _, rfl, zx, ?_⟩
    rw [st_len, cut_from, ed]
    refine ⟨_, rfl, 1, rfl, _, rfl, zy, ?_⟩
    rw [show cutS (st y) none (some 1) = _ from cut_to _ 1]
    have hw : wot t x = repl t.text bs (y.take 1) (wot b.2 (y.drop 1)) := by
      conv => lhs; rw [e]
      rw [wot_repl, ed, hi]; rfl
    rw [hw] at q
    refine ⟨_, rfl, _, rfl, _, rfl, _, rfl, z, bs, y.take 1, rfl, hz, fun u hu => ?_⟩
    refine ⟨_, rfl, 1, rfl, _, rfl, zy, ?_⟩
    rw [show cutS (st y) (some 1) none = _ from cut_from _ 1]
    rw [hi] at hu
    obtain ⟨fs, ds, ls⟩ := fb.sub hb
    have hdt : t.deep < n + 1 := hd
    rw [e] at hdt
    refine ⟨u, b.2, y.drop 1, k, rfl, hu, fs, by omega, by rw [← g2]; exact hv', fun r H1 s1 hr1 => ?_⟩
    have hv1 := Dp_same s1 hv
    rw [e] at hv1
    refine ⟨.ref p, r, t.text, bs, y.take 1, wot b.2 (y.drop 1), rfl, hv1, hr1, fb.len, tl, by rw [List.length_take]; omega, fun c hc => ?_, fun _ => filt_ne w.2 fb.1.1, fun u4 H4 s4 hu4 => q _ _ (s1.trans s4) hu4⟩
    have := fb.sub hc
    exact ⟨this.2.2, this.1.text⟩
theorem has_Pless (D : DefAt K mg "_less" sPless f fd) (b : Binds K fd pPless []) (G_inner_of : Has P w K mg base "inner_of" pinner_of 1 (spInner K)) (G_replaced : Has P w K mg base "replaced" preplaced 2 (spReplaced K)) (m_len : mg "len" = none) :
    ∀ n, Has P w K mg base "_less" pPless (n + 2) (spLess K n)
  | 0 => D.has b (ok_Pless0.mono (Nat.zero_le _))
  | n + 1 => D.has b (ok_Pless1 D.1 (has_Pless D b G_inner_of G_replaced m_len n) G_inner_of G_replaced m_len)
theorem ok_without {CN CT : Addr} (F : Fun K "without" "without" swithout f fd) (T : ErrTxt K mg "NotThere" CN CT) (G_found : Has P w K mg base "found" pfound 51 (spFound K 50)) (G_Pless : Has P w K mg base "_less" pPless 52 (spLess K 50)) :
    FnOk P w K mg base (L2.CX P w) 53 f fd pwithout (spWithout K CN 50) := by
  refine F.okX cwithout (fun vs H Q E h => ?_) (fun cdv A outer s H vs Q E hr h => ?_)
  · obtain ⟨v, o, x, rfl, _⟩ := h
    rfl
  obtain ⟨v, o, x, rfl, hv, hf, hd, hx, ht, qn, qs⟩ := h
  refine ⟨_, pss_cons (ps_if (pt_cmpR op_isN (pe_has G_found hr (by omega) (pa_cons (pv 0) (pa_cons (pv 1) pa_nil))) pe_non (nomark _))
      (pss_one (ps_raise rfl (takes_of rfl rfl rfl rfl) (SkE.pmk_own1 PySem.F.excBase_ValueError T.xN T.gN T.kN (raises_own T.bN T.tN) (by rfl) (pe_joined (.cons pe_str (.cons (pe_fmtR (pv 1)) (.cons pe_str .nil))))))) pss_nil)
    (pss_one (ps_ret (pe_has G_Pless hr (by omega) (pa_cons (pv 0) (pa_cons (pv 1) pa_nil))))), ?_⟩
  refine ⟨_, rfl, _, rfl, v, o, x, rfl, hv, hf, hd, by omega, rfl, _, rfl, ?_⟩
  have rs := repr_small (l := x) (by omega) ht
  cases e : fndO o x with
  | none =>
    refine iteT ?_
    have z : ∀ (a b : Str), a.length ≤ 100 → b.length ≤ 100000 → (a ++ b).length ≤ 100100 := fun a b h1 h2 => by
      have : (a ++ b).length = a.length + b.length := by
        show (a.cps ++ b.cps).size = _
        rw [Array.size_append]; rfl
      omega
    have len : ∀ a b : Str, (a ++ b).length = a.length + b.length := fun a b => by
      show (a.cps ++ b.cps).size = _
      rw [Array.size_append]; rfl
    refine ⟨_, rfl, by decide +kernel, _, rfl, .inl ⟨_, rfl, smallZ rs, _, rfl, ?_, _, rfl, ?_, qn e⟩⟩
    · have h0 : (Str.empty ++ Str.ofString "the name ").length ≤ 100 := by decide +kernel
      rw [len]
      exact Nat.le_trans (Nat.add_le_add h0 rs) (by decide)
    · have h0 : (Str.empty ++ Str.ofString "the name ").length ≤ 100 := by decide +kernel
      have h1 : (Str.ofString " is not kept").length ≤ 100 := by decide +kernel
      rw [len, len]
      exact Nat.le_trans (Nat.add_le_add (Nat.add_le_add h0 rs) h1) (by decide)
  | some k =>
    refine iteF ?_
    cases o with
    | none => cases e
    | some t =>
      have hf' := hf t rfl
      have hm := (fnd_iff t hf'.1 x k).mp e
      exact ⟨_, rfl, _, rfl, v, t, x, k, rfl, hv, hf', hd, hm, qs k e⟩
theorem ok_Pbelow (F : Fun K "_below" "_below" sPbelow f fd)
    (G_cut : Has P w K mg base "cut" pcut 52 (spCut K)) :
    FnOk P w K mg base CX0 53 f fd pPbelow (spBelow K) := by
  refine F.ok cPbelow (fun vs H Q E h => ?_) (fun cdv A outer s H vs Q E hr h => ?_)
  · obtain ⟨v, o, b, R, rfl, _⟩ := h
    rfl
  obtain ⟨v, o, b, R, rfl, hv, tr, hf, hd, hb, q⟩ := h
  refine ⟨_, (pss_cons (ps_asg (pe_has G_cut hr (by omega) (pa_cons (pv 0) (pa_cons (pv 1) pa_nil))) (pg_tup (by rfl) (pgs_cons (pg_name (i := 2) cPbelow.nd rfl (Or.inl rfl)) (pgs_cons (pg_name (i := 3) cPbelow.nd rfl (Or.inl rfl)) pgs_nil))))
    (pss_one (ps_ret (pv 3)))), ?_⟩
  refine ⟨_, rfl, _, rfl, v, o, b, R, rfl, hv, tr, hf, hd, hb, fun u o1 o2 H1 t1 t2 s1 hu => ?_⟩
  obtain ⟨p, l1, l2, rfl, hp, d1, d2⟩ := Dp_two hu
  exact ⟨p, _, rfl, hp, rfl, _, _, rfl, _, _, rfl, rfl, _, rfl, q _ _ _ t2 s1 d2⟩
theorem ok_under (F : Fun K "under" "under" sunder f fd)
    (G_names : Has P w K mg base "names" pnames 51 (spNames K 50))
    (G_Pbelow : Has P w K mg base "_below" pPbelow 53 (spBelow K)) :
    FnOk P w K mg base CX0 90 f fd punder (spUnder K) := by
  refine F.ok cunder (fun vs H Q E h => ?_) (fun cdv A outer s H vs Q E hr h => ?_)
  · obtain ⟨v, o, R, b, rfl, _⟩ := h
    rfl
  obtain ⟨v, o, R, b, rfl, ⟨hv, tr, g⟩, hb, q⟩ := h
  refine ⟨_, (pss_one (ps_ret (pe_lc (own := [("behind", 2), ("number", 3)]) (g := (gTup K 2 (gCons (gName 2) (gCons (gName 3) gNil)))) (by rfl) cunder.nd (pi_list (pe_has G_names hr (by omega) (pa_cons (pe_has G_Pbelow hr (by omega) (pa_cons (pv 0) (pa_cons (pv 1) pa_nil))) pa_nil))) (blkOk_by (own := [("behind", 2), ("number", 3)]) (N := ["tree", "beginning", "behind", "number"]) (sc := defScope sunder) (by decide +kernel)) (fun _ _ _ _ _ => pg_tup rfl (pgs_cons (pg_name (i := 2) cunder.nd rfl (Or.inl rfl)) (pgs_cons (pg_name (i := 3) cunder.nd rfl (Or.inl rfl)) pgs_nil))) (fun _ _ _ _ _ => pts_nil) (fun _ _ _ _ _ => (pe_tup (pa_cons (pe_op op_add_str (pv 1) (pv 2)) (pa_cons (pv 3) pa_nil))))))), ?_⟩
  obtain ⟨ff, fd50⟩ := good_fits tr g
  have g2 := gone_good (b := b) g
  have gl := g2.2.1
  refine ⟨_, rfl, _, rfl, v, o, b, R, rfl, hv, tr, ff, fd50, by omega, fun u o2 H1 t2 s1 hu => ?_⟩
  obtain ⟨f2, fd2⟩ := good_fits t2 g2
  refine ⟨u, o2, rfl, hu, f2, fd2, fun L acc H2 nL s2 eL dL => ?_⟩
  rw [rows_rO, (treed_rO t2).1] at dL
  have al : acc.length = (goneR b R).length := by rw [DpAll_len dL, List.length_map]
  refine ⟨L, rfl, ⟨_, SqL.of eL⟩, fun D nD => lc_list (K := K) (xs := acc) (LcP K H2 D (fm (goneR b R) (fun _ => true) (fun r => rowD (pre b r)))) (lcp0 nD rfl) (fun _ _ _ h => h.1.seq (SqL.of eL)) (fun j y H3 hy h3 => ?_) (fun H3 h3 => ?_)⟩
  · obtain ⟨r, hr, hxr⟩ := DpAll_map dL hy
    have hrm := List.mem_of_getElem? hr
    have hrl := (g2.2.2 r hrm).1
    obtain ⟨t, z1, z2, rfl, ht1, ht2, ht3⟩ := Dp_two (Dp_same h3.1 hxr)
    cases Dp_str ht2
    refine ⟨t, _, rfl, ht1, rfl, _, _, rfl, _, _, rfl, rfl, rfl, yes_if ?_⟩
    refine ⟨_, rfl, _, rfl, _, _, rfl, rfl, ?_, ?_⟩
    · rw [st_len, st_len]; exact smallZ (by omega)
    rw [st_add]
    refine ⟨_, rfl, (by show 2 ≤ sizeLine; decide), fun c nc => ?_⟩
    exact lcp_add h3 nD (same_new nc _) (Dp_new nc (.cons (.str _) (.cons ht3 .nil))) (fm_yes hr rfl) (fm_nolist fun _ => rfl) rfl (Nat.le_trans fm_len (by omega))
  rw [al] at h3
  obtain ⟨s3, acc3, e3, d3⟩ := h3
  rw [fm_all] at d3
  refine q D acc3 H3 (s1.free (s2.free nD)) ((s1.trans s2).trans s3) e3 ?_
  rw [below_gone, List.map_map]
  rw [List.filter_eq_self.mpr fun _ _ => rfl] at d3
  exact d3
theorem ok_many (F : Fun K "many" "many" smany f fd)
    (G_names : Has P w K mg base "names" pnames 51 (spNames K 50))
    (G_Pbelow : Has P w K mg base "_below" pPbelow 53 (spBelow K)) (m_len : mg "len" = none) :
    FnOk P w K mg base CX0 90 f fd pmany (spMany K) := by
  refine F.ok cmany (fun vs H Q E h => ?_) (fun cdv A outer s H vs Q E hr h => ?_)
  · obtain ⟨v, o, R, b, rfl, _⟩ := h
    rfl
  obtain ⟨v, o, R, b, rfl, ⟨hv, tr, g⟩, hb, q⟩ := h
  refine ⟨_, (pss_one (ps_ret (pe_callB call_len_seq (by rfl) m_len (by decide +kernel) (pa_cons (pe_has G_names hr (by omega) (pa_cons (pe_has G_Pbelow hr (by omega) (pa_cons (pv 0) (pa_cons (pv 1) pa_nil))) pa_nil)) pa_nil)))), ?_⟩
  obtain ⟨ff, fd50⟩ := good_fits tr g
  have g2 := gone_good (b := b) g
  refine ⟨_, rfl, _, rfl, v, o, b, R, rfl, hv, tr, ff, fd50, by omega, fun u o2 H1 t2 s1 hu => ?_⟩
  obtain ⟨f2, fd2⟩ := good_fits t2 g2
  refine ⟨u, o2, rfl, hu, f2, fd2, fun L acc H2 nL s2 eL dL => ?_⟩
  rw [rows_rO, (treed_rO t2).1] at dL
  refine ⟨L, acc, rfl, .inl (SqL.of eL), ?_⟩
  have al : acc.length = (below b R).length := by rw [DpAll_len dL, List.length_map, below_gone, List.length_map]
  rw [al]
  exact q _ (s1.trans s2)
theorem ok_T_init {C f1 : Addr} (F : Fun K "__init__" "Trail.__init__" sT_init f fd) (TTr : TrTxt K mg C f1) : FnOk P w K mg base CX0 1 f fd pT_init (spInit K C) := by
  refine F.ok cT_init (fun vs H Q E h => ?_) (fun cdv A outer s H vs Q E hr h => ?_)
  · obtain ⟨x, dx, rfl, _⟩ := h
    rfl
  obtain ⟨x, dx, rfl, hx, q⟩ := h
  refine ⟨_, pss_cons (ps_fld (pv 0) pe_non rfl) (pss_one (ps_fld (pv 0) (pe_lst pa_nil) rfl)), ?_⟩
  refine ⟨_, rfl, x, C, dx, [], rfl, hx, TTr.cl, TTr.nN, (by show 0 < 1000; decide), ?_⟩
  refine ⟨Nat.zero_le _, fun l hl => ?_⟩
  have nxl : x ≠ l := fun e => by rw [e, upd_same] at hl; cases hl
  have hl0 : H l = none := by rw [upd_ne nxl.symm] at hl; exact hl
  refine ⟨_, rfl, x, C, dx, _, rfl, Eq.trans (upd_ne nxl) upd_same, TTr.cl, TTr.nE, (by show 1 < 1000; decide), ?_⟩
  refine q l _ hl0 (fun b u nb e => ?_) ⟨.non, [], ?_, ?_, .non, .nil⟩
  · have nbl : b ≠ l := ne_of_none e hl0
    rw [upd_ne nb, upd_ne nbl, upd_ne nb]; exact e
  · rw [upd_same, tf_init]
  · rw [upd_ne nxl.symm, upd_same]
theorem ok_Prefuse_no_names {CT CNoName : Addr} (F : Fun K "_refuse_no_names" "_refuse_no_names" sPrefuse_no_names f fd) (TNoName : ErrTxt K mg "NoName" CNoName CT)
    (G_is_name : Has P w K mg base "is_name" pis_name 2 (spIsName K)) :
    FnOk P w K mg base (L2.CX P w) 5 f fd pPrefuse_no_names (spRefuse K CNoName) := by
  refine F.okX cPrefuse_no_names (fun vs H Q E h => ?_) (fun cdv A outer s H vs Q E hr h => ?_)
  · obtain ⟨l, ws, rfl, _⟩ := h
    rfl
  obtain ⟨l, ws, rfl, hl, hall, qe, qn⟩ := h
  refine ⟨_, (pss_one (ps_for (passes_of rfl) rfl (pi_list (pv 0)) (pg_name (i := 1) cPrefuse_no_names.nd rfl (Or.inl rfl)) (pss_one (ps_if (pt_not (pt_val (pe_has G_is_name hr (by omega) (pa_cons (pv 1) pa_nil)))) (pss_one (ps_raise rfl (takes_of rfl rfl rfl rfl) (SkE.pmk_own1 PySem.F.excBase_ValueError TNoName.xN TNoName.gN TNoName.kN (raises_own TNoName.bN TNoName.tN) (by rfl) pe_str))) pss_nil)))), ?_⟩
  refine ⟨_, rfl, l, rfl, ⟨_, SqL.of hl⟩, for_list (xs := ws) (fun i σ H' => Same H H' ∧ (∃ y1, σ = [some (.ref l), y1]) ∧ ∀ j z, j < i → ws[j]? = some z → ∃ b, Thg K H z (some b)) ⟨Same.refl _, ⟨none, rfl⟩, fun j z hj => absurd hj (Nat.not_lt_zero _)⟩ (fun i σ H' hi h1 => SqL.of (h1.1 _ _ hl)) (fun i y σ H' hy h1 => ?_) (fun σ H' h1 => ?_)⟩
  · obtain ⟨s1, ⟨y1, rfl⟩, ih⟩ := h1
    have hm := List.mem_of_getElem? hy
    obtain ⟨b, hb⟩ := hall y hm
    cases b with
    | some b =>
      obtain ⟨rfl, nb⟩ := hb
      have bl := (nm_iff.mp nb).1
      refine ⟨_, rfl, _, rfl, .inl ⟨b, rfl, by omega, fun H2 s2 => ⟨_, rfl, ?_⟩⟩⟩
      rw [nb]
      refine iteF ⟨s1.trans s2, ⟨_, rfl⟩, fun j z hj hz => ?_⟩
      by_cases e : j = i
      · subst e
        rw [hy] at hz; cases hz
        exact ⟨b, rfl, nb⟩
      · exact ih j z (by omega) hz
    | none =>
      have out : ∀ H2, Same H' H2 → E (.ref CNoName) none H2 := fun H2 s2 => qe ⟨y, hm, hb⟩ H2 (s1.trans s2)
      rcases hb with ⟨x, rfl, xl, nb⟩ | ⟨T, ty, hT⟩
      · refine ⟨_, rfl, _, rfl, .inl ⟨x, rfl, xl, fun H2 s2 => ⟨_, rfl, ?_⟩⟩⟩
        rw [nb]
        exact iteT (out _ s2)
      · exact ⟨_, rfl, _, rfl, .inr ⟨T, ty _ s1, hT, ⟨_, rfl, iteT (out _ (Same.refl _))⟩⟩⟩
  · obtain ⟨s1, ⟨y1, rfl⟩, ih⟩ := h1
    refine qn (fun z hz => ?_) _ s1
    obtain ⟨j, hj⟩ := List.mem_iff_getElem?.mp hz
    exact ih j z (List.getElem?_eq_some_iff.mp hj).1 hj
theorem ok_T_told {C f1 CNoName CT : Addr} (F : Fun K "told" "Trail.told" sT_told f fd) (TTr : TrTxt K mg C f1) (TNoName : ErrTxt K mg "NoName" CNoName CT) (G_Prefuse_no_names : HasX P w K mg base "_refuse_no_names" pPrefuse_no_names 5 (spRefuse K CNoName)) (G_under : Has P w K mg base "under" punder 90 (spUnder K)) :
    FnOk P w K mg base (L2.CX P w) 95 f fd pT_told (spTold K C CNoName) := by
  refine F.okX cT_told (fun vs H Q E h => ?_) (fun cdv A outer s H vs Q E hr h => ?_)
  · obtain ⟨x, dx, l, o, ps, R, w', t, rfl, _⟩ := h
    rfl
  obtain ⟨x, dx, l, o, ps, R, w', t, rfl, tr, ht, g, th, qe, qn⟩ := h
  refine ⟨_, (pss_cons (ps_expr (pe_hasX (E := E) G_Prefuse_no_names hr (by omega) (passes_call (takes_of rfl rfl rfl rfl) fun _ _ _ _ h => h) (pa_cons (pe_lst (pa_cons (pv 1) pa_nil)) pa_nil)))
    (pss_one (ps_ret (pe_has G_under hr (by omega) (pa_cons (pe_fld (pv 0) rfl) (pa_cons (pv 1) pa_nil)))))), ?_⟩
  refine ⟨_, rfl, (by show 1 ≤ sizeLine; decide), fun m nm => ?_⟩
  have sm := same_new nm (.lst [w'])
  have upm : upd H m (.lst [w']) m = some (.lst [w']) := upd_same
  refine ⟨m, [w'], rfl, upm, fun z hz => ⟨t, by rw [List.mem_singleton.mp hz]; exact th.same sm⟩, fun ⟨z, hz, hn⟩ => ?_, fun all H1 s1 => ?_⟩
  · rw [List.mem_singleton.mp hz] at hn
    cases t with
    | none => exact fun H1 s1 => qe rfl H1 (sm.trans s1)
    | some b =>
      exfalso
      obtain ⟨e, nb⟩ := th
      rcases hn with ⟨y, e2, _, nb2⟩ | ⟨T, ty, hT⟩
      · rw [e] at e2
        have := st_inj (V.str.inj e2)
        rw [← this, nb] at nb2; cases nb2
      · rw [e] at ty
        have := ty _ (Same.refl _)
        have e3 := tyx_str this
        rw [e3] at hT
        exact absurd hT (by decide +kernel)
  · obtain ⟨b, hb⟩ := all w' (List.mem_singleton.mpr rfl)
    obtain ⟨rfl, nb⟩ := hb
    have et : t = some b := by
      cases t with
      | some b' =>
        obtain ⟨e, _⟩ := th
        rw [st_inj (V.str.inj e)]
      | none =>
        exfalso
        rcases th with ⟨y, e2, _, nb2⟩ | ⟨T, ty, hT⟩
        · have := st_inj (V.str.inj e2)
          rw [← this, nb] at nb2; cases nb2
        · have e3 := tyx_str (ty _ (Same.refl _))
          rw [e3] at hT
          exact absurd hT (by decide +kernel)
    have bl := (nm_iff.mp nb).1
    have s01 := sm.trans s1
    obtain ⟨v, acc, h1, h2, h3, h4⟩ := tr.same s01
    refine ⟨_, rfl, x, C, dx, _, _, rfl, h1, TTr.cl, TTr.nN, tf_now _ _, _, rfl, v, o, R, b, rfl, ⟨h3, ht, g⟩, by omega, ?_⟩
    intro L acc' H2 nL s2 eL dL
    exact qn b et L acc' H2 (s01.free nL) (s01.trans s2) eL dL
theorem ok_T_do {C f1 : Addr} (F : Fun K "_do" "Trail._do" sT_do f fd) (TTr : TrTxt K mg C f1) : FnOk P w K mg base (L2.CX P w) 1 f fd pT_do (spDo K C) := by
  refine fn_wide (F.ok cT_do (fun vs H Q E h => ?_) (fun cdv A outer s H vs Q E hr h => ?_))
  · obtain ⟨x, dx, l, o, o', ps, u, rfl, _⟩ := h
    rfl
  obtain ⟨x, dx, l, o, o', ps, u, rfl, tr, pl, hu, q⟩ := h
  refine ⟨_, (pss_cons (ps_expr (pe_bm PySem.F.plainAttrs_list PySem.F.slot_list_append PySem.F.type_list_append mt_append (pe_fld (pv 0) rfl) (pa_cons (pe_fld (pv 0) rfl) pa_nil)))
    (pss_one (ps_fld (pv 0) (pv 1) rfl))), ?_⟩
  have nxl := tr.fr_ne
  obtain ⟨v, acc, h1, h2, h3, h4⟩ := id tr
  have al : acc.length = ps.length := by rw [DpAll_len h4, List.length_map]
  refine ⟨_, rfl, x, C, dx, _, _, rfl, h1, TTr.cl, TTr.nE, tf_earlier _ _, .inl ⟨rfl, _, SqL.of h2⟩, _, rfl, x, C, dx, _, _, rfl, h1, TTr.cl, TTr.nN, tf_now _ _, l, _, _, rfl, rfl, h2, small1000' (by omega), ?_⟩
  refine ⟨_, rfl, _, rfl, x, C, dx, _, rfl, (Eq.trans (upd_ne nxl) h1), TTr.cl, TTr.nN, (by show 2 < 1000; decide), ?_⟩
  rw [tf_put]
  have f : Fr x l H (upd (upd H l (.lst (acc ++ [v]))) x (.ins C dx (tf u l))) := fun b z nb nb2 e => by rw [upd_ne nb, upd_ne nb2]; exact e
  have kt := tr.kt f
  refine q _ f ⟨u, acc ++ [v], upd_same, by rw [upd_ne nxl.symm, upd_same], Dp_kt kt (oD_nolist _) hu, ?_⟩
  rw [List.map_append]
  exact DpAll_app (DpAll_kt kt (oDs_nolist _) h4) (.cons (Dp_kt kt (oD_nolist _) h3) .nil)
theorem ok_Pof_size {CT CTooMany : Addr} (F : Fun K "_of_size" "_of_size" sPof_size f fd) (TTooMany : ErrTxt K mg "TooMany" CTooMany CT) (G_names : Has P w K mg base "names" pnames 51 (spNames K 50)) (m_len : mg "len" = none) (gMOST_NAMES : ∃ t, mg "MOST_NAMES" = some (.int 100 t)) :
    FnOk P w K mg base (L2.CX P w) 60 f fd pPof_size (spOfSize K CTooMany) := by
  obtain ⟨tMN, gMN⟩ := gMOST_NAMES
  refine F.okX cPof_size (fun vs H Q E h => ?_) (fun cdv A outer s H vs Q E hr h => ?_)
  · obtain ⟨v, o, rfl, _⟩ := h
    rfl
  obtain ⟨v, o, rfl, hv, ff, fd50, qe, qn⟩ := h
  refine ⟨_, (pss_cons (ps_if (pt_cmpR op_gt (pe_callB call_len_seq (by rfl) m_len (by decide +kernel) (pa_cons (pe_has G_names hr (by omega) (pa_cons (pv 0) pa_nil)) pa_nil)) (pe_glob (v := .int 100) (by rfl) gMN ⟨_, rfl⟩) (nomark _)) (pss_one (ps_raise rfl (takes_of rfl rfl rfl rfl) (SkE.pmk_own1 PySem.F.excBase_ValueError TTooMany.xN TTooMany.gN TTooMany.kN (raises_own TTooMany.bN TTooMany.tN) (by rfl) pe_str))) pss_nil)
    (pss_one (ps_ret (pv 0)))), ?_⟩
  refine ⟨_, rfl, v, o, rfl, hv, ff, fd50, fun L acc H2 nL s2 eL dL => ?_⟩
  rw [rows_rO] at dL
  have al : acc.length = (rO o).length := by rw [DpAll_len dL, List.length_map]
  refine ⟨L, acc, rfl, .inl (SqL.of eL), _, _, rfl, rfl, _, rfl, ?_⟩
  rw [al]
  by_cases c : 100 < (rO o).length
  · rw [decide_eq_true (show (100 : Int) < (((rO o).length : Nat) : Int) by omega)]
    exact iteT (qe c _ s2)
  · rw [decide_eq_false (show ¬ (100 : Int) < (((rO o).length : Nat) : Int) by omega)]
    exact iteF ⟨_, rfl, qn (by omega) _ s2⟩
theorem ok_Prefuse_long_names {CT CTooLong : Addr} (F : Fun K "_refuse_long_names" "_refuse_long_names" sPrefuse_long_names f fd) (TTooLong : ErrTxt K mg "TooLong" CTooLong CT) (G_under : Has P w K mg base "under" punder 90 (spUnder K)) (m_len : mg "len" = none) (gMOST_SIGNS : ∃ t, mg "MOST_SIGNS" = some (.int 40 t)) :
    FnOk P w K mg base (L2.CX P w) 95 f fd pPrefuse_long_names (spLong K CTooLong) := by
  obtain ⟨tMS, gMS⟩ := gMOST_SIGNS
  refine F.okX cPrefuse_long_names (fun vs H Q E h => ?_) (fun cdv A outer s H vs Q E hr h => ?_)
  · obtain ⟨v, o, b, c, rfl, _⟩ := h
    rfl
  obtain ⟨v, o, b, c, rfl, hv, tr, g, hb, hc, qe, qn⟩ := h
  refine ⟨_, (pss_one (ps_for (passes_of rfl) rfl (pi_list (pe_has G_under hr (by omega) (pa_cons (pv 0) (pa_cons (pv 1) pa_nil)))) (pg_tup (by rfl) (pgs_cons (pg_name (i := 3) cPrefuse_long_names.nd rfl (Or.inl rfl)) (pgs_cons (pg_name (i := 4) cPrefuse_long_names.nd rfl (Or.inl rfl)) pgs_nil))) (pss_one (ps_if (pt_cmpR op_gt (pe_op op_sub (pe_op op_add (pe_callB call_len_str (by rfl) m_len (by decide +kernel) (pa_cons (pv 2) pa_nil)) (pe_callB call_len_str (by rfl) m_len (by decide +kernel) (pa_cons (pv 3) pa_nil))) (pe_callB call_len_str (by rfl) m_len (by decide +kernel) (pa_cons (pv 1) pa_nil))) (pe_glob (v := .int 40) (by rfl) gMS ⟨_, rfl⟩) (nomark _)) (pss_one (ps_raise rfl (takes_of rfl rfl rfl rfl) (SkE.pmk_own1 PySem.F.excBase_ValueError TTooLong.xN TTooLong.gN TTooLong.kN (raises_own TTooLong.bN TTooLong.tN) (by rfl) pe_str))) pss_nil)))), ?_⟩
  have zb : (st b).length ≤ sizeLine := by rw [st_len]; exact smallZ (by omega)
  have zc : (st c).length ≤ sizeLine := by rw [st_len]; exact smallZ (by omega)
  refine ⟨_, rfl, _, rfl, v, o, rO o, b, rfl, ⟨hv, tr, g⟩, by omega, fun L acc H2 nL s2 eL dL => ?_⟩
  have al : acc.length = (below b (rO o)).length := by rw [DpAll_len dL, List.length_map]
  have ef : ∀ r, r ∈ below b (rO o) → (c ++ r.1.drop b.length, r.2) ∈ freshR b c (rO o) ∧ b.length ≤ r.1.length := fun r hr => by
    refine ⟨by rw [fresh_eq]; exact List.mem_map.mpr ⟨r, hr, rfl⟩, ?_⟩
    exact (tk_iff.mp (List.mem_filter.mp hr).2).length_le
  refine ⟨L, rfl, ⟨_, SqL.of eL⟩, for_list (xs := acc) (fun i σ H' => H' = H2 ∧ ∃ y3 y4, σ = [some v, some (.str (st b)), some (.str (st c)), y3, y4] ∧ ∀ j r, j < i → (below b (rO o))[j]? = some r → (c ++ r.1.drop b.length).length ≤ 40) ⟨rfl, none, none, rfl, fun j r h => absurd h (Nat.not_lt_zero _)⟩ (fun i σ H' hi h1 => by rw [h1.1]; exact SqL.of eL) (fun i y σ H' hy h1 => ?_) (fun σ H' h1 => ?_)⟩
  · obtain ⟨rfl, y3, y4, rfl, ih⟩ := h1
    obtain ⟨r, hr, hxr⟩ := DpAll_map dL hy
    have hrm := List.mem_of_getElem? hr
    obtain ⟨e1, e2⟩ := ef r hrm
    have rl : r.1.length ≤ 40 := (g.2.2 r (List.mem_filter.mp hrm).1).1
    obtain ⟨t, z1, z2, rfl, ht1, ht2, ht3⟩ := Dp_two hxr
    cases Dp_str ht2
    have zr : (st r.1).length ≤ sizeLine := by rw [st_len]; exact smallZ (by omega)
    refine ⟨t, _, rfl, ht1, rfl, _, _, rfl, _, _, rfl, rfl, ?_⟩
    refine ⟨_, rfl, _, rfl, zc, _, rfl, _, rfl, zr, _, _, rfl, rfl, _, rfl, _, rfl, zb, _, _, rfl, rfl, _, _, rfl, rfl, _, rfl, ?_⟩
    rw [st_len, st_len, st_len]
    have en : (c ++ r.1.drop b.length).length = c.length + r.1.length - b.length := by rw [List.length_append, List.length_drop]; omega
    by_cases cc : 40 < (c ++ r.1.drop b.length).length
    · rw [decide_eq_true (show (40 : Int) < ((c.length : Nat) : Int) + ((r.1.length : Nat) : Int) - ((b.length : Nat) : Int) by omega)]
      exact iteT (qe ⟨_, e1, cc⟩ _ s2)
    · rw [decide_eq_false (show ¬ (40 : Int) < ((c.length : Nat) : Int) + ((r.1.length : Nat) : Int) - ((b.length : Nat) : Int) by omega)]
      refine iteF ⟨rfl, _, _, rfl, fun j r' hj hr' => ?_⟩
      by_cases ej : j = i
      · subst ej
        rw [hr] at hr'; cases hr'
        omega
      · exact ih j r' (by omega) hr'
  · obtain ⟨rfl, y3, y4, rfl, ih⟩ := h1
    refine qn (fun r hr => ?_) _ s2
    rw [fresh_eq] at hr
    obtain ⟨r0, h0, rfl⟩ := List.mem_map.mp hr
    obtain ⟨j, hj⟩ := List.mem_iff_getElem?.mp h0
    exact ih j r0 (by rw [al]; exact (List.getElem?_eq_some_iff.mp hj).1) hj
theorem ok_T_keep {C f1 CNoName CTooMany CT fT_do : Addr} {fdT_do : FuncData} (F : Fun K "keep" "Trail.keep" sT_keep f fd) (TTr : TrTxt K mg C f1) (TNoName : ErrTxt K mg "NoName" CNoName CT) (G_T_do : FnOk P w K mg base (L2.CX P w) 1 fT_do fdT_do pT_do (spDo K C)) (b_T_do : Binds K fdT_do pT_do []) (M_T_do : Meth K C "_do" fT_do)
    (G_Prefuse_no_names : HasX P w K mg base "_refuse_no_names" pPrefuse_no_names 5 (spRefuse K CNoName)) (G_found : Has P w K mg base "found" pfound 51 (spFound K 50)) (G_put : Has P w K mg base "put" pput 51 (spPutN K 50)) (G_Pof_size : HasX P w K mg base "_of_size" pPof_size 60 (spOfSize K CTooMany)) :
    FnOk P w K mg base (L2.CX P w) 100 f fd pT_keep (spKeep K C CNoName CTooMany) := by
  refine F.okX cT_keep (fun vs H Q E h => ?_) (fun cdv A outer s H vs Q E hr h => ?_)
  · obtain ⟨x, dx, l, o, ps, w', n, t, rfl, _⟩ := h
    rfl
  obtain ⟨x, dx, l, o, ps, w', n, t, rfl, tr, gt, pl, hn, th, qe, qn⟩ := h
  refine ⟨_, (pss_cons (ps_expr (pe_hasX (E := E) G_Prefuse_no_names hr (by omega) (passes_call (takes_of rfl rfl rfl rfl) fun _ _ _ _ h => h) (pa_cons (pe_lst (pa_cons (pv 1) pa_nil)) pa_nil)))
    (pss_cons (ps_set (i := 3) cT_keep.nd rfl (Or.inl rfl) (pe_has G_found hr (by omega) (pa_cons (pe_fld (pv 0) rfl) (pa_cons (pv 1) pa_nil))))
    (pss_cons (ps_expr (pe_meth (E := E) (pv 0) TTr.cl M_T_do G_T_do (hr.mono (by omega)) b_T_do .nil (passes_call (takes_of rfl rfl rfl rfl) fun _ _ _ _ h => h) (pa_cons (pe_hasX (E := E) G_Pof_size hr (by omega) (passes_call (takes_of rfl rfl rfl rfl) fun _ _ _ _ h => h) (pa_cons (pe_has G_put hr (by omega) (pa_cons (pe_fld (pv 0) rfl) (pa_cons (pv 1) (pa_cons (pv 2) pa_nil)))) pa_nil)) pa_nil)))
    (pss_one (ps_ret (pv 3)))))), ?_⟩
  refine ⟨_, rfl, (by show 1 ≤ sizeLine; decide), fun m nm => ?_⟩
  have sm := same_new nm (.lst [w'])
  refine ⟨m, [w'], rfl, upd_same, r1_all th sm, r1_no th sm qe, fun all H1 s1i => ?_⟩
  obtain ⟨b, eb⟩ := r1_yes th sm all
  have s1 := sm.trans s1i
  obtain ⟨qm, qk⟩ := qn b eb
  subst eb
  obtain ⟨rfl, nb⟩ := th
  obtain ⟨bl, bt⟩ := nm_iff.mp nb
  obtain ⟨ff, fd50⟩ := good_fits gt.tr gt.2.1
  have up := (treed_rO gt.tr).2.1
  obtain ⟨v, acc, h1, h2, h3, h4⟩ := tr.same s1
  refine ⟨_, rfl, x, C, dx, _, _, rfl, h1, TTr.cl, TTr.nN, tf_now _ _, _, rfl, v, o, b, rfl, h3, ff, fd50, by omega, ?_⟩
  refine ⟨_, rfl, x, dx, _, rfl, h1, rfl, _, rfl, x, C, dx, _, _, rfl, h1, TTr.cl, TTr.nN, tf_now _ _, _, rfl, _, rfl, v, o, b, n, rfl, h3, ff, treed_asc gt.tr fun r hr c hc => tab_ok c ((gt.2.1.2.2 r hr).2.1 c hc), fd50, by omega, fun c hc => tab_ok c (bt c hc), fun u H2 s2 hu => ?_⟩
  have hS := fun S (hS : putR (rO o) b n S) => pttO_ok gt.tr hS
  have pS : putR (rO o) b n (rO (some (pttO o b n))) := by
    -- the rows with the name's row in its place
    have e := putS_ok (n := n) (x := b) up
    have t2 := pttO_ok gt.tr e
    rw [(treed_rO t2).1]; exact e
  have tp := pttO_ok gt.tr pS
  have ln := put_len up pS
  have gd := put_good gt.2.1.2.2 nb hn pS
  have gS : Good (rO (some (pttO o b n))) := ⟨pS.1, by have := gt.2.2; omega, gd⟩
  obtain ⟨ff2, fd2⟩ := good_fits tp gS
  have s02 := s1.trans s2
  refine ⟨u, some (pttO o b n), rfl, hu, ff2, fd2, fun big H3 s3 => qm _ pS big H3 (s02.trans s3), fun small H3 s3 => ?_⟩
  have tr3 := tr.same (s02.trans s3)
  refine ⟨x, dx, l, o, some (pttO o b n), ps, u, rfl, tr3, pl, Dp_same s3 hu, fun H4 f4 tr4 => ?_⟩
  obtain ⟨gt', _⟩ := gt_of tp gS small
  exact ⟨_, rfl, qk _ H4 gt' pS ((Fr.of (s02.trans s3)).trans f4) tr4⟩
theorem ok_T_drop {C f1 CNoName CNotThere CT fT_do : Addr} {fdT_do : FuncData} (F : Fun K "drop" "Trail.drop" sT_drop f fd) (TTr : TrTxt K mg C f1) (TNoName : ErrTxt K mg "NoName" CNoName CT) (G_T_do : FnOk P w K mg base (L2.CX P w) 1 fT_do fdT_do pT_do (spDo K C)) (b_T_do : Binds K fdT_do pT_do []) (M_T_do : Meth K C "_do" fT_do)
    (G_Prefuse_no_names : HasX P w K mg base "_refuse_no_names" pPrefuse_no_names 5 (spRefuse K CNoName)) (G_found : Has P w K mg base "found" pfound 51 (spFound K 50)) (G_without : HasX P w K mg base "without" pwithout 53 (spWithout K CNotThere 50)) :
    FnOk P w K mg base (L2.CX P w) 100 f fd pT_drop (spDrop K C CNoName CNotThere) := by
  refine F.okX cT_drop (fun vs H Q E h => ?_) (fun cdv A outer s H vs Q E hr h => ?_)
  · obtain ⟨x, dx, l, o, ps, w', t, rfl, _⟩ := h
    rfl
  obtain ⟨x, dx, l, o, ps, w', t, rfl, tr, gt, pl, th, qe, qn⟩ := h
  refine ⟨_, (pss_cons (ps_expr (pe_hasX (E := E) G_Prefuse_no_names hr (by omega) (passes_call (takes_of rfl rfl rfl rfl) fun _ _ _ _ h => h) (pa_cons (pe_lst (pa_cons (pv 1) pa_nil)) pa_nil)))
    (pss_cons (ps_set (i := 2) cT_drop.nd rfl (Or.inl rfl) (pe_has G_found hr (by omega) (pa_cons (pe_fld (pv 0) rfl) (pa_cons (pv 1) pa_nil))))
    (pss_cons (ps_expr (pe_meth (E := E) (pv 0) TTr.cl M_T_do G_T_do (hr.mono (by omega)) b_T_do .nil (passes_call (takes_of rfl rfl rfl rfl) fun _ _ _ _ h => h) (pa_cons (pe_hasX (E := E) G_without hr (by omega) (passes_call (takes_of rfl rfl rfl rfl) fun _ _ _ _ h => h) (pa_cons (pe_fld (pv 0) rfl) (pa_cons (pv 1) pa_nil))) pa_nil)))
    (pss_one (ps_ret (pv 2)))))), ?_⟩
  refine ⟨_, rfl, (by show 1 ≤ sizeLine; decide), fun m nm => ?_⟩
  have sm := same_new nm (.lst [w'])
  refine ⟨m, [w'], rfl, upd_same, r1_all th sm, r1_no th sm qe, fun all H1 s1i => ?_⟩
  obtain ⟨b, eb⟩ := r1_yes th sm all
  have s1 := sm.trans s1i
  obtain ⟨qm, qk⟩ := qn b eb
  subst eb
  obtain ⟨rfl, nb⟩ := th
  obtain ⟨bl, bt⟩ := nm_iff.mp nb
  obtain ⟨ff, fd50⟩ := good_fits gt.tr gt.2.1
  have up := (treed_rO gt.tr).2.1
  obtain ⟨v, acc, h1, h2, h3, h4⟩ := tr.same s1
  refine ⟨_, rfl, x, C, dx, _, _, rfl, h1, TTr.cl, TTr.nN, tf_now _ _, _, rfl, v, o, b, rfl, h3, ff, fd50, by omega, ?_⟩
  refine ⟨_, rfl, x, dx, _, rfl, h1, rfl, _, rfl, x, C, dx, _, _, rfl, h1, TTr.cl, TTr.nN, tf_now _ _, _, rfl, v, o, b, rfl, h3, ff, fd50, by omega, fun c hc => tab_ok c (bt c hc), fun e => qm e _ s1, fun k ek u H2 s2 hu => ?_⟩
  have s02 := s1.trans s2
  have tw := wotO_ok gt.tr up ek
  have gS : Good ((rO o).filter fun r => !decide (r.1 = b)) := ⟨up.filter _, Nat.le_trans (List.length_filter_le _ _) gt.2.1.2.1, fun r hr => gt.2.1.2.2 r (List.mem_filter.mp hr).1⟩
  obtain ⟨gt', er⟩ := gt_of tw gS (Nat.le_trans (List.length_filter_le _ _) gt.2.2)
  refine ⟨x, dx, l, o, wotO o b, ps, u, rfl, tr.same s02, pl, hu, fun H4 f4 tr4 => ⟨_, rfl, ?_⟩⟩
  have := qk k ek _ H4 gt' er ((Fr.of s02).trans f4) tr4
  rw [ek]; exact this
theorem ok_T_prune {C f1 CNoName CNotThere CT fT_do : Addr} {fdT_do : FuncData} (F : Fun K "prune" "Trail.prune" sT_prune f fd) (TTr : TrTxt K mg C f1) (TNoName : ErrTxt K mg "NoName" CNoName CT) (TNotThere : ErrTxt K mg "NotThere" CNotThere CT) (G_T_do : FnOk P w K mg base (L2.CX P w) 1 fT_do fdT_do pT_do (spDo K C)) (b_T_do : Binds K fdT_do pT_do []) (M_T_do : Meth K C "_do" fT_do)
    (G_Prefuse_no_names : HasX P w K mg base "_refuse_no_names" pPrefuse_no_names 5 (spRefuse K CNoName)) (G_cut : Has P w K mg base "cut" pcut 52 (spCut K)) (G_names : Has P w K mg base "names" pnames 51 (spNames K 50)) (m_len : mg "len" = none) :
    FnOk P w K mg base (L2.CX P w) 100 f fd pT_prune (spPrune K C CNoName CNotThere) := by
  refine F.okX cT_prune (fun vs H Q E h => ?_) (fun cdv A outer s H vs Q E hr h => ?_)
  · obtain ⟨x, dx, l, o, ps, w', t, rfl, _⟩ := h
    rfl
  obtain ⟨x, dx, l, o, ps, w', t, rfl, tr, gt, pl, th, qe, qn⟩ := h
  refine ⟨_, (pss_cons (ps_expr (pe_hasX (E := E) G_Prefuse_no_names hr (by omega) (passes_call (takes_of rfl rfl rfl rfl) fun _ _ _ _ h => h) (pa_cons (pe_lst (pa_cons (pv 1) pa_nil)) pa_nil)))
    (pss_cons (ps_asg (pe_has G_cut hr (by omega) (pa_cons (pe_fld (pv 0) rfl) (pa_cons (pv 1) pa_nil))) (pg_tup (by rfl) (pgs_cons (pg_name (i := 2) cT_prune.nd rfl (Or.inl rfl)) (pgs_cons (pg_name (i := 3) cT_prune.nd rfl (Or.inl rfl)) pgs_nil))))
    (pss_cons (ps_if (pt_cmpR op_isN (pv 3) pe_non (nomark _)) (pss_one (ps_raise rfl (takes_of rfl rfl rfl rfl) (SkE.pmk_own1 PySem.F.excBase_ValueError TNotThere.xN TNotThere.gN TNotThere.kN (raises_own TNotThere.bN TNotThere.tN) (by rfl) pe_str))) pss_nil)
    (pss_cons (ps_expr (pe_meth (E := E) (pv 0) TTr.cl M_T_do G_T_do (hr.mono (by omega)) b_T_do .nil (passes_call (takes_of rfl rfl rfl rfl) fun _ _ _ _ h => h) (pa_cons (pv 2) pa_nil)))
    (pss_one (ps_ret (pe_callB call_len_seq (by rfl) m_len (by decide +kernel) (pa_cons (pe_has G_names hr (by omega) (pa_cons (pv 3) pa_nil)) pa_nil)))))))), ?_⟩
  refine ⟨_, rfl, (by show 1 ≤ sizeLine; decide), fun m nm => ?_⟩
  have sm := same_new nm (.lst [w'])
  refine ⟨m, [w'], rfl, upd_same, r1_all th sm, r1_no th sm qe, fun all H1 s1i => ?_⟩
  obtain ⟨b, eb⟩ := r1_yes th sm all
  have s1 := sm.trans s1i
  obtain ⟨qm, qk⟩ := qn b eb
  subst eb
  obtain ⟨rfl, nb⟩ := th
  obtain ⟨bl, bt⟩ := nm_iff.mp nb
  obtain ⟨ff, fd50⟩ := good_fits gt.tr gt.2.1
  obtain ⟨v, acc, h1, h2, h3, h4⟩ := tr.same s1
  refine ⟨_, rfl, x, C, dx, _, _, rfl, h1, TTr.cl, TTr.nN, tf_now _ _, _, rfl, v, o, b, rO o, rfl, h3, gt.tr, ff, fd50, by omega, fun u o1 o2 H2 t1 t2 s2 hu => ?_⟩
  obtain ⟨p, l1, l2, rfl, hp, d1, d2⟩ := Dp_two hu
  refine ⟨p, _, rfl, hp, rfl, _, _, rfl, _, _, rfl, rfl, ?_⟩
  have s02 := s1.trans s2
  have g2 := gone_good (b := b) gt.2.1
  cases o2 with
  | none =>
    cases Dp_non d2
    exact ⟨_, rfl, rfl, _, rfl, iteT (qm ((treed_nil t2).mp rfl) _ s02)⟩
  | some t =>
    have nn : decide (l2 = V.non) = false := decide_eq_false fun e => by
      rw [e] at d2
      have d2 : Dp K H2 .non t.toD := d2
      cases t <;> · simp only [Tr.toD] at d2; obtain ⟨_, _, e, _⟩ := Dp_tup d2; cases e
    refine ⟨_, rfl, rfl, _, rfl, ?_⟩
    rw [nn]
    refine iteF ?_
    have ne : goneR b (rO o) ≠ [] := fun e => by
      have := (treed_nil t2).mpr e
      cases this
    have tr2 := tr.same s02
    obtain ⟨v2, acc2, k1, _⟩ := id tr2
    refine ⟨_, rfl, x, dx, _, rfl, k1, rfl, _, rfl, x, dx, l, o, o1, ps, l1, rfl, tr2, pl, d1, fun H4 f4 tr4 => ?_⟩
    obtain ⟨gt', er⟩ := gt_of t1 (stay_good gt.2.1) (Nat.le_trans (List.length_filter_le _ _) gt.2.2)
    have d24 := Dp_kt (tr2.kt f4) (oD_nolist (some t)) d2
    obtain ⟨f2, fd2⟩ := good_fits t2 g2
    refine ⟨_, rfl, l2, some t, rfl, d24, f2, fd2, fun L acc' H5 nL s5 eL dL => ?_⟩
    rw [rows_rO, (treed_rO t2).1] at dL
    have al : acc'.length = (goneR b (rO o)).length := by rw [DpAll_len dL, List.length_map]
    refine ⟨L, acc', rfl, .inl (SqL.of eL), ?_⟩
    rw [al]
    exact qk ne o1 H5 gt' er (((Fr.of s02).trans f4).trans (Fr.of s5)) (tr4.same s5)
theorem ok_T_move {C f1 CNoName CNotThere CTooLong CTaken CT fT_do : Addr} {fdT_do : FuncData} (F : Fun K "move" "Trail.move" sT_move f fd) (TTr : TrTxt K mg C f1) (TNoName : ErrTxt K mg "NoName" CNoName CT) (G_T_do : FnOk P w K mg base (L2.CX P w) 1 fT_do fdT_do pT_do (spDo K C)) (b_T_do : Binds K fdT_do pT_do []) (M_T_do : Meth K C "_do" fT_do)
    (G_Prefuse_no_names : HasX P w K mg base "_refuse_no_names" pPrefuse_no_names 5 (spRefuse K CNoName)) (G_Prefuse_long_names : HasX P w K mg base "_refuse_long_names" pPrefuse_long_names 95 (spLong K CTooLong)) (G_many : Has P w K mg base "many" pmany 90 (spMany K)) (G_moved : HasX P w K mg base "moved" pmoved 102 (spMoved K CNotThere CTaken stayR)) :
    FnOk P w K mg base (L2.CX P w) 120 f fd pT_move (spMove K C CNoName CNotThere CTooLong CTaken stayR none) := by
  refine F.okX cT_move (fun vs H Q E h => ?_) (fun cdv A outer s H vs Q E hr h => ?_)
  · obtain ⟨x, dx, l, o, ps, w', u', t, s', rfl, _⟩ := h
    rfl
  obtain ⟨x, dx, l, o, ps, w', u', t, s', rfl, tr, gt, pl, th, th2, qe, qn⟩ := h
  refine ⟨_, (pss_cons (ps_expr (pe_hasX (E := E) G_Prefuse_no_names hr (by omega) (passes_call (takes_of rfl rfl rfl rfl) fun _ _ _ _ h => h) (pa_cons (pe_lst (pa_cons (pv 1) (pa_cons (pv 2) pa_nil))) pa_nil)))
    (pss_cons (ps_expr (pe_hasX (E := E) G_Prefuse_long_names hr (by omega) (passes_call (takes_of rfl rfl rfl rfl) fun _ _ _ _ h => h) (pa_cons (pe_fld (pv 0) rfl) (pa_cons (pv 1) (pa_cons (pv 2) pa_nil)))))
    (pss_cons (ps_set (i := 3) cT_move.nd rfl (Or.inl rfl) (pe_has G_many hr (by omega) (pa_cons (pe_fld (pv 0) rfl) (pa_cons (pv 1) pa_nil))))
    (pss_cons (ps_expr (pe_meth (E := E) (pv 0) TTr.cl M_T_do G_T_do (hr.mono (by omega)) b_T_do .nil (passes_call (takes_of rfl rfl rfl rfl) fun _ _ _ _ h => h) (pa_cons (pe_hasX (E := E) G_moved hr (by omega) (passes_call (takes_of rfl rfl rfl rfl) fun _ _ _ _ h => h) (pa_cons (pe_fld (pv 0) rfl) (pa_cons (pv 1) (pa_cons (pv 2) pa_nil)))) pa_nil)))
    (pss_one (ps_ret (pv 3))))))), ?_⟩
  refine ⟨_, rfl, _, rfl, (by show 2 ≤ sizeLine; decide), fun m nm => ?_⟩
  have sm := same_new nm (.lst [w', u'])
  refine ⟨m, [w', u'], rfl, upd_same, r2_all th th2 sm, r2_no th th2 sm qe, fun all H1 s1i => ?_⟩
  obtain ⟨b, c, eb, ec⟩ := r2_yes th th2 sm all
  have s1 := sm.trans s1i
  obtain ⟨q1, q2, q3, _, q5⟩ := qn b c eb ec
  subst eb
  subst ec
  obtain ⟨rfl, nb⟩ := th
  obtain ⟨rfl, nc⟩ := th2
  obtain ⟨bl, bt⟩ := nm_iff.mp nb
  obtain ⟨cl, ct⟩ := nm_iff.mp nc
  obtain ⟨v, acc, h1, h2, h3, h4⟩ := tr.same s1
  refine ⟨_, rfl, x, C, dx, _, _, rfl, h1, TTr.cl, TTr.nN, tf_now _ _, _, rfl, _, rfl, v, o, b, c, rfl, h3, gt.tr, gt.2.1, bl, cl, fun lg H2 s2 => ?_, fun ok H2 s2 => ?_⟩
  · obtain ⟨r, hr', hl⟩ := lg
    exact q2 (fun e => by rw [fresh_nil.mpr e] at hr'; simp at hr') ⟨r, hr', hl⟩ H2 (s1.trans s2)
  have s02 := s1.trans s2
  obtain ⟨v2, acc2, k1, k2, k3, k4⟩ := tr.same s02
  refine ⟨_, rfl, x, C, dx, _, _, rfl, k1, TTr.cl, TTr.nN, tf_now _ _, _, rfl, v2, o, rO o, b, rfl, ⟨k3, gt.tr, gt.2.1⟩, by omega, fun H3 s3 => ?_⟩
  have s03 := s02.trans s3
  obtain ⟨v3, acc3, j1, j2, j3, j4⟩ := tr.same s03
  refine ⟨_, rfl, x, dx, _, rfl, j1, rfl, _, rfl, x, C, dx, _, _, rfl, j1, TTr.cl, TTr.nN, tf_now _ _, _, rfl, _, rfl, v3, o, rO o, b, c, rfl, j3, gt.tr, gt.2.1, bl, cl, bt, ct, fun e H4 s4 => q1 (fresh_nil.mp e) H4 (s03.trans s4), fun ne sh H4 s4 => q3 (fun e => ne (fresh_nil.mpr e)) ok sh H4 (s03.trans s4), fun ne ns o2 T u4 H4 bo tt s4 hu4 => ?_⟩
  have ne' : goneR b (rO o) ≠ [] := fun e => ne (fresh_nil.mpr e)
  have lT := both_len (stay_up gt.2.1.1) (up_map (gone_up gt.2.1.1)) ns bo
  rw [List.length_map] at lT
  have el : (freshR b c (rO o)).length = (goneR b (rO o)).length := by unfold freshR; exact List.length_map ..
  have lsum : (stayR b (rO o)).length + (freshR b c (rO o)).length ≤ 100 := by
    have e := stay_gone b (rO o)
    have := gt.2.2
    unfold freshR
    rw [List.length_map]; omega
  have gT : Good T := both_good (stay_good gt.2.1).2.2 (fresh_good gt.2.1 nc ok) bo (by omega)
  obtain ⟨gt', er⟩ := gt_of tt gT (by omega)
  have s04 := s03.trans s4
  refine ⟨x, dx, l, o, o2, ps, u4, rfl, tr.same s04, pl, hu4, fun H5 f5 tr5 => ⟨_, rfl, ?_⟩⟩
  have := q5 ne' ok ns lsum o2 H5 gt' (by rw [er]; exact bo) ((Fr.of s04).trans f5) tr5
  rw [show ((below b (rO o)).length : Nat) = (goneR b (rO o)).length by rw [below_gone, List.length_map]]
  exact this
theorem ok_T_graft {C f1 CNoName CNotThere CTooLong CTaken CTooMany CT fT_do : Addr} {fdT_do : FuncData} (F : Fun K "graft" "Trail.graft" sT_graft f fd) (TTr : TrTxt K mg C f1) (TNoName : ErrTxt K mg "NoName" CNoName CT) (G_T_do : FnOk P w K mg base (L2.CX P w) 1 fT_do fdT_do pT_do (spDo K C)) (b_T_do : Binds K fdT_do pT_do []) (M_T_do : Meth K C "_do" fT_do)
    (G_Prefuse_no_names : HasX P w K mg base "_refuse_no_names" pPrefuse_no_names 5 (spRefuse K CNoName)) (G_Prefuse_long_names : HasX P w K mg base "_refuse_long_names" pPrefuse_long_names 95 (spLong K CTooLong)) (G_many : Has P w K mg base "many" pmany 90 (spMany K)) (G_copied : HasX P w K mg base "copied" pcopied 102 (spMoved K CNotThere CTaken (fun _ R => R)))
    (G_Pof_size : HasX P w K mg base "_of_size" pPof_size 60 (spOfSize K CTooMany)) :
    FnOk P w K mg base (L2.CX P w) 120 f fd pT_graft (spMove K C CNoName CNotThere CTooLong CTaken (fun _ R => R) (some CTooMany)) := by
  refine F.okX cT_graft (fun vs H Q E h => ?_) (fun cdv A outer s H vs Q E hr h => ?_)
  · obtain ⟨x, dx, l, o, ps, w', u', t, s', rfl, _⟩ := h
    rfl
  obtain ⟨x, dx, l, o, ps, w', u', t, s', rfl, tr, gt, pl, th, th2, qe, qn⟩ := h
  refine ⟨_, (pss_cons (ps_expr (pe_hasX (E := E) G_Prefuse_no_names hr (by omega) (passes_call (takes_of rfl rfl rfl rfl) fun _ _ _ _ h => h) (pa_cons (pe_lst (pa_cons (pv 1) (pa_cons (pv 2) pa_nil))) pa_nil)))
    (pss_cons (ps_expr (pe_hasX (E := E) G_Prefuse_long_names hr (by omega) (passes_call (takes_of rfl rfl rfl rfl) fun _ _ _ _ h => h) (pa_cons (pe_fld (pv 0) rfl) (pa_cons (pv 1) (pa_cons (pv 2) pa_nil)))))
    (pss_cons (ps_set (i := 3) cT_graft.nd rfl (Or.inl rfl) (pe_has G_many hr (by omega) (pa_cons (pe_fld (pv 0) rfl) (pa_cons (pv 1) pa_nil))))
    (pss_cons (ps_expr (pe_meth (E := E) (pv 0) TTr.cl M_T_do G_T_do (hr.mono (by omega)) b_T_do .nil (passes_call (takes_of rfl rfl rfl rfl) fun _ _ _ _ h => h) (pa_cons (pe_hasX (E := E) G_Pof_size hr (by omega) (passes_call (takes_of rfl rfl rfl rfl) fun _ _ _ _ h => h) (pa_cons (pe_hasX (E := E) G_copied hr (by omega) (passes_call (takes_of rfl rfl rfl rfl) fun _ _ _ _ h => h) (pa_cons (pe_fld (pv 0) rfl) (pa_cons (pv 1) (pa_cons (pv 2) pa_nil)))) pa_nil)) pa_nil)))
    (pss_one (ps_ret (pv 3))))))), ?_⟩
  refine ⟨_, rfl, _, rfl, (by show 2 ≤ sizeLine; decide), fun m nm => ?_⟩
  have sm := same_new nm (.lst [w', u'])
  refine ⟨m, [w', u'], rfl, upd_same, r2_all th th2 sm, r2_no th th2 sm qe, fun all H1 s1i => ?_⟩
  obtain ⟨b, c, eb, ec⟩ := r2_yes th th2 sm all
  have s1 := sm.trans s1i
  obtain ⟨q1, q2, q3, q4, q5⟩ := qn b c eb ec
  subst eb
  subst ec
  obtain ⟨rfl, nb⟩ := th
  obtain ⟨rfl, nc⟩ := th2
  obtain ⟨bl, bt⟩ := nm_iff.mp nb
  obtain ⟨cl, ct⟩ := nm_iff.mp nc
  obtain ⟨v, acc, h1, h2, h3, h4⟩ := tr.same s1
  refine ⟨_, rfl, x, C, dx, _, _, rfl, h1, TTr.cl, TTr.nN, tf_now _ _, _, rfl, _, rfl, v, o, b, c, rfl, h3, gt.tr, gt.2.1, bl, cl, fun lg H2 s2 => ?_, fun ok H2 s2 => ?_⟩
  · obtain ⟨r, hr', hl⟩ := lg
    exact q2 (fun e => by rw [fresh_nil.mpr e] at hr'; simp at hr') ⟨r, hr', hl⟩ H2 (s1.trans s2)
  have s02 := s1.trans s2
  obtain ⟨v2, acc2, k1, k2, k3, k4⟩ := tr.same s02
  refine ⟨_, rfl, x, C, dx, _, _, rfl, k1, TTr.cl, TTr.nN, tf_now _ _, _, rfl, v2, o, rO o, b, rfl, ⟨k3, gt.tr, gt.2.1⟩, by omega, fun H3 s3 => ?_⟩
  have s03 := s02.trans s3
  obtain ⟨v3, acc3, j1, j2, j3, j4⟩ := tr.same s03
  refine ⟨_, rfl, x, dx, _, rfl, j1, rfl, _, rfl, x, C, dx, _, _, rfl, j1, TTr.cl, TTr.nN, tf_now _ _, _, rfl, _, rfl, v3, o, rO o, b, c, rfl, j3, gt.tr, gt.2.1, bl, cl, bt, ct, fun e H4 s4 => q1 (fresh_nil.mp e) H4 (s03.trans s4), fun ne sh H4 s4 => q3 (fun e => ne (fresh_nil.mpr e)) ok sh H4 (s03.trans s4), fun ne ns o2 T u4 H4 bo tt s4 hu4 => ?_⟩
  have ne' : goneR b (rO o) ≠ [] := fun e => ne (fresh_nil.mpr e)
  have lT := both_len gt.2.1.1 (up_map (gone_up gt.2.1.1)) ns bo
  have eT := (treed_rO tt).1
  have lf : (freshR b c (rO o)).length ≤ 100 := by
    unfold freshR goneR
    rw [List.length_map, List.length_map]
    exact Nat.le_trans (List.length_filter_le _ _) gt.2.2
  have lT' : T.length = (rO o).length + (freshR b c (rO o)).length := lT
  have g100 := gt.2.2
  have gall : ∀ r ∈ T, GoodR r := fun r hr => ((bo.2 r).mp hr).elim (gt.2.1.2.2 r) (fresh_good gt.2.1 nc ok r)
  obtain ⟨ff, fd50⟩ := gr_fits tt (N := 200) ⟨bo.1, by omega, gall⟩ (by decide)
  have s04 := s03.trans s4
  refine ⟨u4, o2, rfl, hu4, ff, fd50, fun big H5 s5 => q4 _ rfl ne' ok ns (by show 100 < (rO o).length + (freshR b c (rO o)).length; rw [eT] at big; omega) H5 (s04.trans s5), fun small H5 s5 => ?_⟩
  have lsum : (rO o).length + (freshR b c (rO o)).length ≤ 100 := by rw [eT] at small; omega
  have gT : Good T := ⟨bo.1, by omega, gall⟩
  obtain ⟨gt', er⟩ := gt_of tt gT (by omega)
  have s05 := s04.trans s5
  refine ⟨x, dx, l, o, o2, ps, u4, rfl, tr.same s05, pl, Dp_same s5 hu4, fun H6 f6 tr6 => ⟨_, rfl, ?_⟩⟩
  have := q5 ne' ok ns lsum o2 H6 gt' (by rw [er]; exact bo) ((Fr.of s05).trans f6) tr6
  rw [show ((below b (rO o)).length : Nat) = (goneR b (rO o)).length by rw [below_gone, List.length_map]]
  exact this
theorem ok_T_back {C f1 CNothingDone CT : Addr} (F : Fun K "back" "Trail.back" sT_back f fd) (TTr : TrTxt K mg C f1) (TNothingDone : ErrTxt K mg "NothingDone" CNothingDone CT) : FnOk P w K mg base (L2.CX P w) 5 f fd pT_back (spBack K C CNothingDone) := by
  refine F.okX cT_back (fun vs H Q E h => ?_) (fun cdv A outer s H vs Q E hr h => ?_)
  · obtain ⟨x, dx, l, o, ps, rfl, _⟩ := h
    rfl
  obtain ⟨x, dx, l, o, ps, rfl, tr, qe, qn⟩ := h
  refine ⟨_, (pss_cons (ps_if (pt_not (pt_truth (pe_fld (pv 0) rfl) (by intro _; rfl))) (pss_one (ps_raise rfl (takes_of rfl rfl rfl rfl) (SkE.pmk_own1 PySem.F.excBase_ValueError TNothingDone.xN TNothingDone.gN TNothingDone.kN (raises_own TNothingDone.bN TNothingDone.tN) (by rfl) pe_str))) pss_nil)
    (pss_one (ps_fld (pv 0) (pe_bm0 PySem.F.plainAttrs_list PySem.F.slot_list_pop PySem.F.type_list_pop mt_pop (pe_fld (pv 0) rfl)) rfl))), ?_⟩
  have nxl := tr.fr_ne
  obtain ⟨v, acc, h1, h2, h3, h4⟩ := id tr
  have al : acc.length = ps.length := by rw [DpAll_len h4, List.length_map]
  refine ⟨_, rfl, x, C, dx, _, _, rfl, h1, TTr.cl, TTr.nE, tf_earlier _ _, _, .inl ⟨acc, SqL.of h2, rfl⟩, ?_⟩
  rcases List.eq_nil_or_concat ps with rfl | ⟨qs, p, ec⟩
  · cases DpAll_nil h4
    exact iteT (qe rfl H (Same.refl H))
  · rw [List.concat_eq_append] at ec
    subst ec
    rw [List.map_append] at h4
    obtain ⟨a1, y, rfl, g1, g2⟩ := DpAll_split h4
    obtain ⟨z, zs, rfl, gz, gzs⟩ := DpAll_cons g2
    cases DpAll_nil gzs
    have ne : (!(a1 ++ [z]).isEmpty) = true := by cases a1 <;> rfl
    rw [ne]
    refine iteF ?_
    refine ⟨_, rfl, x, C, dx, _, _, rfl, h1, TTr.cl, TTr.nE, tf_earlier _ _, .inl ⟨rfl, _, SqL.of h2⟩, l, _, z, rfl, rfl, h2, by simp, ?_⟩
    refine ⟨_, rfl, x, C, dx, _, rfl, (Eq.trans (upd_ne nxl) h1), TTr.cl, TTr.nN, (by show 2 < 1000; decide), ?_⟩
    rw [tf_put, List.dropLast_concat]
    have f : Fr x l H (upd (upd H l (.lst a1)) x (.ins C dx (tf z l))) := fun b u nb nb2 e => by rw [upd_ne nb, upd_ne nb2]; exact e
    have kt := tr.kt f
    exact qn qs p rfl _ f ⟨z, a1, upd_same, by rw [upd_ne nxl.symm, upd_same], Dp_kt kt (oD_nolist _) gz, DpAll_kt kt (oDs_nolist _) g1⟩
theorem ok_T_tree {C f1 : Addr} (F : Fun K "tree" "Trail.tree" sT_tree f fd) (TTr : TrTxt K mg C f1) : FnOk P w K mg base (L2.CX P w) 1 f fd pT_tree (spTreeM K C) := by
  refine fn_wide (F.ok cT_tree (fun vs H Q E h => ?_) (fun cdv A outer s H vs Q E hr h => ?_))
  · obtain ⟨x, dx, l, o, ps, rfl, _⟩ := h
    rfl
  obtain ⟨x, dx, l, o, ps, rfl, tr, q⟩ := h
  refine ⟨_, (pss_one (ps_ret (pe_fld (pv 0) rfl))), ?_⟩
  obtain ⟨v, acc, h1, h2, h3, h4⟩ := id tr
  exact ⟨_, rfl, x, C, dx, _, _, rfl, h1, TTr.cl, TTr.nN, tf_now _ _, q v h3⟩
theorem ok_T_size {C f1 : Addr} (F : Fun K "size" "Trail.size" sT_size f fd) (TTr : TrTxt K mg C f1) (G_names : Has P w K mg base "names" pnames 51 (spNames K 50)) (m_len : mg "len" = none) : FnOk P w K mg base (L2.CX P w) 60 f fd pT_size (spSize K C) := by
  refine fn_wide (F.ok cT_size (fun vs H Q E h => ?_) (fun cdv A outer s H vs Q E hr h => ?_))
  · obtain ⟨x, dx, l, o, ps, rfl, _⟩ := h
    rfl
  obtain ⟨x, dx, l, o, ps, rfl, tr, gt, q⟩ := h
  refine ⟨_, (pss_one (ps_ret (pe_callB call_len_seq (by rfl) m_len (by decide +kernel) (pa_cons (pe_has G_names hr (by omega) (pa_cons (pe_fld (pv 0) rfl) pa_nil)) pa_nil)))), ?_⟩
  obtain ⟨v, acc, h1, h2, h3, h4⟩ := id tr
  obtain ⟨ff, fd50⟩ := good_fits gt.tr gt.2.1
  refine ⟨_, rfl, x, C, dx, _, _, rfl, h1, TTr.cl, TTr.nN, tf_now _ _, v, o, rfl, h3, ff, fd50, fun L acc' H2 nL s2 eL dL => ?_⟩
  rw [rows_rO] at dL
  have al : acc'.length = (rO o).length := by rw [DpAll_len dL, List.length_map]
  refine ⟨L, acc', rfl, .inl (SqL.of eL), ?_⟩
  rw [al]
  exact q _ s2
theorem ok_Ltext_by (F : Fun K "_law_text_by" "_law_text_by" sLtext_by f fd)
    (G_Lword_by : Has P w K mg base "_law_word_by" pLword_by 2 (spWord)) (m_int : mg "int" = none) (m_len : mg "len" = none) :
    FnOk P w K mg base CX0 3 f fd pLtext_by (spTextBy K) := by
  refine F.ok cLtext_by (fun vs H Q E h => ?_) (fun cdv A outer s H vs Q E hr h => ?_)
  · obtain ⟨c, v, R, rfl, _⟩ := h
    rfl
  obtain ⟨c, v, R, rfl, hv, hg, q⟩ := h
  refine ⟨_, (pss_cons (ps_if (pt_cmpR op_eq (pe_op op_mod (pv 0) pe_int) pe_int (nomark _)) (pss_one (ps_ret (pe_ix (r := rIxL K) ix_list (pe_lst (pa_cons pe_str (pa_cons pe_str (pa_cons (pe_has G_Lword_by hr (by omega) (pa_cons (pv 0) (pa_cons pe_int pa_nil))) (pa_cons pe_non (pa_cons pe_int pa_nil)))))) (pe_op op_mod (pe_op op_fdiv (pv 0) pe_int) pe_int) (fun _ _ => rfl)))) pss_nil)
    (pss_cons (ps_set (i := 2) cLtext_by.nd rfl (Or.inl rfl) (pe_op op_add (pe_op op_mod (pe_op op_fdiv (pv 0) pe_int) pe_int) (pe_op op_mul pe_int (pe_callTy call_int1 (by rfl) m_int (by decide +kernel) (pa_cons (pe_cmpR op_eq (pe_op op_mod (pe_op op_fdiv (pv 0) pe_int) pe_int) pe_int (nomark _)) pa_nil)))))
    (pss_cons (ps_set (i := 3) cLtext_by.nd rfl (Or.inl rfl) (pe_has G_Lword_by hr (by omega) (pa_cons (pe_op op_fdiv (pv 0) pe_int) (pa_cons (pv 2) pa_nil))))
    (pss_cons (ps_if (PW.pt (pw_or (pt_cmpR op_eq (pe_op op_mod (pv 0) pe_int) pe_int (nomark _)) (pw_or1 (pt_cmpR (op_eqD hr.units) (pv 1) (pe_lst pa_nil) (nomark _))))) (pss_one (ps_ret (pv 3))) pss_nil)
    (pss_cons (ps_set (i := 4) cLtext_by.nd rfl (Or.inl rfl) (pe_ix (r := rIxL K) ix_list (pv 1) (pe_op op_mod (pe_op op_fdiv (pv 0) pe_int) (pe_callB call_len_seq (by rfl) m_len (by decide +kernel) (pa_cons (pv 1) pa_nil))) (fun _ _ => rfl)))
    (pss_cons (ps_if (pt_cmpR op_eq (pe_op op_mod (pv 0) pe_int) pe_int (nomark _)) (pss_one (ps_ret (pv 4))) pss_nil)
    (pss_cons (ps_if (pt_cmpR op_eq (pe_op op_mod (pv 0) pe_int) pe_int (nomark _)) (pss_one (ps_ret (pe_slice sl_str (pe_op op_add_str (pv 4) (pv 3)) po_none (po_some pe_int)))) pss_nil)
    (pss_one (ps_ret (pe_slice sl_str (pv 4) po_none (po_some (pe_op op_mod (pe_op op_mod (pe_op op_mul (pv 0) pe_int) pe_int) (pe_op op_add (pe_callB call_len_str (by rfl) m_len (by decide +kernel) (pa_cons (pv 4) pa_nil)) pe_int))))))))))))), ?_⟩
  have e0 : ∀ {A B : Prop} {b : Bool}, (b = true → A) → (b = false → B) → if b = true then A else B := fun {A B b} h1 h2 => by cases b with | true => exact iteT (h1 rfl) | false => exact iteF (h2 rfl)
  have qw : ∀ {x : List Nat} {H' : Hp}, x.length ≤ 41 → (∀ c ∈ x, c ∈ signTab) → Same H H' → Q (.str (st x)) H' := fun hx hs s => q _ _ s (.inl ⟨_, rfl, hx, .inl hs⟩)
  refine ⟨_, rfl, _, _, rfl, rfl, (by show (0 : Int) < 23; decide), rfl, _, rfl, e0 (fun _ => ?_) (fun _ => ?_)⟩
  · -- no names, mostly
    refine ⟨_, rfl, _, _, rfl, by decide, by decide, fun H1 s1 => ⟨(by show 5 ≤ sizeLine; decide), fun l nl => ?_⟩⟩
    have wl : (word c 41).length = 41 := word_len _ _
    have wt : ∀ x ∈ word c 41, x ∈ signTab := word_tab _ _
    generalize word c 41 = w at wl wt
    have sl := same_new nl (.lst [.str (Str.ofString "a\n"), .str (Str.ofString "\tb"), .str (st w), .non, .int 7])
    have s2 := s1.trans sl
    refine ⟨_, rfl, _, _, rfl, rfl, ⟨by decide, by decide⟩, _, _, rfl, rfl, (by show (0 : Int) < 5; decide), ?_⟩
    have b0 : 0 ≤ c / 23 % 5 := by omega
    have b1 : c / 23 % 5 < 5 := by omega
    have ej : c / 23 % 5 = (((c / 23 % 5).toNat : Nat) : Int) := (Int.toNat_of_nonneg b0).symm
    have hj : (c / 23 % 5).toNat < 5 := by omega
    refine ⟨l, _, _, _, rfl, rfl, SqL.of upd_same, (by show atI _ (c / 23 % 5) = _; rw [ej]; exact atI_nat (List.getElem?_eq_getElem (by exact hj))), ?_⟩
    generalize (c / 23 % 5).toNat = j at hj
    match j, hj with
    | 0, _ => exact q _ _ s2 (.inl ⟨[97, 10], rfl, by simp, .inr (.inl rfl)⟩)
    | 1, _ => exact q _ _ s2 (.inl ⟨[9, 98], rfl, by simp, .inr (.inr rfl)⟩)
    | 2, _ => exact qw (x := w) (by omega) wt s2
    | 3, _ => exact q _ _ s2 (.inr (.inl rfl))
    | 4, _ => exact q _ _ s2 (.inr (.inr rfl))
  have b7 : 0 ≤ c / 4 % 7 ∧ c / 4 % 7 < 7 := by omega
  refine ⟨_, rfl, _, _, rfl, rfl, ⟨by decide, by decide⟩, _, _, rfl, rfl, (by show (0 : Int) < 7; decide), _, rfl, _, _, rfl, rfl, ⟨by decide, by decide⟩, _, _, rfl, rfl, (by show (0 : Int) < 9; decide), rfl, .inr ⟨_, rfl, ?_⟩⟩
  generalize decide ((fun i j => V.int (i % j)) (c / 28) 9 = V.int 8) = b
  obtain ⟨k, ek, hk⟩ : ∃ k : Int, (if b = true then 1 else 0) = k ∧ (k = 0 ∨ k = 1) := ⟨_, rfl, by cases b <;> simp⟩
  rw [ek]
  clear ek
  refine ⟨_, _, rfl, rfl, .inl ⟨by decide, by rcases hk with rfl | rfl <;> decide⟩, _, _, rfl, rfl, ?_⟩
  generalize hz : c / 4 % 7 + 34 * k = z
  have bz : 0 ≤ z ∧ z ≤ 40 := by omega
  refine ⟨_, rfl, _, _, rfl, rfl, ⟨by decide, by decide⟩, _, rfl, _, _, rfl, by omega, by omega, fun H1 s1 => ?_⟩
  obtain ⟨w, hw⟩ : ∃ w, w = word (c / 28) (c / 4 % 7 + 34 * k) := ⟨_, rfl⟩
  have wl : w.length ≤ 40 := by rw [hw, word_len]; omega
  have wt : ∀ x ∈ w, x ∈ signTab := by rw [hw]; exact word_tab _ _
  rw [show word ((fun (i j : Int) => i / j) c 28) (c / 4 % 7 + 34 * k) = w from hw.symm]
  have hv1 := Dp_same s1 hv
  -- the word alone
  refine ⟨_, rfl, _, _, rfl, rfl, (by show (0 : Int) < 4; decide), rfl, _, rfl, e0 (fun _ => ?_) (fun _ => ?_)⟩
  · exact iteT ⟨_, rfl, qw (x := w) (by omega) wt s1⟩
  refine ⟨_, rfl, (by show 0 ≤ sizeLine; decide), fun l nl => ?_⟩
  have sl := same_new nl (.lst [])
  have s2 := s1.trans sl
  refine ⟨.list (R.map textD), .list [], Dp_same sl hv1, .lst (SqL.of upd_same) .nil, texts_shaped fun x hx => (nm_iff.mp (hg x hx)).2, rfl, _, rfl, ?_⟩
  cases hR : R with
  | nil => exact iteT ⟨_, rfl, qw (x := w) (by omega) wt s2⟩
  | cons r0 R' =>
    refine iteF ?_
    obtain ⟨a, xs, rfl, ha, hd⟩ := Dp_lst (Dp_same sl hv1)
    rw [hR] at hd
    have hx5 : xs.length = (r0 :: R').length := by rw [DpAll_len hd, List.length_map]
    have pos : (0 : Int) < ((xs.length : Nat) : Int) := by rw [hx5]; simp
    have b0 : 0 ≤ c / 28 % ((xs.length : Nat) : Int) := Int.emod_nonneg _ (by omega)
    have b1 : c / 28 % ((xs.length : Nat) : Int) < ((xs.length : Nat) : Int) := Int.emod_lt_of_pos _ pos
    have ej : c / 28 % ((xs.length : Nat) : Int) = (((c / 28 % ((xs.length : Nat) : Int)).toNat : Nat) : Int) := (Int.toNat_of_nonneg b0).symm
    have hj : (c / 28 % ((xs.length : Nat) : Int)).toNat < xs.length := by omega
    generalize hjj : (c / 28 % ((xs.length : Nat) : Int)).toNat = j at ej hj
    have hvj := List.getElem?_eq_getElem hj
    obtain ⟨r, hr1, hr2⟩ := DpAll_map hd hvj
    have hrR : r ∈ R := by rw [hR]; exact List.mem_of_getElem? hr1
    obtain ⟨u, eu⟩ : ∃ u, u = xs[j] := ⟨_, rfl⟩
    rw [← eu] at hvj hr2
    cases Dp_str hr2
    obtain ⟨ga, gt⟩ := nm_iff.mp (hg r hrR)
    refine ⟨_, rfl, _, rfl, _, _, rfl, rfl, ⟨by decide, by decide⟩, _, rfl, a, xs, rfl, .inl ha, _, _, rfl, rfl, pos, a, xs, _, _, rfl, rfl, ha, (by show atI xs (c / 28 % ((xs.length : Nat) : Int)) = _; rw [ej]; exact atI_nat hvj), ?_⟩
    have zr : (st r).length ≤ sizeLine := by rw [st_len]; exact smallZ (by omega)
    refine ⟨_, rfl, _, _, rfl, rfl, (by show (0 : Int) < 4; decide), rfl, _, rfl, e0 (fun _ => ?_) (fun _ => ?_)⟩
    · exact ⟨_, rfl, qw (x := r) (by omega) gt s2⟩
    refine ⟨_, rfl, _, _, rfl, rfl, (by show (0 : Int) < 4; decide), rfl, _, rfl, e0 (fun _ => ?_) (fun _ => ?_)⟩
    · refine ⟨_, rfl, _, rfl, _, _, rfl, rfl, ?_, 40, rfl, _, rfl, ?_, ?_⟩
      · rw [st_len, st_len]; exact smallZ (by omega)
      · rw [st_add, st_len, List.length_append]; exact smallZ (by omega)
      rw [st_add, show cutS (st (r ++ w)) none (some 40) = _ from cut_to _ 40]
      exact qw (by rw [List.length_take]; omega) (fun x hx => (List.mem_append.mp (List.mem_of_mem_take hx)).elim (gt x) (wt x)) s2
    · refine ⟨_, rfl, _, rfl, _, _, rfl, rfl, .inr ⟨by decide, by decide⟩, _, _, rfl, rfl, (by show (0 : Int) < 2147483647; decide), _, rfl, _, rfl, zr, _, _, rfl, rfl, _, _, rfl, rfl, ?_, _, rfl, _, rfl, zr, ?_⟩
      · show (0 : Int) < ((st r).length : Int) + 1
        omega
      have hp : 0 ≤ c * 48271 % 2147483647 % (((st r).length : Int) + 1) := Int.emod_nonneg _ (by omega)
      rw [show c * 48271 % 2147483647 % (((st r).length : Int) + 1) = (((c * 48271 % 2147483647 % (((st r).length : Int) + 1)).toNat : Nat) : Int) from (Int.toNat_of_nonneg hp).symm, cut_to]
      exact qw (by rw [List.length_take]; omega) (fun x hx => gt x (List.mem_of_mem_take hx)) s2
theorem ok_Lother_by (F : Fun K "_law_other_by" "_law_other_by" sLother_by f fd)
    (G_Ltext_by : Has P w K mg base "_law_text_by" pLtext_by 3 (spTextBy K)) :
    FnOk P w K mg base CX0 4 f fd pLother_by (spTextBy K) := by
  refine F.ok cLother_by (fun vs H Q E h => ?_) (fun cdv A outer s H vs Q E hr h => ?_)
  · obtain ⟨c, v, R, rfl, _⟩ := h
    rfl
  obtain ⟨c, v, R, rfl, hv, hg, q⟩ := h
  refine ⟨_, (pss_cons (ps_if (pt_cmpR op_eq (pe_op op_mod (pe_op op_fdiv (pv 0) pe_int) pe_int) pe_int (nomark _)) (pss_one (ps_ret (pe_has G_Ltext_by hr (by omega) (pa_cons (pe_op op_fdiv (pv 0) pe_int) (pa_cons (pv 1) pa_nil))))) pss_nil)
    (pss_one (ps_ret (pe_has G_Ltext_by hr (by omega) (pa_cons (pe_op op_mod (pe_op op_mul (pv 0) pe_int) pe_int) (pa_cons (pv 1) pa_nil)))))), ?_⟩
  have e0 : ∀ {A B : Prop} {b : Bool}, (b = true → A) → (b = false → B) → if b = true then A else B := fun {A B b} h1 h2 => by cases b with | true => exact iteT (h1 rfl) | false => exact iteF (h2 rfl)
  refine ⟨_, rfl, _, _, rfl, rfl, ⟨by decide, by decide⟩, _, _, rfl, rfl, (by show (0 : Int) < 9; decide), rfl, _, rfl, e0 (fun _ => ?_) (fun _ => ?_)⟩
  · exact ⟨_, rfl, _, _, rfl, rfl, ⟨by decide, by decide⟩, _, rfl, _, v, R, rfl, hv, hg, q⟩
  · exact ⟨_, rfl, _, _, rfl, rfl, .inr ⟨by decide, by decide⟩, _, _, rfl, rfl, (by show (0 : Int) < 2147483629; decide), _, rfl, _, v, R, rfl, hv, hg, q⟩
theorem ok_Lword_of {CT CNoName CNotThere CTooLong CTaken CTooMany CNothingDone CNoNote : Addr} (F : Fun K "_law_word_of" "_law_word_of" sLword_of f fd) (TNoName : ErrTxt K mg "NoName" CNoName CT) (TNotThere : ErrTxt K mg "NotThere" CNotThere CT) (TTooLong : ErrTxt K mg "TooLong" CTooLong CT) (TTaken : ErrTxt K mg "Taken" CTaken CT) (TTooMany : ErrTxt K mg "TooMany" CTooMany CT) (TNothingDone : ErrTxt K mg "NothingDone" CNothingDone CT) (TNoNote : ErrTxt K mg "NoNote" CNoNote CT)
    (m_isinstance : mg "isinstance" = none) (m_ValueError : mg "ValueError" = none) : FnP P w K mg base 1 f fd pLword_of (spWordOfP K CNoName CNotThere CTooLong CTaken CTooMany CNothingDone CNoNote) := by
  refine Fun.okP F cLword_of (fun p vs H Q E h => ?_) (fun cdv p A outer s H vs Q E hr h => ?_)
  · obtain ⟨D, i, rfl, _⟩ := h
    rfl
  obtain ⟨D, i, rfl, ex, hi, kt, kv, q⟩ := h
  have pm : (p.1, p.2) ∈ (cxP P w K mg base ["_law_e", "_law_words"] "_law_word_of" (defScope sLword_of) f cdv A outer s H E p).pn := List.mem_singleton.mpr rfl
  refine ⟨_, (pss_cons (ps_set (i := 1) cLword_of.nd rfl (Or.inl rfl) (pe_lst pa_nil))
    (pss_cons (ps_if (pt_val (pe_callB (call_isP pm ex.1 ex.2.1 ex.2.2) (by rfl) m_isinstance (by decide +kernel) (pa_cons (pv 0) (pa_cons (pe_glob (v := .ref CNoName) (u := .ref CNoName) (by rfl) TNoName.gN rfl) pa_nil)))) (pss_one (ps_expr (pe_bm PySem.F.plainAttrs_list PySem.F.slot_list_append PySem.F.type_list_append mt_append (pv 1) (pa_cons pe_str pa_nil)))) pss_nil)
    (pss_cons (ps_if (pt_val (pe_callB (call_isP pm ex.1 ex.2.1 ex.2.2) (by rfl) m_isinstance (by decide +kernel) (pa_cons (pv 0) (pa_cons (pe_glob (v := .ref CNotThere) (u := .ref CNotThere) (by rfl) TNotThere.gN rfl) pa_nil)))) (pss_one (ps_expr (pe_bm PySem.F.plainAttrs_list PySem.F.slot_list_append PySem.F.type_list_append mt_append (pv 1) (pa_cons pe_str pa_nil)))) pss_nil)
    (pss_cons (ps_if (pt_val (pe_callB (call_isP pm ex.1 ex.2.1 ex.2.2) (by rfl) m_isinstance (by decide +kernel) (pa_cons (pv 0) (pa_cons (pe_glob (v := .ref CTooLong) (u := .ref CTooLong) (by rfl) TTooLong.gN rfl) pa_nil)))) (pss_one (ps_expr (pe_bm PySem.F.plainAttrs_list PySem.F.slot_list_append PySem.F.type_list_append mt_append (pv 1) (pa_cons pe_str pa_nil)))) pss_nil)
    (pss_cons (ps_if (pt_val (pe_callB (call_isP pm ex.1 ex.2.1 ex.2.2) (by rfl) m_isinstance (by decide +kernel) (pa_cons (pv 0) (pa_cons (pe_glob (v := .ref CTaken) (u := .ref CTaken) (by rfl) TTaken.gN rfl) pa_nil)))) (pss_one (ps_expr (pe_bm PySem.F.plainAttrs_list PySem.F.slot_list_append PySem.F.type_list_append mt_append (pv 1) (pa_cons pe_str pa_nil)))) pss_nil)
    (pss_cons (ps_if (pt_val (pe_callB (call_isP pm ex.1 ex.2.1 ex.2.2) (by rfl) m_isinstance (by decide +kernel) (pa_cons (pv 0) (pa_cons (pe_glob (v := .ref CTooMany) (u := .ref CTooMany) (by rfl) TTooMany.gN rfl) pa_nil)))) (pss_one (ps_expr (pe_bm PySem.F.plainAttrs_list PySem.F.slot_list_append PySem.F.type_list_append mt_append (pv 1) (pa_cons pe_str pa_nil)))) pss_nil)
    (pss_cons (ps_if (pt_val (pe_callB (call_isP pm ex.1 ex.2.1 ex.2.2) (by rfl) m_isinstance (by decide +kernel) (pa_cons (pv 0) (pa_cons (pe_glob (v := .ref CNothingDone) (u := .ref CNothingDone) (by rfl) TNothingDone.gN rfl) pa_nil)))) (pss_one (ps_expr (pe_bm PySem.F.plainAttrs_list PySem.F.slot_list_append PySem.F.type_list_append mt_append (pv 1) (pa_cons pe_str pa_nil)))) pss_nil)
    (pss_cons (ps_if (pt_val (pe_callB (call_isP pm ex.1 ex.2.1 ex.2.2) (by rfl) m_isinstance (by decide +kernel) (pa_cons (pv 0) (pa_cons (pe_glob (v := .ref CNoNote) (u := .ref CNoNote) (by rfl) TNoNote.gN rfl) pa_nil)))) (pss_one (ps_expr (pe_bm PySem.F.plainAttrs_list PySem.F.slot_list_append PySem.F.type_list_append mt_append (pv 1) (pa_cons pe_str pa_nil)))) pss_nil)
    (pss_one (ps_ret (pe_tup (pa_cons (pe_join pe_str (pv 1)) (pa_cons (pe_callB (call_isP pm ex.1 ex.2.1 ex.2.2) (by rfl) m_isinstance (by decide +kernel) (pa_cons (pv 0) (pa_cons (pe_bltn (by rfl) m_ValueError (by decide +kernel) (v := .ty "ValueError") rfl) pa_nil))) pa_nil))))))))))))), ?_⟩
  have h0 := kt 0 CNoName rfl
  have h1 := kt 1 CNotThere rfl
  have h2 := kt 2 CTooLong rfl
  have h3 := kt 3 CTaken rfl
  have h4 := kt 4 CTooMany rfl
  have h5 := kt 5 CNothingDone rfl
  have h6 := kt 6 CNoNote rfl
  refine ⟨(by show 0 ≤ sizeLine; decide), fun L nL => ?_⟩
  have s1 := same_new nL (.lst [])
  have hL : upd H L (.lst []) L = some (.lst []) := upd_same
  have fin : ∀ t : Addr, upd H L (.lst [V.str (exWord i)]) t = none → Q (.ref t) (upd (upd H L (.lst [V.str (exWord i)])) t (.tup [.str (exWord i), .bl true])) := fun t nt => q t _ ((same_new nL _).trans (same_new nt _)) upd_same
  rcases (show i = 0 ∨ i = 1 ∨ i = 2 ∨ i = 3 ∨ i = 4 ∨ i = 5 by omega) with rfl | rfl | rfl | rfl | rfl | rfl
  · refine ⟨_, rfl, .ref CNoName, .ref CNoName, _, rfl, fun u r => r, h0, _, rfl, ify rfl ⟨_, rfl, .inl ⟨rfl, _, SqL.of hL⟩, L, [], _, rfl, rfl, hL, (by show 0 < sizeLine; decide), ?_⟩⟩
    rw [upd_upd]
    show tSeq _ _ _ _ (upd H L (.lst [V.str (exWord 0)]))
    refine ⟨_, rfl, .ref CNotThere, .ref CNotThere, _, rfl, fun u r => r, h1, _, rfl, ifn (by decide) ?_⟩
    refine ⟨_, rfl, .ref CTooLong, .ref CTooLong, _, rfl, fun u r => r, h2, _, rfl, ifn (by decide) ?_⟩
    refine ⟨_, rfl, .ref CTaken, .ref CTaken, _, rfl, fun u r => r, h3, _, rfl, ifn (by decide) ?_⟩
    refine ⟨_, rfl, .ref CTooMany, .ref CTooMany, _, rfl, fun u r => r, h4, _, rfl, ifn (by decide) ?_⟩
    refine ⟨_, rfl, .ref CNothingDone, .ref CNothingDone, _, rfl, fun u r => r, h5, _, rfl, ifn (by decide) ?_⟩
    refine ⟨_, rfl, .ref CNoNote, .ref CNoNote, _, rfl, fun u r => r, h6, _, rfl, ifn (by decide) ?_⟩
    refine ⟨⟨_, rfl⟩, _, rfl, _, L, [exWord 0], rfl, rfl, .inl (SqL.of upd_same), by decide +kernel, ?_⟩
    rw [show Txt.join (Str.ofString "") [exWord 0] = exWord 0 by decide +kernel]
    exact ⟨_, rfl, .ty "ValueError", .type "ValueError", _, rfl, fun u r => r, kv, (by show 2 ≤ sizeLine; decide), fun t nt => fin t nt⟩
  · refine ⟨_, rfl, .ref CNoName, .ref CNoName, _, rfl, fun u r => r, h0, _, rfl, ifn (by decide) ?_⟩
    refine ⟨_, rfl, .ref CNotThere, .ref CNotThere, _, rfl, fun u r => r, h1, _, rfl, ify rfl ⟨_, rfl, .inl ⟨rfl, _, SqL.of hL⟩, L, [], _, rfl, rfl, hL, (by show 0 < sizeLine; decide), ?_⟩⟩
    rw [upd_upd]
    show tSeq _ _ _ _ (upd H L (.lst [V.str (exWord 1)]))
    refine ⟨_, rfl, .ref CTooLong, .ref CTooLong, _, rfl, fun u r => r, h2, _, rfl, ifn (by decide) ?_⟩
    refine ⟨_, rfl, .ref CTaken, .ref CTaken, _, rfl, fun u r => r, h3, _, rfl, ifn (by decide) ?_⟩
    refine ⟨_, rfl, .ref CTooMany, .ref CTooMany, _, rfl, fun u r => r, h4, _, rfl, ifn (by decide) ?_⟩
    refine ⟨_, rfl, .ref CNothingDone, .ref CNothingDone, _, rfl, fun u r => r, h5, _, rfl, ifn (by decide) ?_⟩
    refine ⟨_, rfl, .ref CNoNote, .ref CNoNote, _, rfl, fun u r => r, h6, _, rfl, ifn (by decide) ?_⟩
    refine ⟨⟨_, rfl⟩, _, rfl, _, L, [exWord 1], rfl, rfl, .inl (SqL.of upd_same), by decide +kernel, ?_⟩
    rw [show Txt.join (Str.ofString "") [exWord 1] = exWord 1 by decide +kernel]
    exact ⟨_, rfl, .ty "ValueError", .type "ValueError", _, rfl, fun u r => r, kv, (by show 2 ≤ sizeLine; decide), fun t nt => fin t nt⟩
  · refine ⟨_, rfl, .ref CNoName, .ref CNoName, _, rfl, fun u r => r, h0, _, rfl, ifn (by decide) ?_⟩
    refine ⟨_, rfl, .ref CNotThere, .ref CNotThere, _, rfl, fun u r => r, h1, _, rfl, ifn (by decide) ?_⟩
    refine ⟨_, rfl, .ref CTooLong, .ref CTooLong, _, rfl, fun u r => r, h2, _, rfl, ify rfl ⟨_, rfl, .inl ⟨rfl, _, SqL.of hL⟩, L, [], _, rfl, rfl, hL, (by show 0 < sizeLine; decide), ?_⟩⟩
    rw [upd_upd]
    show tSeq _ _ _ _ (upd H L (.lst [V.str (exWord 2)]))
    refine ⟨_, rfl, .ref CTaken, .ref CTaken, _, rfl, fun u r => r, h3, _, rfl, ifn (by decide) ?_⟩
    refine ⟨_, rfl, .ref CTooMany, .ref CTooMany, _, rfl, fun u r => r, h4, _, rfl, ifn (by decide) ?_⟩
    refine ⟨_, rfl, .ref CNothingDone, .ref CNothingDone, _, rfl, fun u r => r, h5, _, rfl, ifn (by decide) ?_⟩
    refine ⟨_, rfl, .ref CNoNote, .ref CNoNote, _, rfl, fun u r => r, h6, _, rfl, ifn (by decide) ?_⟩
    refine ⟨⟨_, rfl⟩, _, rfl, _, L, [exWord 2], rfl, rfl, .inl (SqL.of upd_same), by decide +kernel, ?_⟩
    rw [show Txt.join (Str.ofString "") [exWord 2] = exWord 2 by decide +kernel]
    exact ⟨_, rfl, .ty "ValueError", .type "ValueError", _, rfl, fun u r => r, kv, (by show 2 ≤ sizeLine; decide), fun t nt => fin t nt⟩
  · refine ⟨_, rfl, .ref CNoName, .ref CNoName, _, rfl, fun u r => r, h0, _, rfl, ifn (by decide) ?_⟩
    refine ⟨_, rfl, .ref CNotThere, .ref CNotThere, _, rfl, fun u r => r, h1, _, rfl, ifn (by decide) ?_⟩
    refine ⟨_, rfl, .ref CTooLong, .ref CTooLong, _, rfl, fun u r => r, h2, _, rfl, ifn (by decide) ?_⟩
    refine ⟨_, rfl, .ref CTaken, .ref CTaken, _, rfl, fun u r => r, h3, _, rfl, ify rfl ⟨_, rfl, .inl ⟨rfl, _, SqL.of hL⟩, L, [], _, rfl, rfl, hL, (by show 0 < sizeLine; decide), ?_⟩⟩
    rw [upd_upd]
    show tSeq _ _ _ _ (upd H L (.lst [V.str (exWord 3)]))
    refine ⟨_, rfl, .ref CTooMany, .ref CTooMany, _, rfl, fun u r => r, h4, _, rfl, ifn (by decide) ?_⟩
    refine ⟨_, rfl, .ref CNothingDone, .ref CNothingDone, _, rfl, fun u r => r, h5, _, rfl, ifn (by decide) ?_⟩
    refine ⟨_, rfl, .ref CNoNote, .ref CNoNote, _, rfl, fun u r => r, h6, _, rfl, ifn (by decide) ?_⟩
    refine ⟨⟨_, rfl⟩, _, rfl, _, L, [exWord 3], rfl, rfl, .inl (SqL.of upd_same), by decide +kernel, ?_⟩
    rw [show Txt.join (Str.ofString "") [exWord 3] = exWord 3 by decide +kernel]
    exact ⟨_, rfl, .ty "ValueError", .type "ValueError", _, rfl, fun u r => r, kv, (by show 2 ≤ sizeLine; decide), fun t nt => fin t nt⟩
  · refine ⟨_, rfl, .ref CNoName, .ref CNoName, _, rfl, fun u r => r, h0, _, rfl, ifn (by decide) ?_⟩
    refine ⟨_, rfl, .ref CNotThere, .ref CNotThere, _, rfl, fun u r => r, h1, _, rfl, ifn (by decide) ?_⟩
    refine ⟨_, rfl, .ref CTooLong, .ref CTooLong, _, rfl, fun u r => r, h2, _, rfl, ifn (by decide) ?_⟩
    refine ⟨_, rfl, .ref CTaken, .ref CTaken, _, rfl, fun u r => r, h3, _, rfl, ifn (by decide) ?_⟩
    refine ⟨_, rfl, .ref CTooMany, .ref CTooMany, _, rfl, fun u r => r, h4, _, rfl, ify rfl ⟨_, rfl, .inl ⟨rfl, _, SqL.of hL⟩, L, [], _, rfl, rfl, hL, (by show 0 < sizeLine; decide), ?_⟩⟩
    rw [upd_upd]
    show tSeq _ _ _ _ (upd H L (.lst [V.str (exWord 4)]))
    refine ⟨_, rfl, .ref CNothingDone, .ref CNothingDone, _, rfl, fun u r => r, h5, _, rfl, ifn (by decide) ?_⟩
    refine ⟨_, rfl, .ref CNoNote, .ref CNoNote, _, rfl, fun u r => r, h6, _, rfl, ifn (by decide) ?_⟩
    refine ⟨⟨_, rfl⟩, _, rfl, _, L, [exWord 4], rfl, rfl, .inl (SqL.of upd_same), by decide +kernel, ?_⟩
    rw [show Txt.join (Str.ofString "") [exWord 4] = exWord 4 by decide +kernel]
    exact ⟨_, rfl, .ty "ValueError", .type "ValueError", _, rfl, fun u r => r, kv, (by show 2 ≤ sizeLine; decide), fun t nt => fin t nt⟩
  · refine ⟨_, rfl, .ref CNoName, .ref CNoName, _, rfl, fun u r => r, h0, _, rfl, ifn (by decide) ?_⟩
    refine ⟨_, rfl, .ref CNotThere, .ref CNotThere, _, rfl, fun u r => r, h1, _, rfl, ifn (by decide) ?_⟩
    refine ⟨_, rfl, .ref CTooLong, .ref CTooLong, _, rfl, fun u r => r, h2, _, rfl, ifn (by decide) ?_⟩
    refine ⟨_, rfl, .ref CTaken, .ref CTaken, _, rfl, fun u r => r, h3, _, rfl, ifn (by decide) ?_⟩
    refine ⟨_, rfl, .ref CTooMany, .ref CTooMany, _, rfl, fun u r => r, h4, _, rfl, ifn (by decide) ?_⟩
    refine ⟨_, rfl, .ref CNothingDone, .ref CNothingDone, _, rfl, fun u r => r, h5, _, rfl, ify rfl ⟨_, rfl, .inl ⟨rfl, _, SqL.of hL⟩, L, [], _, rfl, rfl, hL, (by show 0 < sizeLine; decide), ?_⟩⟩
    rw [upd_upd]
    show tSeq _ _ _ _ (upd H L (.lst [V.str (exWord 5)]))
    refine ⟨_, rfl, .ref CNoNote, .ref CNoNote, _, rfl, fun u r => r, h6, _, rfl, ifn (by decide) ?_⟩
    refine ⟨⟨_, rfl⟩, _, rfl, _, L, [exWord 5], rfl, rfl, .inl (SqL.of upd_same), by decide +kernel, ?_⟩
    rw [show Txt.join (Str.ofString "") [exWord 5] = exWord 5 by decide +kernel]
    exact ⟨_, rfl, .ty "ValueError", .type "ValueError", _, rfl, fun u r => r, kv, (by show 2 ≤ sizeLine; decide), fun t nt => fin t nt⟩
theorem ok_Ltried {CTrail fT_init fT_keep fT_drop fT_prune fT_move fT_graft fT_back fT_told CNoName CNotThere CTooLong CTaken CTooMany CNothingDone CNoNote CT : Addr} {fdT_keep fdT_drop fdT_prune fdT_move fdT_graft fdT_back fdT_told : FuncData} (F : Fun K "_law_tried" "_law_tried" sLtried f fd) (gT : mg "TrailError" = some (.ref CT))
    (cl : ∀ (i : Nat) (D : Addr), i < 6 → [CNoName, CNotThere, CTooLong, CTaken, CTooMany, CNothingDone][i]? = some D → PySem.W.exmOne K (.ref D) (.ref CT) = some true ∧ ExcC K D ∧ Kits K [CNoName, CNotThere, CTooLong, CTaken, CTooMany, CNothingDone, CNoNote] D i ∧ PySem.W.kitOne K (.ref D) (.type "ValueError") = some true)
    (TTr : TrTxt K mg CTrail fT_init) (G_T_keep : FnOk P w K mg base (L2.CX P w) 100 fT_keep fdT_keep pT_keep (spKeep K CTrail CNoName CTooMany)) (b_T_keep : Binds K fdT_keep pT_keep []) (M_T_keep : Meth K CTrail "keep" fT_keep)
    (G_T_drop : FnOk P w K mg base (L2.CX P w) 100 fT_drop fdT_drop pT_drop (spDrop K CTrail CNoName CNotThere)) (b_T_drop : Binds K fdT_drop pT_drop []) (M_T_drop : Meth K CTrail "drop" fT_drop)
    (G_T_prune : FnOk P w K mg base (L2.CX P w) 100 fT_prune fdT_prune pT_prune (spPrune K CTrail CNoName CNotThere)) (b_T_prune : Binds K fdT_prune pT_prune []) (M_T_prune : Meth K CTrail "prune" fT_prune)
    (G_T_move : FnOk P w K mg base (L2.CX P w) 120 fT_move fdT_move pT_move (spMove K CTrail CNoName CNotThere CTooLong CTaken stayR none)) (b_T_move : Binds K fdT_move pT_move []) (M_T_move : Meth K CTrail "move" fT_move)
    (G_T_graft : FnOk P w K mg base (L2.CX P w) 120 fT_graft fdT_graft pT_graft (spMove K CTrail CNoName CNotThere CTooLong CTaken (fun _ R => R) (some CTooMany))) (b_T_graft : Binds K fdT_graft pT_graft []) (M_T_graft : Meth K CTrail "graft" fT_graft)
    (G_T_back : FnOk P w K mg base (L2.CX P w) 5 fT_back fdT_back pT_back (spBack K CTrail CNothingDone)) (b_T_back : Binds K fdT_back pT_back []) (M_T_back : Meth K CTrail "back" fT_back)
    (G_T_told : FnOk P w K mg base (L2.CX P w) 95 fT_told fdT_told pT_told (spTold K CTrail CNoName)) (b_T_told : Binds K fdT_told pT_told []) (M_T_told : Meth K CTrail "told" fT_told)
    {fW : Addr} {fdW : FuncData} (GW : FnP P w K mg base 1 fW fdW pLword_of (spWordOfP K CNoName CNotThere CTooLong CTaken CTooMany CNothingDone CNoNote)) (bW : Binds K fdW pLword_of []) (kW : PySem.W.keepIn K (.ref fW) = true) (gW : mg "_law_word_of" = some (.ref fW)) :
    FnOk P w K mg base CX0 125 f fd pLtried (spTried K CTrail CNoName CNotThere CTooLong CTaken CTooMany CNothingDone CNoNote) := by
  refine F.ok cLtried (fun vs H Q E h => ?_) (fun cdv A outer s H vs Q E hr h => ?_)
  · obtain ⟨x, dx, fs, way, w', u, n, rfl, _⟩ := h
    rfl
  obtain ⟨x, dx, fs, way, w', u, n, rfl, hx, hl, hc⟩ := h
  refine ⟨_, pss_one (ps_try_as (i := 5) (n := "_law_e") (Wout := fun _ _ _ _ => False) (c := .ref CT) (ts := fun a cls d D σ H => (d = none ∧ ∃ i E', i < 6 ∧ [CNoName, CNotThere, CTooLong, CTaken, CTooMany, CNothingDone][i]? = some E' ∧ cls = .ref E') ∧ ∀ oe : Obj, Zc cls d oe → (∃ vs, oe.data = .fields vs) →
          tRet (tCallP (spWordOfP K CNoName CNotThere CTooLong CTaken CTooMany CNothingDone CNoNote) (a, oe) (tCons (tVar 5) tNil)) D σ H) rfl rfl cLtried.nd rfl rfl ⟨rfl, by decide, .inl gT⟩ takes0
        (fun W pn xe tk _ => (pss_cons (ps_if (pt_cmpR op_eq (pv 1) pe_int (nomark _)) (pss_one (ps_ret (pe_tup (pa_cons pe_str (pa_cons (pe_methE (E := WE W) (pv 0) TTr.cl M_T_keep G_T_keep (hr.mono (by omega)) b_T_keep (fun σ => passAt tk σ) (pa_cons (pv 2) (pa_cons (pv 4) pa_nil))) pa_nil))))) pss_nil)
          (pss_cons (ps_if (pt_cmpR op_eq (pv 1) pe_int (nomark _)) (pss_one (ps_ret (pe_tup (pa_cons pe_str (pa_cons (pe_methE (E := WE W) (pv 0) TTr.cl M_T_drop G_T_drop (hr.mono (by omega)) b_T_drop (fun σ => passAt tk σ) (pa_cons (pv 2) pa_nil)) pa_nil))))) pss_nil)
          (pss_cons (ps_if (pt_cmpR op_eq (pv 1) pe_int (nomark _)) (pss_one (ps_ret (pe_tup (pa_cons pe_str (pa_cons (pe_methE (E := WE W) (pv 0) TTr.cl M_T_prune G_T_prune (hr.mono (by omega)) b_T_prune (fun σ => passAt tk σ) (pa_cons (pv 2) pa_nil)) pa_nil))))) pss_nil)
          (pss_cons (ps_if (pt_cmpR op_eq (pv 1) pe_int (nomark _)) (pss_one (ps_ret (pe_tup (pa_cons pe_str (pa_cons (pe_methE (E := WE W) (pv 0) TTr.cl M_T_move G_T_move (hr.mono (by omega)) b_T_move (fun σ => passAt tk σ) (pa_cons (pv 2) (pa_cons (pv 3) pa_nil))) pa_nil))))) pss_nil)
          (pss_cons (ps_if (pt_cmpR op_eq (pv 1) pe_int (nomark _)) (pss_one (ps_ret (pe_tup (pa_cons pe_str (pa_cons (pe_methE (E := WE W) (pv 0) TTr.cl M_T_graft G_T_graft (hr.mono (by omega)) b_T_graft (fun σ => passAt tk σ) (pa_cons (pv 2) (pa_cons (pv 3) pa_nil))) pa_nil))))) pss_nil)
          (pss_cons (ps_if (pt_cmpR op_eq (pv 1) pe_int (nomark _)) (pss_one (ps_ret (pe_tup (pa_cons pe_str (pa_cons (pe_methE (E := WE W) (pv 0) TTr.cl M_T_told G_T_told (hr.mono (by omega)) b_T_told (fun σ => passAt tk σ) (pa_cons (pv 2) pa_nil)) pa_nil))))) pss_nil)
          (pss_one (ps_ret (pe_tup (pa_cons pe_str (pa_cons (pe_methE0 (E := WE W) (pv 0) TTr.cl M_T_back G_T_back (hr.mono (by omega)) b_T_back (fun σ => passAt tk σ)) pa_nil))))))))))))
        (fun a oe cls d pn hz hfl => ⟨fun pins s σ H D I h => by
          refine PSs.run ?_ pins s σ H D I (h.2 oe hz hfl)
          exact pss_one (ps_ret (pe_callP GW (roomH_mark hr (by omega)) (by exact List.mem_cons_self) (by rfl) gW kW bW (pa_cons (pv 5) pa_nil)))⟩)), ?_⟩
  rcases hc with ⟨rfl, h⟩ | ⟨rfl, h⟩ | ⟨rfl, h⟩ | ⟨rfl, h⟩ | ⟨rfl, h⟩ | ⟨rfl, h⟩ | ⟨rfl, h⟩
  · refine ⟨_, rfl, rfl, _, rfl, ify rfl ⟨_, rfl, x, dx, fs, rfl, hx, hl _ (.inl rfl), _, rfl, _, rfl, ?_⟩⟩
    dsimp only [tNil]
    refine mono_keep _ _ _ _ _ _ h (fun v H' q => ⟨(by show 2 ≤ sizeLine; decide), fun tt nt => q tt _ (same_new nt _) upd_same⟩) (fun cls d H' ⟨dn, i, D, hi, hD, ec, rf⟩ => ?_)
    subst ec dn
    obtain ⟨ex, exc, kits, kv⟩ := cl i D hi hD
    exact ⟨true, ex, fun _ a na => ⟨⟨rfl, i, D, hi, hD, rfl⟩, fun oe hz hf => ⟨_, rfl, D, i, rfl, ⟨exc, hz, hf⟩, hi, kits, kv, fun t H2 s ht => rf t H2 s ht⟩⟩, fun z => Bool.noConfusion z⟩
  · refine ⟨_, rfl, rfl, _, rfl, ifn (by simp) ⟨_, rfl, rfl, _, rfl, ify rfl ⟨_, rfl, x, dx, fs, rfl, hx, hl _ (.inr (.inl rfl)), _, rfl, ?_⟩⟩⟩
    dsimp only [tNil]
    refine mono_drop _ _ _ _ _ _ h (fun v H' q => ⟨(by show 2 ≤ sizeLine; decide), fun tt nt => q tt _ (same_new nt _) upd_same⟩) (fun cls d H' ⟨dn, i, D, hi, hD, ec, rf⟩ => ?_)
    subst ec dn
    obtain ⟨ex, exc, kits, kv⟩ := cl i D hi hD
    exact ⟨true, ex, fun _ a na => ⟨⟨rfl, i, D, hi, hD, rfl⟩, fun oe hz hf => ⟨_, rfl, D, i, rfl, ⟨exc, hz, hf⟩, hi, kits, kv, fun t H2 s ht => rf t H2 s ht⟩⟩, fun z => Bool.noConfusion z⟩
  · refine ⟨_, rfl, rfl, _, rfl, ifn (by simp) ⟨_, rfl, rfl, _, rfl, ifn (by simp) ⟨_, rfl, rfl, _, rfl, ify rfl ⟨_, rfl, x, dx, fs, rfl, hx, hl _ (.inr (.inr (.inl rfl))), _, rfl, ?_⟩⟩⟩⟩
    dsimp only [tNil]
    refine mono_prune _ _ _ _ _ _ h (fun v H' q => ⟨(by show 2 ≤ sizeLine; decide), fun tt nt => q tt _ (same_new nt _) upd_same⟩) (fun cls d H' ⟨dn, i, D, hi, hD, ec, rf⟩ => ?_)
    subst ec dn
    obtain ⟨ex, exc, kits, kv⟩ := cl i D hi hD
    exact ⟨true, ex, fun _ a na => ⟨⟨rfl, i, D, hi, hD, rfl⟩, fun oe hz hf => ⟨_, rfl, D, i, rfl, ⟨exc, hz, hf⟩, hi, kits, kv, fun t H2 s ht => rf t H2 s ht⟩⟩, fun z => Bool.noConfusion z⟩
  · refine ⟨_, rfl, rfl, _, rfl, ifn (by simp) ⟨_, rfl, rfl, _, rfl, ifn (by simp) ⟨_, rfl, rfl, _, rfl, ifn (by simp) ⟨_, rfl, rfl, _, rfl, ify rfl ⟨_, rfl, x, dx, fs, rfl, hx, hl _ (.inr (.inr (.inr (.inl rfl)))), _, rfl, _, rfl, ?_⟩⟩⟩⟩⟩
    dsimp only [tNil]
    refine mono_move _ _ _ _ _ _ h (fun v H' q => ⟨(by show 2 ≤ sizeLine; decide), fun tt nt => q tt _ (same_new nt _) upd_same⟩) (fun cls d H' ⟨dn, i, D, hi, hD, ec, rf⟩ => ?_)
    subst ec dn
    obtain ⟨ex, exc, kits, kv⟩ := cl i D hi hD
    exact ⟨true, ex, fun _ a na => ⟨⟨rfl, i, D, hi, hD, rfl⟩, fun oe hz hf => ⟨_, rfl, D, i, rfl, ⟨exc, hz, hf⟩, hi, kits, kv, fun t H2 s ht => rf t H2 s ht⟩⟩, fun z => Bool.noConfusion z⟩
  · refine ⟨_, rfl, rfl, _, rfl, ifn (by simp) ⟨_, rfl, rfl, _, rfl, ifn (by simp) ⟨_, rfl, rfl, _, rfl, ifn (by simp) ⟨_, rfl, rfl, _, rfl, ifn (by simp) ⟨_, rfl, rfl, _, rfl, ify rfl ⟨_, rfl, x, dx, fs, rfl, hx, hl _ (.inr (.inr (.inr (.inr (.inl rfl))))), _, rfl, _, rfl, ?_⟩⟩⟩⟩⟩⟩
    dsimp only [tNil]
    refine mono_move _ _ _ _ _ _ h (fun v H' q => ⟨(by show 2 ≤ sizeLine; decide), fun tt nt => q tt _ (same_new nt _) upd_same⟩) (fun cls d H' ⟨dn, i, D, hi, hD, ec, rf⟩ => ?_)
    subst ec dn
    obtain ⟨ex, exc, kits, kv⟩ := cl i D hi hD
    exact ⟨true, ex, fun _ a na => ⟨⟨rfl, i, D, hi, hD, rfl⟩, fun oe hz hf => ⟨_, rfl, D, i, rfl, ⟨exc, hz, hf⟩, hi, kits, kv, fun t H2 s ht => rf t H2 s ht⟩⟩, fun z => Bool.noConfusion z⟩
  · refine ⟨_, rfl, rfl, _, rfl, ifn (by simp) ⟨_, rfl, rfl, _, rfl, ifn (by simp) ⟨_, rfl, rfl, _, rfl, ifn (by simp) ⟨_, rfl, rfl, _, rfl, ifn (by simp) ⟨_, rfl, rfl, _, rfl, ifn (by simp) ⟨_, rfl, rfl, _, rfl, ify rfl ⟨_, rfl, x, dx, fs, rfl, hx, hl _ (.inr (.inr (.inr (.inr (.inr (.inl rfl)))))), _, rfl, ?_⟩⟩⟩⟩⟩⟩⟩
    dsimp only [tNil]
    refine mono_told _ _ _ _ _ _ h (fun v H' q => ⟨(by show 2 ≤ sizeLine; decide), fun tt nt => q tt _ (same_new nt _) upd_same⟩) (fun cls d H' ⟨dn, i, D, hi, hD, ec, rf⟩ => ?_)
    subst ec dn
    obtain ⟨ex, exc, kits, kv⟩ := cl i D hi hD
    exact ⟨true, ex, fun _ a na => ⟨⟨rfl, i, D, hi, hD, rfl⟩, fun oe hz hf => ⟨_, rfl, D, i, rfl, ⟨exc, hz, hf⟩, hi, kits, kv, fun t H2 s ht => rf t H2 s ht⟩⟩, fun z => Bool.noConfusion z⟩
  · refine ⟨_, rfl, rfl, _, rfl, ifn (by simp) ⟨_, rfl, rfl, _, rfl, ifn (by simp) ⟨_, rfl, rfl, _, rfl, ifn (by simp) ⟨_, rfl, rfl, _, rfl, ifn (by simp) ⟨_, rfl, rfl, _, rfl, ifn (by simp) ⟨_, rfl, rfl, _, rfl, ifn (by simp) ⟨_, rfl, x, dx, fs, rfl, hx, hl _ (.inr (.inr (.inr (.inr (.inr (.inr rfl)))))), ?_⟩⟩⟩⟩⟩⟩⟩
    dsimp only [tNil]
    refine mono_back _ _ _ _ _ _ h (fun v H' q => ⟨(by show 2 ≤ sizeLine; decide), fun tt nt => q tt _ (same_new nt _) upd_same⟩) (fun cls d H' ⟨dn, i, D, hi, hD, ec, rf⟩ => ?_)
    subst ec dn
    obtain ⟨ex, exc, kits, kv⟩ := cl i D hi hD
    exact ⟨true, ex, fun _ a na => ⟨⟨rfl, i, D, hi, hD, rfl⟩, fun oe hz hf => ⟨_, rfl, D, i, rfl, ⟨exc, hz, hf⟩, hi, kits, kv, fun t H2 s ht => rf t H2 s ht⟩⟩, fun z => Bool.noConfusion z⟩
theorem ok_Lnamed (F : Fun K "_law_named" "_law_named" sLnamed f fd) (m_isinstance : mg "isinstance" = none) (m_str : mg "str" = none) (m_len : mg "len" = none) :
    FnOk P w K mg base CX0 1 f fd pLnamed (spNamed K) := by
  refine F.ok cLnamed (fun vs H Q E h => ?_) (fun cdv A outer s H vs Q E hr h => ?_)
  · obtain ⟨v, t, rfl, _⟩ := h
    rfl
  obtain ⟨v, t, rfl, tx, th, q⟩ := h
  refine ⟨_, (pss_one (ps_ret (pe_and (pe_callB call_isi (by rfl) m_isinstance (by decide +kernel) (pa_cons (pv 0) (pa_cons (pe_bltn rfl m_str (by decide +kernel) (v := .ty "str") rfl) pa_nil))) (pe_and (pe_cmpR op_le (pe_callB call_len_str (by rfl) m_len (by decide +kernel) (pa_cons (pv 0) pa_nil)) pe_int (nomark _)) (pe_and (pe_cmpR op_notIn_sign pe_str (pv 0) (by rfl)) (pe_one (pe_cmpR op_notIn_sign pe_str (pv 0) (by rfl)))))))), ?_⟩
  rcases tx with ⟨x, rfl, hx, hc⟩ | rfl | rfl
  · have hd : Dp K H (.str (st x)) (.str (st x)) := .str _
    have ev : t.isSome = isNm x := by
      rw [thg_uniq th (thg_of (x := x) (by omega))]
      cases isNm x <;> rfl
    rw [ev] at q
    have zx : (st x).length ≤ sizeLine := by rw [st_len]; exact smallZ (by omega)
    refine ⟨_, rfl, _, _, _, _, true, rfl, .ty _, tyx_of hd, kit_ty (by simp only [tyN]; decide +kernel), ⟨true, rfl, iteT ?_⟩⟩
    refine ⟨_, rfl, _, rfl, zx, _, _, rfl, rfl, _, rfl, ?_⟩
    rw [st_len]
    by_cases hl : x.length ≤ 40
    · rw [decide_eq_true (by omega)]
      refine iteT ⟨_, rfl, 10, st x, rfl, rfl, _, rfl, ?_⟩
      rcases hc with hc | rfl | rfl
      · have n10 : decide (10 ∈ (st x).cps.toList) = false := decide_eq_false fun z => absurd (hc 10 (by simpa using z)) (by decide)
        have n9 : decide (9 ∈ (st x).cps.toList) = false := decide_eq_false fun z => absurd (hc 9 (by simpa using z)) (by decide)
        rw [n10]
        refine iteT ⟨_, rfl, 9, st x, rfl, rfl, ?_⟩
        rw [n9]
        rw [isNm_of hl hc] at q
        exact q
      · exact iteF q
      · exact iteT ⟨_, rfl, 9, st [9, 98], rfl, rfl, q⟩
    · rw [decide_eq_false (by omega)]
      rw [isNm_long (by omega)] at q
      exact iteF q
  · have hd : Dp K H .non .none := .non
    have ev : t = none := by
      cases t with
      | none => rfl
      | some b => obtain ⟨e, _⟩ := th; cases e
    subst ev
    exact ⟨_, rfl, _, _, _, _, false, rfl, .ty _, tyx_of hd, kit_ty (by simp only [tyN]; decide +kernel), ⟨false, rfl, iteF q⟩⟩
  · have hd : Dp K H (.int 7) (.int 7) := .int _
    have ev : t = none := by
      cases t with
      | none => rfl
      | some b => obtain ⟨e, _⟩ := th; cases e
    subst ev
    exact ⟨_, rfl, _, _, _, _, false, rfl, .ty _, tyx_of hd, kit_ty (by simp only [tyN]; decide +kernel), ⟨false, rfl, iteF q⟩⟩
theorem ok_Lbranch (F : Fun K "_law_branch" "_law_branch" sLbranch f fd) (m_range : mg "range" = none) (m_max : mg "max" = none) (m_len : mg "len" = none) (m_sorted : mg "sorted" = none) :
    FnOk P w K mg base CX0 3 f fd pLbranch (spBrD K) := by
  refine F.ok cLbranch (fun vs H Q E h => ?_) (fun cdv A outer s H vs Q E hr h => ?_)
  · obtain ⟨d, b, c, s, R, rfl, _⟩ := h
    rfl
  obtain ⟨d, b, c, s, R, rfl, ⟨P, eP, up, pm⟩, g, rl, nb, nc, q⟩ := h
  refine ⟨_, (pss_cons (ps_setLc (i := 5) (own := [("_law_name", 4)]) (g := gName 4) (by rfl) cLbranch.nd rfl rfl (sw_true rfl rfl rfl (by decide +kernel)) (pi_list (pe_callB (cr_sortedDS (by rfl) (room_units hr)) (by rfl) m_sorted (by decide +kernel) (pa_cons (pv 0) pa_nil))) (blkOk_by (own := [("_law_name", 4)]) (N := ["_law_plain", "_law_one", "_law_other", "_law_stay", "_law_name", "_law_group", "_law_fresh", "_law_grown", "_law_k"]) (sc := defScope sLbranch) (by decide +kernel)) (fun _ _ _ _ _ => pg_name (i := 4) cLbranch.nd rfl (Or.inl rfl)) (fun _ _ _ _ _ => (pts_one (pt_cmpR op_eq (pe_slice sl_str (pv 4) po_none (po_some (pe_callB call_len_str (by rfl) m_len (by decide +kernel) (pa_cons (pv 1) pa_nil)))) (pv 1) (nomark _)))) (fun _ _ _ _ _ => (pv 4)))
    (pss_cons (ps_if (pt_cmpR (op_eqD hr.units) (pv 5) (pe_lst pa_nil) (nomark _)) (pss_one (ps_ret (pe_tup (pa_cons pe_str (pa_cons pe_bl (pa_cons (pv 0) pa_nil)))))) pss_nil)
    (pss_cons (ps_setLc (i := 6) (own := [("_law_name", 4)]) (g := gName 4) (by rfl) cLbranch.nd rfl rfl (sw_true rfl rfl rfl (by decide +kernel)) (pi_list (pv 5)) (blkOk_by (own := [("_law_name", 4)]) (N := ["_law_plain", "_law_one", "_law_other", "_law_stay", "_law_name", "_law_group", "_law_fresh", "_law_grown", "_law_k"]) (sc := defScope sLbranch) (by decide +kernel)) (fun _ _ _ _ _ => pg_name (i := 4) cLbranch.nd rfl (Or.inl rfl)) (fun _ _ _ _ _ => pts_nil) (fun _ _ _ _ _ => (pe_op op_add_str (pv 2) (pe_slice sl_str (pv 4) (po_some (pe_callB call_len_str (by rfl) m_len (by decide +kernel) (pa_cons (pv 1) pa_nil))) po_none))))
    (pss_cons (ps_if (pt_cmpR op_gt (pe_callB (cr_max (by rfl)) (by rfl) m_max (by decide +kernel) (pa_cons (pe_lc (own := [("_law_name", 4)]) (g := gName 4) (by rfl) cLbranch.nd (pi_list (pv 6)) (blkOk_by (own := [("_law_name", 4)]) (N := ["_law_plain", "_law_one", "_law_other", "_law_stay", "_law_name", "_law_group", "_law_fresh", "_law_grown", "_law_k"]) (sc := defScope sLbranch) (by decide +kernel)) (fun _ _ _ _ _ => pg_name (i := 4) cLbranch.nd rfl (Or.inl rfl)) (fun _ _ _ _ _ => pts_nil) (fun _ _ _ _ _ => (pe_callB call_len_str (by rfl) m_len (by decide +kernel) (pa_cons (pv 4) pa_nil)))) pa_nil)) pe_int (nomark _)) (pss_one (ps_ret (pe_tup (pa_cons pe_str (pa_cons pe_bl (pa_cons (pv 0) pa_nil)))))) pss_nil)
    (pss_cons (ps_set (i := 7) cLbranch.nd rfl (Or.inl rfl) pe_dnewK)
    (pss_cons (ps_lock (ps_for PassesOwn.never rfl (pi_keys (pv 0)) (pg_name (i := 4) cLbranch.nd rfl (Or.inl rfl)) (pss_one (ps_if (PW.pt (pw_or (pt_val (pv 3)) (pw_or1 (pt_cmpR op_ne (pe_slice sl_str (pv 4) po_none (po_some (pe_callB call_len_str (by rfl) m_len (by decide +kernel) (pa_cons (pv 1) pa_nil)))) (pv 1) (nomark _))))) (pss_one (ps_asg (pe_dget (hu1 hr.units) (pv 0) (pv 4) (fun _ _ => rfl)) (pg_sub (pv 7) (pv 4) (set_dict (hu1 hr.units))))) pss_nil))))
    (pss_cons (ps_for PassesOwn.never rfl (pi_list (pv 6)) (pg_name (i := 4) cLbranch.nd rfl (Or.inl rfl)) (pss_one (ps_if (pt_cmpR (op_dIn (hu1 hr.units)) (pv 4) (pv 7) (by rfl)) (pss_one (ps_ret (pe_tup (pa_cons pe_str (pa_cons pe_bl (pa_cons (pv 0) pa_nil)))))) pss_nil)))
    (pss_cons (ps_if (pt_cmpR op_gt (pe_op op_add (pe_callB call_lenD (by rfl) m_len (by decide +kernel) (pa_cons (pv 7) pa_nil)) (pe_callB call_len_seq (by rfl) m_len (by decide +kernel) (pa_cons (pv 6) pa_nil))) pe_int (nomark _)) (pss_one (ps_ret (pe_tup (pa_cons pe_str (pa_cons pe_bl (pa_cons (pv 0) pa_nil)))))) pss_nil)
    (pss_cons (ps_for PassesOwn.never rfl (pi_range1 (by rfl) m_range (pa_cons (pe_callB call_len_seq (by rfl) m_len (by decide +kernel) (pa_cons (pv 5) pa_nil)) pa_nil)) (pg_name (i := 8) cLbranch.nd rfl (Or.inl rfl)) (pss_one (ps_asg (pe_dget (hu1 hr.units) (pv 0) (pe_ix (r := rIxL K) ix_list (pv 5) (pv 8) (fun _ _ => rfl)) (fun _ _ => rfl)) (pg_sub (pv 7) (pe_ix (r := rIxL K) ix_list (pv 6) (pv 8) (fun _ _ => rfl)) (set_dict (hu1 hr.units))))))
    (pss_one (ps_ret (pe_tup (pa_cons pe_str (pa_cons (pe_callB call_len_seq (by rfl) m_len (by decide +kernel) (pa_cons (pv 5) pa_nil)) (pa_cons (pv 7) pa_nil))))))))))))))), ?_⟩
  have e0 : ∀ {A B : Prop} {b : Bool}, (b = true → A) → (b = false → B) → if b = true then A else B := fun {A B b} h1 h2 => by cases b with | true => exact iteT (h1 rfl) | false => exact iteF (h2 rfl)
  obtain ⟨lb, tb⟩ := nm_iff.mp nb
  obtain ⟨lc, tc⟩ := nm_iff.mp nc
  have zb : (st b).length ≤ sizeLine := by rw [st_len]; exact smallZ (by omega)
  have zr : ∀ {r : Row}, r ∈ R → (st r.1).length ≤ sizeLine := fun {r} hr => by rw [st_len]; exact smallZ (by have := (g.2.2 r hr).1; omega)
  have lP : P.length = R.length := pm.length_eq.symm
  have nP : Names P := names_perm pm (upNames up)
  -- the names that begin so
  refine ⟨_, rfl, d, dkv P, P.map (fun r => st r.1), rfl, .inl eP, dkv_keys P, (by rw [List.length_map]; omega), fun p np => ⟨p, rfl, ⟨_, SqL.of upd_same⟩, ?_⟩⟩
  have sp := same_new np (.lst (((P.map fun r => st r.1).mergeSort leS).map V.str))
  have ep : upd H p (.lst (((P.map fun r => st r.1).mergeSort leS).map V.str)) p = some (.lst (((P.map fun r => st r.1).mergeSort leS).map V.str)) := upd_same
  have em : ((P.map fun r => st r.1).mergeSort leS).map V.str = R.map (fun r => V.str (st r.1)) := by rw [sorted_names pm up, List.map_map]; rfl
  generalize upd H p (.lst (((P.map fun r => st r.1).mergeSort leS).map V.str)) = H1 at sp ep
  rw [em] at ep
  refine fun D nD => lc_list (K := K) (xs := R.map (fun r => V.str (st r.1))) (LcP K H1 D (fm R (tk b) (fun r => textD r.1))) (lcp0 nD rfl) (fun _ _ _ h => h.1.seq (SqL.of ep)) (fun j y H2 hy h2 => ?_) (fun H2 h2 => ?_)
  · rw [List.getElem?_map, Option.map_eq_some_iff] at hy
    obtain ⟨r, hr, rfl⟩ := hy
    have hrR := List.mem_of_getElem? hr
    refine ⟨rfl, _, rfl, _, rfl, st b, rfl, zb, _, rfl, st r.1, rfl, zr hrR, _, rfl, rfl, _, rfl, ?_⟩
    rw [st_len, cut_to]
    have ed : decide (V.str (st (r.1.take b.length)) = V.str (st b)) = tk b r := by
      unfold tk
      refine decide_eq_decide.mpr ⟨fun z => st_inj (V.str.inj z), fun z => by rw [z]⟩
    rw [ed]
    refine e0 (fun ht => ⟨_, rfl, ?_⟩) (fun ht => ?_)
    · exact lcp_add h2 nD (Same.refl _) (.str _) (fm_yes hr ht) (fm_nolist fun _ => rfl) rfl (Nat.le_trans fm_len (by omega))
    · exact lcp_skip h2 (Same.refl _) (fm_no hr ht)
  rw [List.length_map] at h2
  obtain ⟨s2, acc, eD, dD⟩ := h2
  rw [fm_all] at dD
  obtain ⟨F, hF⟩ : ∃ F, F = R.filter (tk b) := ⟨_, rfl⟩
  rw [← hF] at dD
  have eG : goneR b R = F.map (dropR b) := by rw [hF]; rfl
  have eFr : freshR b c R = F.map fun r => (c ++ r.1.drop b.length, r.2) := by rw [hF]; exact fresh_eq b c R
  have fR : ∀ r ∈ F, r ∈ R := fun r hr => by rw [hF] at hr; exact (List.mem_filter.mp hr).1
  have fl : F.length ≤ R.length := by rw [hF]; exact List.length_filter_le _ _
  have s02 := sp.trans s2
  have al : acc.length = F.length := by rw [DpAll_len dD, List.length_map]
  refine ⟨_, rfl, (by show 0 ≤ sizeLine; decide), fun l nl => ?_⟩
  have sl := same_new nl (.lst [])
  have el : upd H2 l (.lst []) l = some (.lst []) := upd_same
  have dD0 := DpAll_same sl dD
  have eD0 := sl _ _ eD
  have s03 := s02.trans sl
  generalize upd H2 l (.lst []) = H3 at sl el dD0 eD0 s03
  by_cases hn : F = []
  · rw [hn] at dD0
    exact ⟨.list [], .list [], .lst (SqL.of eD0) dD0, .lst (SqL.of el) .nil, rfl, rfl, _, rfl, iteT ⟨_, rfl, (by show 3 ≤ sizeLine; decide), fun t nt => q (exWord 1) (.bl true) d R t _ (s03.trans (same_new nt _)) upd_same ⟨P, (s03.trans (same_new nt _)) _ _ eP, up, pm⟩ (.inl ⟨by rw [eG, hn]; rfl, rfl, rfl, rfl⟩)⟩⟩
  have nz : goneR b R ≠ [] := by rw [eG]; simpa using hn
  obtain ⟨r0, F', eF⟩ := List.exists_cons_of_ne_nil hn
  have dD1 : DpAll K H3 acc (((r0 :: F').map (fun r : Row => r.1)).map textD) := by
    have := dD0
    rw [eF] at this
    rw [List.map_map]; exact this
  refine ⟨.list (((r0 :: F').map (fun r : Row => r.1)).map textD), .list [], .lst (SqL.of eD0) dD1, .lst (SqL.of el) .nil, texts_shaped fun x hx => ?_, rfl, _, rfl, iteF ?_⟩
  · obtain ⟨r, hr, rfl⟩ := List.mem_map.mp hx
    exact (g.2.2 r (fR r (by rw [eF]; exact hr))).2.1
  clear dD1 el
  -- the names that come
  have zd : ∀ {r : Row}, r ∈ F → (c ++ r.1.drop b.length).length ≤ 80 := fun {r} hr => by
    have := (g.2.2 r (fR r hr)).1
    rw [List.length_append, List.length_drop]; omega
  have getF : ∀ {j : Nat} {y : V}, acc[j]? = some y → ∃ r, F[j]? = some r ∧ y = .str (st r.1) := fun {j y} hy => by
    obtain ⟨r, hr, hx⟩ := DpAll_map dD hy
    exact ⟨r, hr, Dp_str hx⟩
  refine ⟨_, rfl, D, rfl, ⟨_, SqL.of eD0⟩, fun D2 nD2 => lc_list (K := K) (xs := acc) (LcP K H3 D2 (fm F (fun _ => true) (fun r => textD (c ++ r.1.drop b.length)))) (lcp0 nD2 rfl) (fun _ _ _ h => h.1.seq (SqL.of eD0)) (fun j y H4 hy h4 => ?_) (fun H4 h4 => ?_)⟩
  · obtain ⟨r, hr, rfl⟩ := getF hy
    have hrF := List.mem_of_getElem? hr
    have hz := zd hrF
    refine ⟨rfl, yes_if ⟨_, rfl, _, rfl, _, rfl, st b, rfl, zb, _, rfl, st r.1, rfl, zr (fR r hrF), _, _, rfl, rfl, ?_, ?_⟩⟩
    · rw [st_len b, cut_from, st_len, st_len, ← List.length_append]; exact smallZ (by omega)
    · rw [st_len b, cut_from, st_add]
      exact lcp_add h4 nD2 (Same.refl _) (.str _) (fm_yes hr rfl) (fm_nolist fun _ => rfl) rfl (Nat.le_trans fm_len (by omega))
  rw [al] at h4
  obtain ⟨s4, acc2, eD2, dD2⟩ := h4
  rw [fm_all, List.filter_eq_self.mpr fun _ _ => rfl] at dD2
  have al2 : acc2.length = F.length := by rw [DpAll_len dD2, List.length_map]
  have getF2 : ∀ {j : Nat} {y : V}, acc2[j]? = some y → ∃ r, F[j]? = some r ∧ y = .str (st (c ++ r.1.drop b.length)) := fun {j y} hy => by
    obtain ⟨r, hr, hx⟩ := DpAll_map dD2 hy
    exact ⟨r, hr, Dp_str hx⟩
  have s04 := s03.trans s4
  refine ⟨_, rfl, D2, rfl, ⟨_, SqL.of eD2⟩, fun D3 nD3 => lc_list (K := K) (xs := acc2) (LcP K H4 D3 (fm F (fun _ => true) (fun r => PyData.int ((c ++ r.1.drop b.length).length : Nat)))) (lcp0 nD3 rfl) (fun _ _ _ h => h.1.seq (SqL.of eD2)) (fun j y H5 hy h5 => ?_) (fun H5 h5 => ?_)⟩
  · obtain ⟨r, hr, rfl⟩ := getF2 hy
    have hz := zd (List.mem_of_getElem? hr)
    refine ⟨rfl, yes_if ⟨_, rfl, st (c ++ r.1.drop b.length), rfl, (by rw [st_len]; exact smallZ (by omega)), ?_⟩⟩
    rw [st_len]
    exact lcp_add h5 nD3 (Same.refl _) (.int _) (fm_yes hr rfl) (fm_nolist fun _ => rfl) rfl (Nat.le_trans fm_len (by omega))
  rw [al2] at h5
  obtain ⟨s5, acc3, eD3, dD3⟩ := h5
  rw [fm_all, List.filter_eq_self.mpr fun _ _ => rfl] at dD3
  have ea3 := ints_of (g := fun r : Row => (((c ++ r.1.drop b.length).length : Nat) : Int)) dD3
  have s05 := s04.trans s5
  refine ⟨D3, F.map (fun r : Row => (((c ++ r.1.drop b.length).length : Nat) : Int)), rfl, (by rw [← ea3]; exact SqL.of eD3), (by rw [List.length_map, eF]; simp), fun m hm hmax => ⟨_, _, rfl, rfl, _, rfl, ?_⟩⟩
  obtain ⟨rm, hrm, erm⟩ := List.mem_map.mp hm
  by_cases h40 : 40 < m
  · rw [decide_eq_true h40]
    exact iteT ⟨_, rfl, (by show 3 ≤ sizeLine; decide), fun t nt => q (exWord 2) (.bl true) d R t _ (s05.trans (same_new nt _)) upd_same ⟨P, (s05.trans (same_new nt _)) _ _ eP, up, pm⟩ (.inr (.inl ⟨nz, ⟨_, by rw [eFr]; exact List.mem_map.mpr ⟨rm, hrm, rfl⟩, by show 40 < (c ++ rm.1.drop b.length).length; omega⟩, rfl, rfl, rfl⟩))⟩
  rw [decide_eq_false h40]
  refine iteF ?_
  have l40 : ∀ r ∈ freshR b c R, r.1.length ≤ 40 := fun r hr => by
    rw [eFr] at hr
    obtain ⟨r1, h1, rfl⟩ := List.mem_map.mp hr
    have := hmax _ (List.mem_map.mpr ⟨r1, h1, rfl⟩)
    show (c ++ r1.1.drop b.length).length ≤ 40
    omega
  clear hm hmax erm h40 dD3 ea3 eD3
  -- those that stay
  have eacc := strsD_of (g := fun r : Row => r.1) dD
  have eacc2 := strsD_of (g := fun r : Row => c ++ r.1.drop b.length) dD2
  intro gA ngA
  have sg := same_new ngA (.dK [])
  have eg : upd H5 gA (.dK []) gA = some (.dK []) := upd_same
  generalize upd H5 gA (.dK []) = H6 at sg eg
  have eP5 := s05 _ _ eP
  have ngd : gA ≠ d := (ne_of_none eP5 ngA).symm
  obtain ⟨keep, hkeep⟩ : ∃ keep : Row → Bool, keep = fun r => s || !tk b r := ⟨_, rfl⟩
  refine ⟨d, .dK (dkv P), sg _ _ eP5, trivial, fun od => ?_⟩
  refine ⟨_, rfl, d, od, rfl, .inl ⟨dkv P, upd_same, for_it walk_keys (fun i σ H' => ∃ y4, σ = [some (.ref d), some (.str (st b)), some (.str (st c)), some (.bl s), y4, some (.ref D), some (.ref D2), some (.ref gA), none] ∧ H' d = some (.frz od (.dK (dkv P))) ∧ H' gA = some (.dK (dkv ((P.take i).filter keep))) ∧ ∀ z u, z ≠ d → z ≠ gA → H6 z = some u → H' z = some u)
    ⟨none, rfl, upd_same, (by rw [upd_ne ngd]; exact eg), fun z u n1 n2 e => by rw [upd_ne n1]; exact e⟩ (fun i σ H' _ h => by obtain ⟨_, _, h, _⟩ := h; exact h) (fun i x σ Hi H' hi h1 hy => ?_) (fun σ H' h1 => ?_)⟩⟩
  · obtain ⟨y4, rfl, hd, hg, hk⟩ := h1
    obtain ⟨rfl, k, v, hkv, rfl⟩ := hy
    obtain ⟨r, hr, rfl, rfl⟩ := dkv_get hkv
    have hrP := List.mem_of_getElem? hr
    have hrR : r ∈ R := pm.mem_iff.mpr hrP
    have gt : DGet H' d (.str (st r.1)) (some (.int r.2)) := by
      have := get_of (.inr ⟨od, hd⟩) up pm r.1
      rw [lkp_mem (upNames up) hrR] at this
      exact this
    have bnd : (dkv ((P.take i).filter keep)).length < sizeLine := small1000' (by
      rw [dkv_len]
      have := List.length_filter_le keep (P.take i)
      rw [List.length_take] at this; omega)
    have put := dkv_put (m := r.2) (lkp_filter (p := keep) (lkp_take nP hr))
    have yes : keep r = true → ∃ y4, [some (V.ref d), some (.str (st b)), some (.str (st c)), some (.bl s), some (.str (st r.1)), some (.ref D), some (.ref D2), some (.ref gA), none] = [some (V.ref d), some (.str (st b)), some (.str (st c)), some (.bl s), y4, some (.ref D), some (.ref D2), some (.ref gA), none] ∧ (upd H' gA (.dK (putK (dkv ((P.take i).filter keep)) (Sum.inr (st r.1)) (.int r.2)))) d = some (.frz od (.dK (dkv P))) ∧ (upd H' gA (.dK (putK (dkv ((P.take i).filter keep)) (Sum.inr (st r.1)) (.int r.2)))) gA = some (.dK (dkv ((P.take (i + 1)).filter keep))) ∧ ∀ z u, z ≠ d → z ≠ gA → H6 z = some u → (upd H' gA (.dK (putK (dkv ((P.take i).filter keep)) (Sum.inr (st r.1)) (.int r.2)))) z = some u := fun hp =>
      ⟨_, rfl, by rw [upd_ne ngd.symm]; exact hd, by rw [upd_same, put, tkf_yes hr hp], fun z u n1 n2 e => by rw [upd_ne n2]; exact hk z u n1 n2 e⟩
    rcases Bool.eq_false_or_eq_true s with hs | hs
    · exact ⟨_, rfl, _, rfl, ifb1 hs (iteT ⟨_, rfl, _, rfl, d, _, rfl, gt, _, rfl, _, rfl, gA, _, rfl, DPut.k (k := Sum.inr (st r.1)) hg bnd, yes (by rw [hkeep]; show (s || !tk b r) = true; rw [hs]; rfl)⟩)⟩
    · refine ⟨_, rfl, _, rfl, ifb0 hs ⟨_, rfl, _, rfl, st b, rfl, zb, _, rfl, st r.1, rfl, zr hrR, _, rfl, rfl, _, rfl, ?_⟩⟩
      rw [st_len, cut_to]
      have ed : decide (V.str (st (r.1.take b.length)) = V.str (st b)) = tk b r := by
        unfold tk
        refine decide_eq_decide.mpr ⟨fun z => st_inj (V.str.inj z), fun z => by rw [z]⟩
      rw [ed]
      cases ht : tk b r with
      | false => exact iteT ⟨_, rfl, _, rfl, d, _, rfl, gt, _, rfl, _, rfl, gA, _, rfl, DPut.k (k := Sum.inr (st r.1)) hg bnd, yes (by rw [hkeep]; show (s || !tk b r) = true; rw [hs, ht]; rfl)⟩
      | true => exact iteF ⟨_, rfl, hd, (by rw [tkf_no hr (by rw [hkeep]; show (s || !tk b r) = false; rw [hs, ht]; rfl)]; exact hg), hk⟩
  obtain ⟨y4, rfl, hd, hg, hk⟩ := h1
  refine ⟨hd, ?_⟩
  rw [dkv_len, List.take_length] at hg
  obtain ⟨S, hS⟩ : ∃ S, S = stayB s b R := ⟨_, rfl⟩
  have eS : R.filter keep = S := by
    rw [hS, hkeep]
    cases s with
    | true => exact List.filter_eq_self.mpr fun _ _ => rfl
    | false => rfl
  obtain ⟨Pg, hPg⟩ : ∃ Pg, Pg = P.filter keep := ⟨_, rfl⟩
  rw [← hPg] at hg
  have permS : S.Perm Pg := by rw [← eS, hPg]; exact pm.filter keep
  have upS : Up S := by rw [← eS]; exact up.filter keep
  have eP7 : upd H' d (.dK (dkv P)) d = some (.dK (dkv P)) := upd_same
  have eG7 : upd H' d (.dK (dkv P)) gA = some (.dK (dkv Pg)) := by rw [upd_ne ngd]; exact hg
  have s7 : Same H5 (upd H' d (.dK (dkv P))) := fun z u e => by
    by_cases e1 : z = d
    · subst e1
      rw [upd_same, ← e, eP5]
    · rw [upd_ne e1]
      exact hk z u e1 (ne_of_none e ngA) (sg _ _ e)
  generalize upd H' d (.dK (dkv P)) = H7 at eP7 eG7 s7
  have s07 := s05.trans s7
  have eD7 := (s7 _ _ (s5 _ _ (s4 _ _ eD0)))
  have eD27 := (s7 _ _ (s5 _ _ eD2))
  have back : ∀ (W : Str) (t : Addr), H7 t = none → BrOf (stayB s) b c R W (.bl true) R → Q (.ref t) (upd H7 t (.tup [.str W, .bl true, .ref d])) := fun W t nt br =>
    q W (.bl true) d R t _ (s07.trans (same_new nt _)) upd_same ⟨P, (same_new nt _) _ _ eP7, up, pm⟩ br
  -- taken
  refine ⟨_, rfl, D2, rfl, ⟨_, SqL.of eD27⟩, for_list (xs := acc2) (fun i σ H' => H' = H7 ∧ ∃ y4, σ = [some (.ref d), some (.str (st b)), some (.str (st c)), some (.bl s), y4, some (.ref D), some (.ref D2), some (.ref gA), none] ∧ ∀ j r, j < i → F[j]? = some r → lkp S (c ++ r.1.drop b.length) = none)
    ⟨rfl, _, rfl, fun j r hj => absurd hj (by omega)⟩ (fun i σ H' hi h1 => by rw [h1.1]; exact SqL.of eD27) (fun i z σ H' hz h1 => ?_) (fun σ H' h1 => ?_)⟩
  · obtain ⟨rfl, y4, rfl, hno⟩ := h1
    obtain ⟨r, hr, rfl⟩ := getF2 hz
    have gt := get_of (.inl eG7) upS permS (c ++ r.1.drop b.length)
    cases hl : lkp S (c ++ r.1.drop b.length) with
    | some k =>
      rw [hl] at gt
      exact ⟨_, rfl, _, rfl, gA, rfl, .inl ⟨_, gt, _, rfl, iteT ⟨_, rfl, (by show 3 ≤ sizeLine; decide), fun t nt => back (exWord 3) t nt (.inr (.inr (.inl ⟨nz, l40, by rw [← hS]; exact ⟨_, k, r.2, (lkp_iff (upNames upS)).mp hl, by rw [eFr]; exact List.mem_map.mpr ⟨r, List.mem_of_getElem? hr, rfl⟩⟩, rfl, rfl, rfl⟩)))⟩⟩⟩
    | none =>
      rw [hl] at gt
      refine ⟨_, rfl, _, rfl, gA, rfl, .inl ⟨_, gt, _, rfl, iteF ⟨rfl, _, rfl, fun j r' hj hr' => ?_⟩⟩⟩
      rcases Nat.lt_succ_iff_lt_or_eq.mp hj with hj | rfl
      · exact hno j r' hj hr'
      · cases hr.symm.trans hr'
        exact hl
  obtain ⟨rfl, y4', rfl, hno⟩ := h1
  have hno' : ∀ r ∈ F, lkp S (c ++ r.1.drop b.length) = none := fun r hr => by
    obtain ⟨j, hj⟩ := List.getElem?_of_mem hr
    exact hno j r (by rw [al2]; exact (List.getElem?_eq_some_iff.mp hj).1) hj
  have ns : ¬ Share (stayB s b R) (freshR b c R) := by
    rintro ⟨x, m, k, h1, h2⟩
    rw [← hS] at h1
    rw [eFr] at h2
    obtain ⟨r, hr, e⟩ := List.mem_map.mp h2
    have := hno' r hr
    rw [lkp_none] at this
    injection e with e1 e2
    exact this m (by rw [e1]; exact h1)
  have lS : S.length = Pg.length := permS.length_eq
  have lFr : (freshR b c R).length = F.length := by rw [eFr, List.length_map]
  -- too many
  refine ⟨_, rfl, gA, dkv Pg, rfl, eG7, _, rfl, D2, acc2, rfl, .inl (SqL.of eD27), _, _, rfl, rfl, _, _, rfl, rfl, _, rfl, ?_⟩
  by_cases h100 : 100 < (stayB s b R).length + (freshR b c R).length
  · refine ify (by show (100 : Int) < ((dkv Pg).length : Int) + (acc2.length : Int); rw [dkv_len]; rw [← hS] at h100; omega) ?_
    exact ⟨_, rfl, (by show 3 ≤ sizeLine; decide), fun t nt => back (exWord 4) t nt (.inr (.inr (.inr (.inl ⟨nz, l40, ns, h100, rfl, rfl, rfl⟩))))⟩
  refine ifn (by show ¬ (100 : Int) < ((dkv Pg).length : Int) + (acc2.length : Int); rw [dkv_len]; rw [← hS] at h100; omega) ?_
  have upF : Up (freshR b c R) := fresh_up up
  have lPg : Pg.length ≤ P.length := by rw [hPg]; exact List.length_filter_le _ _
  have nPg : Names Pg := names_perm permS (upNames upS)
  have noPg : ∀ r ∈ freshR b c R, lkp Pg r.1 = none := fun r hr => by
    rw [eFr] at hr
    obtain ⟨r1, h1, rfl⟩ := List.mem_map.mp hr
    rw [← lkp_perm permS (upNames upS)]
    exact hno' r1 h1
  refine ⟨_, rfl, D, acc, rfl, .inl (SqL.of eD7), _, rfl, by omega, by omega, for_range (lo := 0) (n := ((acc.length : Nat) : Int).toNat) (fun i σ H'' => ∃ y8, σ = [some (.ref d), some (.str (st b)), some (.str (st c)), some (.bl s), y4', some (.ref D), some (.ref D2), some (.ref gA), y8] ∧ H'' gA = some (.dK (dkv (Pg ++ (freshR b c R).take i))) ∧ ∀ z u, z ≠ gA → H' z = some u → H'' z = some u)
    ⟨none, rfl, (by rw [List.take_zero, List.append_nil]; exact eG7), fun z u _ e => e⟩ (fun i σ Hi hi h1 => ?_) (fun σ Hi h1 => ?_)⟩
  · obtain ⟨y8, rfl, hg', hk'⟩ := h1
    have hiF : i < F.length := by omega
    obtain ⟨r, hr⟩ : ∃ r, F[i]? = some r := ⟨_, List.getElem?_eq_getElem hiF⟩
    have hrF := List.mem_of_getElem? hr
    have hFr : (freshR b c R)[i]? = some (c ++ r.1.drop b.length, r.2) := by rw [eFr, List.getElem?_map, hr]; rfl
    have ez : (0 : Int) + (i : Int) = ((i : Nat) : Int) := by omega
    have nD : D ≠ gA := ne_of_none (s5 _ _ (s4 _ _ eD0)) ngA
    have nD2' : D2 ≠ gA := ne_of_none (s5 _ _ eD2) ngA
    have gt : DGet Hi d (.str (st r.1)) (some (.int r.2)) := by
      have := get_of (.inl (hk' d _ ngd.symm eP7)) up pm r.1
      rw [lkp_mem (upNames up) (fR r hrF)] at this
      exact this
    have put := dkv_put (m := r.2) (P := Pg ++ (freshR b c R).take i) (x := c ++ r.1.drop b.length) (lkp_app.mpr ⟨noPg _ (List.mem_of_getElem? hFr), lkp_take (upNames upF) hFr⟩)
    refine ⟨_, rfl, _, rfl, _, rfl, D, acc, _, _, rfl, rfl, SqL.of (hk' D _ nD eD7), (by rw [ez]; exact atI_nat (by rw [eacc, List.getElem?_map, hr]; rfl)), d, _, rfl, gt, _, rfl, _, rfl, _, rfl, D2, acc2, _, _, rfl, rfl, SqL.of (hk' D2 _ nD2' eD27), (by rw [ez]; exact atI_nat (by rw [eacc2, List.getElem?_map, hr]; rfl)), gA, _, rfl, DPut.k (k := Sum.inr (st (c ++ r.1.drop b.length))) hg' (small1000' (by rw [dkv_len, List.length_append, List.length_take]; omega)), _, rfl, ?_, fun z u n1 e => by rw [upd_ne n1]; exact hk' z u n1 e⟩
    rw [upd_same, put, tk_one hFr, List.append_assoc]
  obtain ⟨y8, rfl, hg', hk'⟩ := h1
  rw [show ((acc.length : Nat) : Int).toNat = (freshR b c R).length by omega, List.take_length] at hg'
  have nD : D ≠ gA := ne_of_none (s5 _ _ (s4 _ _ eD0)) ngA
  obtain ⟨T, pT, upT⟩ := up_sort (names_app nPg (upNames upF) noPg)
  have s5i : Same H5 Hi := fun z u e => hk' z u (ne_of_none e ngA) (s7 _ _ e)
  refine ⟨_, rfl, D, acc, rfl, .inl (SqL.of (hk' D _ nD eD7)), _, rfl, (by show 3 ≤ sizeLine; decide), fun t nt => q toldW (.int ((acc.length : Nat) : Int)) gA T t _ ((s05.trans s5i).trans (same_new nt _)) upd_same ⟨_, (same_new nt _) _ _ hg', upT, pT⟩ (.inr (.inr (.inr (.inr ⟨nz, l40, ns, by omega, rfl, (by rw [eG, List.length_map, al]), upT, fun r => ?_⟩))))⟩
  rw [pT.mem_iff, List.mem_append, ← permS.mem_iff, hS]
theorem ok_Ldue (F : Fun K "_law_due" "_law_due" sLdue f fd)
    (G_Lbranch : Has P w K mg base "_law_branch" pLbranch 3 (spBrD K))
    (G_Lnamed : Has P w K mg base "_law_named" pLnamed 1 (spNamed K)) (m_len : mg "len" = none) :
    FnOk P w K mg base CX0 5 f fd pLdue (spDue K) := by
  refine F.ok cLdue (fun vs H Q E h => ?_) (fun cdv A outer s H vs Q E hr h => ?_)
  · obtain ⟨d, way, n, w', u, t, s, R, rfl, _⟩ := h
    rfl
  obtain ⟨d, way, n, w', u, t, s, R, rfl, ⟨P, eP, up, pm⟩, g, rl, tx, tx2, tw, tu, w0, w5, q⟩ := h
  refine ⟨_, (pss_cons (ps_if (PW.pt (pw_or (pt_not (pt_val (pe_has G_Lnamed hr (by omega) (pa_cons (pv 2) pa_nil)))) (pw_or1 (PW.pt (pw_and (pt_cmpR op_gt (pv 1) pe_int (nomark _)) (pw_and1 (pt_not (pt_val (pe_has G_Lnamed hr (by omega) (pa_cons (pv 3) pa_nil)))))))))) (pss_one (ps_ret (pe_tup (pa_cons pe_str (pa_cons pe_bl (pa_cons (pv 0) pa_nil)))))) pss_nil)
    (pss_cons (ps_if (pt_cmpR op_gt (pv 1) pe_int (nomark _)) (pss_one (ps_ret (pe_has G_Lbranch hr (by omega) (pa_cons (pv 0) (pa_cons (pv 2) (pa_cons (pv 3) (pa_cons (pe_cmpR op_eq (pv 1) pe_int (nomark _)) pa_nil))))))) pss_nil)
    (pss_cons (ps_set (i := 5) cLdue.nd rfl (Or.inl rfl) pe_dnewK)
    (pss_cons (ps_lock (ps_for PassesOwn.never rfl (pi_keys (pv 0)) (pg_name (i := 6) cLdue.nd rfl (Or.inl rfl)) (pss_one (ps_if (PW.pt (pw_or (PW.pt (pw_and (pt_cmpR op_eq (pv 1) pe_int (nomark _)) (pw_and1 (pt_cmpR op_ne (pe_slice sl_str (pv 6) po_none (po_some (pe_callB call_len_str (by rfl) m_len (by decide +kernel) (pa_cons (pv 2) pa_nil)))) (pv 2) (nomark _))))) (pw_or1 (PW.pt (pw_and (pt_cmpR op_lt (pv 1) pe_int (nomark _)) (pw_and1 (pt_cmpR op_ne (pv 6) (pv 2) (nomark _)))))))) (pss_one (ps_asg (pe_dget (hu1 hr.units) (pv 0) (pv 6) (fun _ _ => rfl)) (pg_sub (pv 5) (pv 6) (set_dict (hu1 hr.units))))) pss_nil))))
    (pss_cons (ps_if (PW.pt (pw_and (pt_cmpR op_gt (pv 1) pe_int (nomark _)) (pw_and1 (pt_cmpR op_eq (pe_callB call_lenD (by rfl) m_len (by decide +kernel) (pa_cons (pv 5) pa_nil)) (pe_callB call_lenD (by rfl) m_len (by decide +kernel) (pa_cons (pv 0) pa_nil)) (nomark _))))) (pss_one (ps_ret (pe_tup (pa_cons pe_str (pa_cons pe_bl (pa_cons (pv 0) pa_nil)))))) pss_nil)
    (pss_cons (ps_if (pt_cmpR op_eq (pv 1) pe_int (nomark _)) (pss_one (ps_ret (pe_tup (pa_cons pe_str (pa_cons (pe_op op_sub (pe_callB call_lenD (by rfl) m_len (by decide +kernel) (pa_cons (pv 0) pa_nil)) (pe_callB call_lenD (by rfl) m_len (by decide +kernel) (pa_cons (pv 5) pa_nil))) (pa_cons (pv 5) pa_nil)))))) pss_nil)
    (C8.pss_cut (ps_if (PW.pt (pw_and (pt_cmpR op_eq (pv 1) pe_int (nomark _)) (pw_and (pt_cmpR (op_dNotIn (hu1 hr.units)) (pv 2) (pv 0) (by rfl)) (pw_and1 (pt_cmpR op_eq (pe_callB call_lenD (by rfl) m_len (by decide +kernel) (pa_cons (pv 0) pa_nil)) pe_int (nomark _)))))) (pss_one (ps_ret (pe_tup (pa_cons pe_str (pa_cons pe_bl (pa_cons (pv 0) pa_nil)))))) pss_nil)
    (pss_cons (ps_set (i := 7) cLdue.nd rfl (Or.inl rfl) (pe_dget1 (hu1 hr.units) (pv 0) (pv 2) ⟨rfl, rfl, rfl, rfl⟩))
    (pss_cons (ps_if (pt_cmpR op_eq (pv 1) pe_int (nomark _)) (pss_one (ps_asg (pv 4) (pg_sub (pv 5) (pv 2) (set_dict (hu1 hr.units))))) pss_nil)
    (pss_one (ps_ret (pe_tup (pa_cons pe_str (pa_cons (pv 7) (pa_cons (pv 5) pa_nil))))))))))))))), ?_⟩
  have nP : Names P := names_perm pm (upNames up)
  have lP : P.length = R.length := pm.length_eq.symm
  have back : ∀ {W : Str} {t' : Addr} {H1 : Hp}, Same H H1 → H1 t' = none → DueOf way t s n R W (.bl true) R → Q (.ref t') (upd H1 t' (.tup [.str W, .bl true, .ref d])) := fun {W t' H1} s1 nt du =>
    q W (.bl true) d R t' _ (s1.trans (same_new nt _)) upd_same ⟨P, (s1.trans (same_new nt _)) _ _ eP, up, pm⟩ fun _ => du
  refine ⟨_, rfl, w', t, rfl, tx, tw, ?_⟩
  cases t with
  | none => exact ⟨_, rfl, iteT (iteT ⟨_, rfl, (by show 3 ≤ sizeLine; decide), fun t' nt => back (W := exWord 0) (Same.refl _) nt (.inl ⟨.inl rfl, rfl, rfl, rfl⟩)⟩)⟩
  | some b =>
  obtain ⟨rfl, nb⟩ := tw
  obtain ⟨lb, tb⟩ := nm_iff.mp nb
  have zb : (st b).length ≤ sizeLine := by rw [st_len]; exact smallZ (by omega)
  have zr : ∀ {r : Row}, r ∈ R → (st r.1).length ≤ sizeLine := fun {r} hr => by rw [st_len]; exact smallZ (by have := (g.2.2 r hr).1; omega)
  refine ⟨_, rfl, iteF ?_⟩
  by_cases h2 : 2 < way
  · refine ⟨_, rfl, _, _, rfl, rfl, _, rfl, ify h2 ⟨_, rfl, u, s, rfl, tx2, tu, ?_⟩⟩
    cases s with
    | none => exact ⟨_, rfl, iteT ⟨_, rfl, (by show 3 ≤ sizeLine; decide), fun t' nt => back (W := exWord 0) (Same.refl _) nt (.inl ⟨.inr ⟨h2, rfl⟩, rfl, rfl, rfl⟩)⟩⟩
    | some c =>
      obtain ⟨rfl, nc⟩ := tu
      refine ⟨_, rfl, iteF ⟨_, rfl, _, _, rfl, rfl, _, rfl, ify h2 ⟨_, rfl, _, rfl, _, rfl, _, rfl, rfl, d, b, c, decide (V.int way = V.int 4), R, rfl, ⟨P, eP, up, pm⟩, g, rl, nb, nc, fun W v d' R' t' H' s' e' pd br => q W v d' R' t' H' s' e' pd fun n5 => .inr ⟨b, rfl, ?_⟩⟩⟩⟩
      rcases (show way = 3 ∨ way = 4 by omega) with rfl | rfl
      · exact .inr (.inr (.inr (.inr (.inr (.inr (.inl ⟨rfl, c, rfl, br⟩))))))
      · exact .inr (.inr (.inr (.inr (.inr (.inr (.inr ⟨rfl, c, rfl, br⟩))))))
  refine ⟨_, rfl, _, _, rfl, rfl, _, rfl, ifn h2 (iteF ⟨_, rfl, _, _, rfl, rfl, _, rfl, ifn h2 ?_⟩)⟩
  -- those that stay
  intro gA ngA
  have sg := same_new ngA (.dK [])
  have eg : upd H gA (.dK []) gA = some (.dK []) := upd_same
  generalize upd H gA (.dK []) = H6 at sg eg
  have ngd : gA ≠ d := (ne_of_none eP ngA).symm
  obtain ⟨keep, hkeep⟩ : ∃ keep : Row → Bool, keep = fun r => if way = 2 then !tk b r else !decide (r.1 = b) := ⟨_, rfl⟩
  refine ⟨d, .dK (dkv P), sg _ _ eP, trivial, fun od => ?_⟩
  refine ⟨_, rfl, d, od, rfl, .inl ⟨dkv P, upd_same, for_it walk_keys (fun i σ H' => ∃ y4, σ = [some (.ref d), some (.int way), some (.str (st b)), some u, some (.int n), some (.ref gA), y4, none] ∧ H' d = some (.frz od (.dK (dkv P))) ∧ H' gA = some (.dK (dkv ((P.take i).filter keep))) ∧ ∀ z u, z ≠ d → z ≠ gA → H6 z = some u → H' z = some u)
    ⟨none, rfl, upd_same, (by rw [upd_ne ngd]; exact eg), fun z u n1 n2 e => by rw [upd_ne n1]; exact e⟩ (fun i σ H' _ h => by obtain ⟨_, _, h, _⟩ := h; exact h) (fun i x σ Hi H' hi h1 hy => ?_) (fun σ H' h1 => ?_)⟩⟩
  · obtain ⟨y4, rfl, hd, hg, hk⟩ := h1
    obtain ⟨rfl, k, v, hkv, rfl⟩ := hy
    obtain ⟨r, hr, rfl, rfl⟩ := dkv_get hkv
    have hrP := List.mem_of_getElem? hr
    have hrR : r ∈ R := pm.mem_iff.mpr hrP
    have gt : DGet H' d (.str (st r.1)) (some (.int r.2)) := by
      have := get_of (.inr ⟨od, hd⟩) up pm r.1
      rw [lkp_mem (upNames up) hrR] at this
      exact this
    have bnd : (dkv ((P.take i).filter keep)).length < sizeLine := small1000' (by
      rw [dkv_len]
      have := List.length_filter_le keep (P.take i)
      rw [List.length_take] at this; omega)
    have put := dkv_put (m := r.2) (lkp_filter (p := keep) (lkp_take nP hr))
    have yes : keep r = true → ∃ y4, [some (V.ref d), some (.int way), some (.str (st b)), some u, some (.int n), some (.ref gA), some (.str (st r.1)), none] = [some (V.ref d), some (.int way), some (.str (st b)), some u, some (.int n), some (.ref gA), y4, none] ∧ (upd H' gA (.dK (putK (dkv ((P.take i).filter keep)) (Sum.inr (st r.1)) (.int r.2)))) d = some (.frz od (.dK (dkv P))) ∧ (upd H' gA (.dK (putK (dkv ((P.take i).filter keep)) (Sum.inr (st r.1)) (.int r.2)))) gA = some (.dK (dkv ((P.take (i + 1)).filter keep))) ∧ ∀ z u, z ≠ d → z ≠ gA → H6 z = some u → (upd H' gA (.dK (putK (dkv ((P.take i).filter keep)) (Sum.inr (st r.1)) (.int r.2)))) z = some u := fun hp =>
      ⟨_, rfl, by rw [upd_ne ngd.symm]; exact hd, by rw [upd_same, put, tkf_yes hr hp], fun z u n1 n2 e => by rw [upd_ne n2]; exact hk z u n1 n2 e⟩
    by_cases e2 : way = 2
    · subst e2
      refine ⟨_, rfl, rfl, _, rfl, ify rfl ⟨_, rfl, _, rfl, st b, rfl, zb, _, rfl, st r.1, rfl, zr hrR, _, rfl, rfl, _, rfl, ?_⟩⟩
      rw [st_len, cut_to]
      have ed : decide (V.str (st (r.1.take b.length)) = V.str (st b)) = tk b r := by
        unfold tk
        refine decide_eq_decide.mpr ⟨fun z => st_inj (V.str.inj z), fun z => by rw [z]⟩
      rw [ed]
      cases ht : tk b r with
      | false => exact iteT (iteT ⟨_, rfl, _, rfl, d, _, rfl, gt, _, rfl, _, rfl, gA, _, rfl, DPut.k (k := Sum.inr (st r.1)) hg bnd, yes (by rw [hkeep]; show (!tk b r) = true; rw [ht]; rfl)⟩)
      | true => exact iteF ⟨_, rfl, _, _, rfl, rfl, _, rfl, ifn (by decide) (iteF ⟨_, rfl, hd, (by rw [tkf_no hr (by rw [hkeep]; show (!tk b r) = false; rw [ht]; rfl)]; exact hg), hk⟩)⟩
    · have kp : keep r = !decide (r.1 = b) := by rw [hkeep]; show (if way = 2 then _ else _) = _; rw [if_neg e2]
      refine ⟨_, rfl, rfl, _, rfl, ifn (fun z => e2 (V.int.inj z)) (iteF ⟨_, rfl, _, _, rfl, rfl, _, rfl, ify (by show way < 2; omega) ⟨_, rfl, _, rfl, rfl, _, rfl, ?_⟩⟩)⟩
      have ed : decide (V.str (st r.1) = V.str (st b)) = decide (r.1 = b) := decide_eq_decide.mpr ⟨fun z => st_inj (V.str.inj z), fun z => by rw [z]⟩
      cases ht : decide (r.1 = b) with
      | false => exact ifb1 (b := !decide (V.str (st r.1) = V.str (st b))) (by rw [ed, ht]; rfl) ⟨_, rfl, _, rfl, d, _, rfl, gt, _, rfl, _, rfl, gA, _, rfl, DPut.k (k := Sum.inr (st r.1)) hg bnd, yes (by rw [kp, ht]; rfl)⟩
      | true => exact ifb0 (b := !decide (V.str (st r.1) = V.str (st b))) (by rw [ed, ht]; rfl) ⟨_, rfl, hd, (by rw [tkf_no hr (by rw [kp, ht]; rfl)]; exact hg), hk⟩
  obtain ⟨y4, rfl, hd, hg, hk⟩ := h1
  refine ⟨hd, ?_⟩
  rw [dkv_len, List.take_length] at hg
  obtain ⟨S, hS⟩ : ∃ S, S = R.filter keep := ⟨_, rfl⟩
  obtain ⟨Pg, hPg⟩ : ∃ Pg, Pg = P.filter keep := ⟨_, rfl⟩
  rw [← hPg] at hg
  have permS : S.Perm Pg := by rw [hS, hPg]; exact pm.filter keep
  have upS : Up S := by rw [hS]; exact up.filter keep
  have eP7 : upd H' d (.dK (dkv P)) d = some (.dK (dkv P)) := upd_same
  have eG7 : upd H' d (.dK (dkv P)) gA = some (.dK (dkv Pg)) := by rw [upd_ne ngd]; exact hg
  have s7 : Same H (upd H' d (.dK (dkv P))) := fun z u e => by
    by_cases e1 : z = d
    · subst e1
      rw [upd_same, ← e, eP]
    · rw [upd_ne e1]
      exact hk z u e1 (ne_of_none e ngA) (sg _ _ e)
  generalize upd H' d (.dK (dkv P)) = H7 at eP7 eG7 s7
  have lS : Pg.length = S.length := permS.length_eq.symm
  have ed : decide (V.int ((dkv Pg).length : Nat) = V.int ((dkv P).length : Nat)) = decide (S.length = R.length) := decide_eq_decide.mpr ⟨fun z => by have := V.int.inj z; rw [dkv_len, dkv_len] at this; omega, fun z => by rw [dkv_len, dkv_len, lS, lP, z]⟩
  rcases (show way = 0 ∨ way = 1 ∨ way = 2 by omega) with rfl | rfl | rfl
  · have hS' : S = R.filter fun r => !decide (r.1 = b) := by rw [hS, hkeep]; rfl
    refine ⟨_, rfl, _, _, rfl, rfl, _, rfl, ifn (by decide) (iteF ⟨_, rfl, rfl, _, rfl, ifn (by decide) ?_⟩)⟩
    have gt := get_of (.inl eP7) up pm b
    refine ⟨fun σ' H' => σ' = [some (.ref d), some (.int 0), some (.str (st b)), some u, some (.int n), some (.ref gA), y4, none] ∧ H' = H7 ∧ (lkp R b = none → R.length ≠ 100), ?_, ?_⟩
    · cases hl : lkp R b with
      | none =>
        rw [hl] at gt
        refine ⟨_, rfl, rfl, _, rfl, ify rfl ⟨_, rfl, _, rfl, d, rfl, .inl ⟨_, gt, _, rfl, iteT ⟨_, rfl, d, dkv P, rfl, eP7, rfl, _, rfl, ?_⟩⟩⟩⟩
        by_cases h100 : R.length = 100
        · exact ify (by rw [dkv_len, lP, h100]; rfl) ⟨_, rfl, (by show 3 ≤ sizeLine; decide), fun t' nt => back (W := exWord 4) s7 nt (.inr ⟨b, rfl, .inl ⟨rfl, hl, h100, rfl, rfl, rfl⟩⟩)⟩
        · exact ifn (by rw [dkv_len, lP]; intro z; have := V.int.inj z; omega) ⟨rfl, rfl, fun _ => h100⟩
      | some k =>
        rw [hl] at gt
        exact ⟨_, rfl, rfl, _, rfl, ify rfl ⟨_, rfl, _, rfl, d, rfl, .inl ⟨_, gt, _, rfl, iteF (iteF ⟨rfl, rfl, fun z => by cases z⟩)⟩⟩⟩
    rintro σ' H8 ⟨rfl, rfl, hb⟩
    have noS : lkp S b = none := by
      rw [lkp_none, hS']
      intro m hm
      have := (List.mem_filter.mp hm).2
      simp at this
    have noP : lkp Pg b = none := by rw [← lkp_perm permS (upNames upS)]; exact noS
    have lPg : Pg.length ≤ P.length := by rw [hPg]; exact List.length_filter_le _ _
    refine ⟨_, rfl, d, rfl, .inl ⟨_, .inl eP7⟩, _, rfl, _, gt, ?_⟩
    refine ⟨_, rfl, rfl, _, rfl, ify rfl ⟨_, rfl, _, rfl, _, rfl, gA, _, rfl, DPut.k (k := Sum.inr (st b)) eG7 (small1000' (by rw [dkv_len]; omega)), ?_⟩⟩
    have ep := dkv_put (m := n) noP
    rw [ep]
    obtain ⟨T, pT, upT⟩ := up_sort (names_app (names_perm permS (upNames upS)) (B := [(b, n)]) (by unfold Names; simp) fun r hr => by rw [List.mem_singleton.mp hr]; exact noP)
    have s8 : Same H (upd H8 gA (.dK (dkv (Pg ++ [(b, n)])))) := fun z u e => by rw [upd_ne (ne_of_none e ngA)]; exact s7 _ _ e
    refine ⟨_, rfl, _, rfl, (by show 3 ≤ sizeLine; decide), fun t' nt => q toldW _ gA T t' _ (s8.trans (same_new nt _)) upd_same ⟨_, (same_new nt _) _ _ upd_same, upT, pT⟩ fun _ => .inr ⟨b, rfl, .inr (.inl ⟨rfl, hb, rfl, ?_, upT, fun y m => ?_⟩)⟩⟩
    · cases lkp R b <;> rfl
    · rw [pT.mem_iff, List.mem_append, ← permS.mem_iff, hS', List.mem_filter, List.mem_singleton, Prod.mk.injEq]
      simp
  · have hS' : S = R.filter fun r => !decide (r.1 = b) := by rw [hS, hkeep]; rfl
    refine ⟨_, rfl, _, _, rfl, rfl, _, rfl, ify (by decide) ⟨_, rfl, gA, _, rfl, eG7, _, rfl, d, _, rfl, eP7, rfl, _, rfl, ?_⟩⟩
    have gt := get_of (.inl eP7) up pm b
    cases hl : lkp R b with
    | none =>
      have all : S.length = R.length := by
        rw [hS']
        refine List.length_filter_eq_length_iff.mpr fun r hr => ?_
        rw [lkp_none] at hl
        have : r.1 ≠ b := fun e => hl r.2 (by rw [← e]; exact hr)
        simpa using this
      refine ifb1 (by rw [ed]; exact decide_eq_true all) ?_
      exact ⟨_, rfl, (by show 3 ≤ sizeLine; decide), fun t' nt => back (W := exWord 1) s7 nt (.inr ⟨b, rfl, .inr (.inr (.inl ⟨rfl, hl, rfl, rfl, rfl⟩))⟩)⟩
    | some k =>
      have nall : S.length ≠ R.length := fun e => by
        rw [hS'] at e
        have := List.length_filter_eq_length_iff.mp e _ ((lkp_iff (upNames up)).mp hl)
        simp at this
      rw [hl] at gt
      refine ifb0 (by rw [ed]; exact decide_eq_false nall) ⟨_, rfl, rfl, _, rfl, ifn (by decide) ?_⟩
      refine ⟨fun σ' H' => σ' = [some (.ref d), some (.int 1), some (.str (st b)), some u, some (.int n), some (.ref gA), y4, none] ∧ H' = H7, ⟨_, rfl, rfl, _, rfl, ifn (by decide) (iteF ⟨rfl, rfl⟩)⟩, ?_⟩
      rintro σ' H8 ⟨rfl, rfl⟩
      refine ⟨_, rfl, d, rfl, .inl ⟨_, .inl eP7⟩, _, rfl, _, gt, ?_⟩
      exact ⟨_, rfl, rfl, _, rfl, ifn (by decide) ⟨_, rfl, _, rfl, (by show 3 ≤ sizeLine; decide), fun t' nt => q toldW _ gA S t' _ (s7.trans (same_new nt _)) upd_same ⟨_, (same_new nt _) _ _ eG7, upS, permS⟩ fun _ => .inr ⟨b, rfl, .inr (.inr (.inr (.inl ⟨rfl, k, hl, rfl, rfl, hS'⟩)))⟩⟩⟩
  · have hS' : S = stayR b R := by rw [hS, hkeep]; rfl
    refine ⟨_, rfl, _, _, rfl, rfl, _, rfl, ify (by decide) ⟨_, rfl, gA, _, rfl, eG7, _, rfl, d, _, rfl, eP7, rfl, _, rfl, ?_⟩⟩
    have sgl := stay_gone b R
    rw [← hS'] at sgl
    by_cases hz : goneR b R = []
    · refine ifb1 (by rw [ed]; refine decide_eq_true ?_; rw [hz] at sgl; simpa using sgl) ?_
      exact ⟨_, rfl, (by show 3 ≤ sizeLine; decide), fun t' nt => back (W := exWord 1) s7 nt (.inr ⟨b, rfl, .inr (.inr (.inr (.inr (.inl ⟨rfl, hz, rfl, rfl, rfl⟩))))⟩)⟩
    · have pos : 0 < (goneR b R).length := List.length_pos_iff.mpr hz
      refine ifb0 (by rw [ed]; exact decide_eq_false (by omega)) ⟨_, rfl, rfl, _, rfl, ify rfl ?_⟩
      exact ⟨_, rfl, d, _, rfl, eP7, _, rfl, gA, _, rfl, eG7, _, _, rfl, rfl, _, rfl, (by show 3 ≤ sizeLine; decide), fun t' nt => q toldW _ gA S t' _ (s7.trans (same_new nt _)) upd_same ⟨_, (same_new nt _) _ _ eG7, upS, permS⟩ fun _ => .inr ⟨b, rfl, .inr (.inr (.inr (.inr (.inr (.inl ⟨rfl, hz, rfl, congrArg V.int (by rw [dkv_len, dkv_len]; omega), hS'⟩)))))⟩⟩
theorem ok_Lbegun {CTrail fT_keep fT_graft CNoName CNotThere CTooLong CTaken CTooMany : Addr} {fdT_keep fdT_graft : FuncData} (F : Fun K "_law_begun" "_law_begun" sLbegun f fd) (TTr : TrTxt K mg CTrail fT_init) (G_T_keep : FnOk P w K mg base (L2.CX P w) 100 fT_keep fdT_keep pT_keep (spKeep K CTrail CNoName CTooMany)) (b_T_keep : Binds K fdT_keep pT_keep []) (M_T_keep : Meth K CTrail "keep" fT_keep)
    (G_T_graft : FnOk P w K mg base (L2.CX P w) 120 fT_graft fdT_graft pT_graft (spMove K CTrail CNoName CNotThere CTooLong CTaken (fun _ R => R) (some CTooMany))) (b_T_graft : Binds K fdT_graft pT_graft []) (M_T_graft : Meth K CTrail "graft" fT_graft)
    (m_range : mg "range" = none) (m_dict : mg "dict" = none) (m_len : mg "len" = none) (m_list : mg "list" = none) (m_int : mg "int" = none) (m_str : mg "str" = none) : FnOk P w K mg base CX0 130 f fd pLbegun (spBegun K CTrail) := by
  refine F.ok cLbegun (fun vs H Q E h => ?_) (fun cdv A outer s H vs Q E hr h => ?_)
  · obtain ⟨x, dx, l, pa, way, more, wd, rfl, _⟩ := h
    rfl
  obtain ⟨x, dx, l, pa, way, more, wd, rfl, tr, hpa, nlp, mo0, mo3, wl, wt, q⟩ := h
  refine ⟨_, (pss_cons (ps_set (i := 5) cLbegun.nd rfl (Or.inl rfl) pe_dnewK)
    (pss_cons (ps_set (i := 6) cLbegun.nd rfl (Or.inl rfl) (pe_lst pa_nil))
    (C8.pss_cut (ps_if (pt_cmpR op_eq (pv 2) pe_int (nomark _)) (pss_one (ps_setLc (i := 6) (own := [("_law_k", 7)]) (g := gName 7) (by rfl) cLbegun.nd rfl rfl (sw_true rfl rfl rfl (by decide +kernel)) (pi_range1 (by rfl) m_range (pa_cons pe_int pa_nil)) (blkOk_by (own := [("_law_k", 7)]) (N := ["_law_trail", "_law_past", "_law_way", "_law_word", "_law_more", "_law_plain", "_law_texts", "_law_k", "_law_text", "_law_sign", "_law_name"]) (sc := defScope sLbegun) (by decide +kernel)) (fun _ _ _ _ _ => pg_name (i := 7) cLbegun.nd rfl (Or.inl rfl)) (fun _ _ _ _ _ => pts_nil) (fun _ _ _ _ _ => (pe_callTy call_str_int (by rfl) m_str (by decide +kernel) (pa_cons (pv 7) pa_nil))))) pss_nil)
    (C8.pss_cut (ps_if (pt_cmpR op_eq (pv 2) pe_int (nomark _)) (pss_one (ps_setLc (i := 6) (own := [("_law_k", 7)]) (g := gName 7) (by rfl) cLbegun.nd rfl rfl (sw_true rfl rfl rfl (by decide +kernel)) (pi_range1 (by rfl) m_range (pa_cons pe_int pa_nil)) (blkOk_by (own := [("_law_k", 7)]) (N := ["_law_trail", "_law_past", "_law_way", "_law_word", "_law_more", "_law_plain", "_law_texts", "_law_k", "_law_text", "_law_sign", "_law_name"]) (sc := defScope sLbegun) (by decide +kernel)) (fun _ _ _ _ _ => pg_name (i := 7) cLbegun.nd rfl (Or.inl rfl)) (fun _ _ _ _ _ => pts_nil) (fun _ _ _ _ _ => (pe_slice sl_str (pv 3) po_none (po_some (pe_op op_mul pe_int (pv 7))))))) pss_nil)
    (C8.pss_cut (ps_if (pt_cmpR op_eq (pv 2) pe_int (nomark _)) (pss_one (ps_set (i := 6) cLbegun.nd rfl (Or.inl rfl) (pe_lst (pa_cons pe_str (pa_cons (pe_op op_add_str pe_str (pe_slice sl_str (pv 3) po_none (po_some pe_int))) (pa_cons pe_str pa_nil)))))) pss_nil)
    (pss_cons (ps_for PassesOwn.never rfl (pi_list (pv 6)) (pg_name (i := 8) cLbegun.nd rfl (Or.inl rfl)) (pss_cons (ps_expr (pe_bm PySem.F.plainAttrs_list PySem.F.slot_list_append PySem.F.type_list_append mt_append (pv 1) (pa_cons (pe_callTy call_dictD (by rfl) m_dict (by decide +kernel) (pa_cons (pv 5) pa_nil)) pa_nil)))
    (pss_cons (ps_expr (pe_meth (E := E0) (pv 0) TTr.cl M_T_keep G_T_keep (hr.mono (by omega)) b_T_keep .nil passL (pa_cons (pv 8) (pa_cons (pe_callB call_lenD (by rfl) m_len (by decide +kernel) (pa_cons (pv 5) pa_nil)) pa_nil))))
    (pss_one (ps_asg (pe_callB call_lenD (by rfl) m_len (by decide +kernel) (pa_cons (pv 5) pa_nil)) (pg_sub (pv 5) (pv 8) (set_dict (hu1 hr.units))))))))
    (C8.pss_cut (ps_if (pt_cmpR op_eq (pv 2) pe_int (nomark _)) (pss_one (ps_for PassesOwn.never rfl (pi_list (pe_lst (pa_cons pe_str (pa_cons pe_str (pa_cons pe_str pa_nil))))) (pg_name (i := 9) cLbegun.nd rfl (Or.inl rfl)) (pss_cons (ps_expr (pe_bm PySem.F.plainAttrs_list PySem.F.slot_list_append PySem.F.type_list_append mt_append (pv 1) (pa_cons (pe_callTy call_dictD (by rfl) m_dict (by decide +kernel) (pa_cons (pv 5) pa_nil)) pa_nil)))
    (pss_cons (ps_expr (pe_meth (E := E0) (pv 0) TTr.cl M_T_graft G_T_graft (hr.mono (by omega)) b_T_graft .nil passL (pa_cons pe_str (pa_cons (pv 9) pa_nil))))
    (pss_one (ps_for PassesOwn.never rfl (pi_list (pe_callTy (call_list_dK (by rfl)) (by rfl) m_list (by decide +kernel) (pa_cons (pv 5) pa_nil))) (pg_name (i := 10) cLbegun.nd rfl (Or.inl rfl)) (pss_one (ps_asg (pe_dget (hu1 hr.units) (pv 5) (pv 10) (fun _ _ => rfl)) (pg_sub (pv 5) (pe_op op_add_str (pv 9) (pv 10)) (set_dict (hu1 hr.units))))))))))) pss_nil)
    (pss_cons (ps_for PassesOwn.never rfl (pi_range1 (by rfl) m_range (pa_cons (pe_ix (r := rIxL K) ix_list (pe_lst (pa_cons pe_int (pa_cons (pv 4) pa_nil))) (pe_callTy call_int1 (by rfl) m_int (by decide +kernel) (pa_cons (pe_cmpR op_eq (pv 2) pe_int (nomark _)) pa_nil)) (fun _ _ => rfl)) pa_nil)) (pg_name (i := 7) cLbegun.nd rfl (Or.inl rfl)) (pss_cons (ps_expr (pe_bm PySem.F.plainAttrs_list PySem.F.slot_list_append PySem.F.type_list_append mt_append (pv 1) (pa_cons (pe_callTy call_dictD (by rfl) m_dict (by decide +kernel) (pa_cons (pv 5) pa_nil)) pa_nil)))
    (pss_cons (ps_expr (pe_meth (E := E0) (pv 0) TTr.cl M_T_keep G_T_keep (hr.mono (by omega)) b_T_keep .nil passL (pa_cons (pe_op op_add_str pe_str (pe_callTy call_str_int (by rfl) m_str (by decide +kernel) (pa_cons (pv 7) pa_nil))) (pa_cons (pv 7) pa_nil))))
    (pss_one (ps_asg (pv 7) (pg_sub (pv 5) (pe_op op_add_str pe_str (pe_callTy call_str_int (by rfl) m_str (by decide +kernel) (pa_cons (pv 7) pa_nil))) (set_dict (hu1 hr.units))))))))
    (pss_one (ps_ret (pv 5))))))))))), ?_⟩
  intro pd npd
  have sd := same_new npd (.dK [])
  have ed : upd H pd (.dK []) pd = some (.dK (dkv [])) := upd_same
  generalize upd H pd (.dK []) = H1 at sd ed
  refine ⟨(by show 0 ≤ sizeLine; decide), fun tA0 nt0 => ?_⟩
  have st0 := same_new nt0 (.lst [])
  have et0 : upd H1 tA0 (.lst []) tA0 = some (.lst []) := upd_same
  generalize upd H1 tA0 (.lst []) = H2 at st0 et0
  obtain ⟨Mid, hMid⟩ : ∃ Mid : L2.St → Hp → Prop, Mid = fun σ' H' => ∃ (ts : List (List Nat)) (tA : Addr), σ' = [some (V.ref x), some (V.ref pa), some (V.int way), some (V.str (st wd)), some (V.int more), some (V.ref pd), some (V.ref tA), none, none, none, none] ∧ Same H1 H' ∧ H' tA = some (.lst (ts.map fun t => V.str (st t))) ∧ H1 tA = none ∧ Tex ts ∧ (way = 1 → ts = nms 0) := ⟨_, rfl⟩
  have mk : ∀ {ts : List (List Nat)} {tA : Addr} {H' : Hp}, Same H1 H' → H' tA = some (.lst (ts.map fun t => V.str (st t))) → H1 tA = none → Tex ts → (way = 1 → ts = nms 0) → Mid [some (V.ref x), some (V.ref pa), some (V.int way), some (V.str (st wd)), some (V.int more), some (V.ref pd), some (V.ref tA), none, none, none, none] H' := fun a b c d e => by rw [hMid]; exact ⟨_, _, rfl, a, b, c, d, e⟩
  have zw : (st wd).length ≤ sizeLine := by rw [st_len]; exact smallZ (by omega)
  -- digits
  refine ⟨Mid, ?_, ?_⟩
  · by_cases h1 : way = 1
    · refine ⟨_, rfl, rfl, _, rfl, ify (by rw [h1]) ⟨12, rfl, by decide, by decide, fun D nD => lc_it (walk_range (lo := 0) (n := (12 : Int).toNat)) (fun i H' => LcP K H2 D (fm (List.range 12) (fun _ => true) (fun j => textD (digs j))) i H') (lcp0 nD rfl) (fun _ _ _ _ => trivial) (fun i y H3 H4 hi h3 hy => ?_) (fun H3 h3 => ?_)⟩⟩
      · obtain ⟨rfl, rfl⟩ := hy
        have hi' : i < 12 := hi
        have hr' : (List.range 12)[i]? = some i := by rw [List.getElem?_range hi']
        have lg : ∀ j : Nat, j < 12 → ((0 : Int) + (j : Int)).natAbs.log2 < 1920 := by decide +kernel
        refine ⟨rfl, yes_if ⟨_, rfl, _, rfl, lg i hi', ?_⟩⟩
        rw [show (Str.ofString (toString ((0 : Int) + (i : Int)))) = st (digs i) from str_digs i hi']
        exact lcp_add h3 nD (Same.refl _) (.str _) (fm_yes hr' rfl) (fm_nolist fun _ => rfl) rfl (Nat.le_trans fm_len (by simp))
      · obtain ⟨s3, acc, eD, dD⟩ := h3
        rw [show (12 : Int).toNat = (List.range 12).length from rfl, fm_all, List.filter_eq_self.mpr fun _ _ => rfl] at dD
        have ea := strsD_of (g := digs) dD
        refine mk (ts := nms 0) (st0.trans s3) ?_ (st0.free nD) tex_digs fun _ => rfl
        rw [eD, ea]
        show _ = some (HO.lst (((List.range 12).map digs).map fun t => V.str (st t)))
        rw [List.map_map]; rfl
    · exact ⟨_, rfl, rfl, _, rfl, ifn (fun z => h1 (V.int.inj z)) (mk (ts := []) st0 et0 nt0 tex_nil fun z => absurd z h1)⟩
  intro σ1 H3 hm
  rw [hMid] at hm
  obtain ⟨ts, tA, rfl, s3, eA, nA, tex, tw⟩ := hm
  -- cuts
  refine ⟨Mid, ?_, ?_⟩
  · by_cases h2 : way = 2
    · refine ⟨_, rfl, rfl, _, rfl, ify (by rw [h2]) ⟨12, rfl, by decide, by decide, fun D nD => lc_it (walk_range (lo := 0) (n := (12 : Int).toNat)) (fun i H' => LcP K H3 D (fm (List.range 12) (fun _ => true) (fun k => textD (wd.take (3 * k)))) i H') (lcp0 nD rfl) (fun _ _ _ _ => trivial) (fun i y H4 H5 hi h3 hy => ?_) (fun H4 h3 => ?_)⟩⟩
      · obtain ⟨rfl, rfl⟩ := hy
        have hi' : i < 12 := hi
        have hr' : (List.range 12)[i]? = some i := by rw [List.getElem?_range hi']
        refine ⟨rfl, yes_if ⟨_, rfl, _, rfl, _, _, rfl, rfl, .inl ⟨by decide, by omega⟩, _, rfl, _, rfl, zw, ?_⟩⟩
        rw [show (3 : Int) * (0 + (i : Int)) = ((3 * i : Nat) : Int) by omega, cut_to]
        exact lcp_add h3 nD (Same.refl _) (.str _) (fm_yes hr' rfl) (fm_nolist fun _ => rfl) rfl (Nat.le_trans fm_len (by simp))
      · obtain ⟨s4, acc, eD, dD⟩ := h3
        rw [show (12 : Int).toNat = (List.range 12).length from rfl, fm_all, List.filter_eq_self.mpr fun _ _ => rfl] at dD
        have ea := strsD_of (g := fun k => wd.take (3 * k)) dD
        refine mk (ts := (List.range 12).map fun k => wd.take (3 * k)) (s3.trans s4) ?_ (s3.free nD) (tex_cuts wl wt) fun z => absurd (h2.symm.trans z) (by decide)
        rw [eD, ea, List.map_map]; rfl
    · exact ⟨_, rfl, rfl, _, rfl, ifn (fun z => h2 (V.int.inj z)) (mk s3 eA nA tex tw)⟩
  clear s3 eA nA tex tw
  intro σ1 H4 hm
  rw [hMid] at hm
  obtain ⟨ts, tA, rfl, s3, eA, nA, tex, tw⟩ := hm
  -- three
  refine ⟨Mid, ?_, ?_⟩
  · by_cases h2 : way = 3
    · refine ⟨_, rfl, rfl, _, rfl, ify (by rw [h2]) ⟨_, rfl, 39, rfl, _, rfl, zw, _, _, rfl, rfl, ?_, (by show 3 ≤ sizeLine; decide), fun l2 nl2 => ?_⟩⟩
      · rw [show cutS (st wd) none (some 39) = st (wd.take 39) from cut_to _ 39]
        show (st [112]).length + _ ≤ _
        rw [st_len, st_len, List.length_take]
        exact smallZ (by simp; omega)
      · refine mk (ts := [[112], 112 :: wd.take 39, [113, 113]]) (s3.trans (same_new nl2 _)) ?_ (s3.free nl2) (tex_three wl wt) fun z => absurd (h2.symm.trans z) (by decide)
        rw [upd_same, show cutS (st wd) none (some 39) = st (wd.take 39) from cut_to _ 39]
        show some (HO.lst [V.str (st [112]), V.str (st [112] ++ st (wd.take 39)), V.str (st [113, 113])]) = _
        rw [st_add]; rfl
    · exact ⟨_, rfl, rfl, _, rfl, ifn (fun z => h2 (V.int.inj z)) (mk s3 eA nA tex tw)⟩
  clear s3 eA nA tex tw
  intro σ1 H5 hm
  rw [hMid] at hm
  obtain ⟨ts, tA, rfl, s3, eA, nA, tex, tw⟩ := hm
  clear mk hMid Mid
  have bg0 : Bg0 K CTrail x dx l pa pd H5 H5 none [] [] [] := ⟨fun _ _ _ e => e, tr.same (sd.trans s3), gt_none, (fun p hp => by cases hp), s3 _ _ (sd _ _ hpa), .nil, s3 _ _ ed⟩
  obtain ⟨vx, accx, hx1, hl1, _⟩ := id (tr.same sd)
  have nx : tA ≠ x := (ne_of_none hx1 nA).symm
  have nl : tA ≠ l := (ne_of_none hl1 nA).symm
  have na : tA ≠ pa := (ne_of_none (sd _ _ hpa) nA).symm
  have ndd : tA ≠ pd := (ne_of_none ed nA).symm
  have nM : tA ∉ [x, l, pa, pd] := by simp [nx, nl, na, ndd]
  clear hx1 hl1
  -- the texts kept
  refine ⟨_, rfl, tA, rfl, ⟨_, SqL.of eA⟩, for_list (xs := ts.map fun t => V.str (st t)) (fun i σ H' => ∃ (o : Option Tr) (ps : List (Option Tr)) (us : List V) (P : List Row) (y8 : Option V), σ = [some (.ref x), some (.ref pa), some (.int way), some (.str (st wd)), some (.int more), some (.ref pd), some (.ref tA), none, y8, none, none] ∧ Bg0 K CTrail x dx l pa pd H5 H' o ps us P ∧ (rO o).Perm P ∧ P.map (·.1) = ts.take i ∧ ps.length = i)
    ⟨none, [], [], [], none, rfl, bg0, .nil, rfl, rfl⟩ (fun i σ H' hi h1 => ?_) (fun i z σ Hi hz h1 => ?_) (fun σ H' h1 => ?_)⟩
  · obtain ⟨_, _, _, _, _, _, bg, _⟩ := h1
    exact SqL.of (bg.1 _ _ nM eA)
  · obtain ⟨o, ps, us, P, y8, rfl, bg, pm, en, pl⟩ := h1
    rw [List.getElem?_map, Option.map_eq_some_iff] at hz
    obtain ⟨t, ht, rfl⟩ := hz
    have hi : i < ts.length := (List.getElem?_eq_some_iff.mp ht).1
    have t12 := tex.2.1
    have nt := tex.2.2 t (List.mem_of_getElem? ht)
    have newP : lkp P t = none := lkp_nm (by
      rw [en]
      exact take_new tex.1 ht)
    have lP : P.length = i := by
      have := congrArg List.length en
      rw [List.length_map, List.length_take] at this; omega
    have up := bg.2.2.1.2.1.1
    have nR : lkp (rO o) t = none := by rw [lkp_perm pm (upNames up)]; exact newP
    refine ⟨_, rfl, .inl ⟨rfl, _, SqL.of bg.2.2.2.2.1⟩, _, rfl, pd, dkv P, rfl, .inl bg.2.2.2.2.2.2, fun q' nq => ?_⟩
    obtain ⟨hp1, tr2, hd2, stp⟩ := bg.step pm nlp nq
    refine ⟨pa, us, .ref q', rfl, rfl, hp1, small1000' (by rw [bg.2.2.2.2.2.1.len]; omega), ?_⟩
    generalize upd (upd Hi q' (.dK (dkv P))) pa (.lst (us ++ [.ref q'])) = H6 at tr2 hd2 stp
    obtain ⟨v1, c1, e1, _⟩ := id tr2
    have gt := bg.2.2.1
    refine ⟨_, rfl, x, dx, _, rfl, e1, rfl, _, rfl, _, rfl, pd, dkv P, rfl, hd2, x, dx, l, o, ps, _, ((dkv P).length : Nat), some t, rfl, tr2, gt, by omega, ?_, ⟨rfl, nt⟩, (fun e => by cases e), fun b eb => ⟨fun S hS big H' s' => ?_, fun o' H7 g' hp f tr7 => ?_⟩⟩
    · rw [dkv_len]; omega
    · cases eb
      exfalso
      have l1 := put_len_new up nR hS
      have l2 := pm.length_eq
      omega
    · cases eb
      have bg7 := stp o' H7 f tr7 g'
      have hd7 := bg7.2.2.2.2.2.2
      refine ⟨_, rfl, pd, dkv P, rfl, hd7, _, rfl, _, rfl, pd, _, rfl, DPut.k (k := Sum.inr (st t)) hd7 (small1000' (by rw [dkv_len]; omega)), ?_⟩
      rw [dkv_put newP]
      refine ⟨o', _, _, _, _, rfl, bg7.put, ?_, ?_, ?_⟩
      · have := put_perm_new up nR hp
        rw [dkv_len] at this ⊢
        exact this.trans (pm.append_right _)
      · rw [List.map_append, en, List.take_add_one, ht]; rfl
      · rw [List.length_append, pl]; rfl
  obtain ⟨o, ps, us, P, y8, rfl, bg, pm, en, pl⟩ := h1
  rw [List.length_map] at en pl
  rw [List.take_length] at en
  have t12 := tex.2.1
  -- filled
  refine ⟨fun σ' H9 => ∃ (o : Option Tr) (ps : List (Option Tr)) (us : List V) (P : List Row) (y8 y9 y10 : Option V), σ' = [some (.ref x), some (.ref pa), some (.int way), some (.str (st wd)), some (.int more), some (.ref pd), some (.ref tA), none, y8, y9, y10] ∧ Bg0 K CTrail x dx l pa pd H5 H9 o ps us P ∧ (rO o).Perm P ∧ (way = 1 → P.map (·.1) = nms 3) ∧ ps.length ≤ 15, ?_, ?_⟩
  · by_cases hw : way = 1
    · have en0 : P.map (·.1) = nms 0 := en.trans (tw hw)
      have l0 : ps.length = 12 := by rw [pl, tw hw]; decide +kernel
      refine ⟨_, rfl, rfl, _, rfl, ify (by rw [hw]) ⟨(by show 3 ≤ sizeLine; decide), fun sL nsL => ?_⟩⟩
      have sm := same_new nsL (.lst [V.str (Str.ofString "a"), .str (Str.ofString "b"), .str (Str.ofString "c")])
      have eL : upd H' sL (.lst [V.str (Str.ofString "a"), .str (Str.ofString "b"), .str (Str.ofString "c")]) sL = some (.lst [V.str (Str.ofString "a"), .str (Str.ofString "b"), .str (Str.ofString "c")]) := upd_same
      have nsM : sL ∉ [x, l, pa, pd] := by
        obtain ⟨v1, c1, f1, f2, _⟩ := id bg.2.1
        have a1 := (ne_of_none f1 nsL).symm
        have a2 := (ne_of_none f2 nsL).symm
        have a3 := (ne_of_none bg.2.2.2.2.1 nsL).symm
        have a4 := (ne_of_none bg.2.2.2.2.2.2 nsL).symm
        simp [a1, a2, a3, a4]
      have bgS := bg.same sm
      generalize upd H' sL (.lst [V.str (Str.ofString "a"), .str (Str.ofString "b"), .str (Str.ofString "c")]) = H8 at sm eL bgS
      refine ⟨sL, rfl, ⟨_, SqL.of eL⟩, for_list (xs := [V.str (Str.ofString "a"), .str (Str.ofString "b"), .str (Str.ofString "c")]) (fun i σ Hi => ∃ (o : Option Tr) (ps : List (Option Tr)) (us : List V) (P : List Row) (y9 y10 : Option V), σ = [some (.ref x), some (.ref pa), some (.int way), some (.str (st wd)), some (.int more), some (.ref pd), some (.ref tA), none, y8, y9, y10] ∧ Bg0 K CTrail x dx l pa pd H8 Hi o ps us P ∧ (rO o).Perm P ∧ P.map (·.1) = nms i ∧ ps.length = 12 + i)
        ⟨o, ps, us, P, none, none, rfl, bgS.rebase, pm, en0, l0⟩ (fun i σ Hi hi h1 => ?_) (fun j z σ Hi hz h1 => ?_) (fun σ Hi h1 => ?_)⟩
      · obtain ⟨_, _, _, _, _, _, _, bg, _⟩ := h1
        exact SqL.of (bg.1 _ _ nsM eL)
      · clear bg pm en pl en0 l0 bgS
        obtain ⟨o, ps, us, P, y9, y10, rfl, bg, pm, en, pl⟩ := h1
        have hj : j ≤ 2 := by
          have := (List.getElem?_eq_some_iff.mp hz).1
          simp at this; omega
        obtain ⟨rfl⟩ : z = V.str (st [97 + j]) := by
          rcases (show j = 0 ∨ j = 1 ∨ j = 2 by omega) with rfl | rfl | rfl <;> (injection hz with hz; exact hz.symm)
        have gt := bg.2.2.1
        have up := gt.2.1.1
        have nP := names_perm pm (upNames up)
        have lP : P.length ≤ 100 := by have := pm.length_eq; have := gt.2.2; omega
        obtain ⟨ne, l40, ns, l100, perm'⟩ := graft_ok hj up pm en
        refine ⟨_, rfl, .inl ⟨rfl, _, SqL.of bg.2.2.2.2.1⟩, _, rfl, pd, dkv P, rfl, .inl bg.2.2.2.2.2.2, fun q' nq => ?_⟩
        obtain ⟨hp1, tr2, hd2, stp⟩ := bg.step pm nlp nq
        refine ⟨pa, us, .ref q', rfl, rfl, hp1, small1000' (by rw [bg.2.2.2.2.2.1.len]; omega), ?_⟩
        generalize upd (upd Hi q' (.dK (dkv P))) pa (.lst (us ++ [.ref q'])) = H6 at tr2 hd2 stp
        obtain ⟨v1, c1, e1, _⟩ := id tr2
        refine ⟨_, rfl, x, dx, _, rfl, e1, rfl, _, rfl, x, dx, l, o, ps, _, _, some [], some [97 + j], rfl, tr2, gt, by omega, ⟨rfl, by decide +kernel⟩, ⟨rfl, nm_a j hj⟩, (fun e => by rcases e with e | e <;> cases e), fun b c eb ec => ?_⟩
        cases eb
        cases ec
        refine ⟨fun z => absurd z ne, fun _ ⟨r, hr, hl⟩ => absurd (l40 r hr) (by omega), fun _ _ sh => absurd sh ns, fun _ _ _ _ _ big => absurd (show 100 < (rO o).length + _ from big) (Nat.not_lt.mpr l100), fun _ _ _ _ o' H7 g' bt f tr7 => ?_⟩
        have bg7 := stp o' H7 f tr7 g'
        have pm7 := perm' _ bt
        have hd7 := bg7.2.2.2.2.2.2
        refine ⟨_, rfl, pd, dkv P, rfl, hd7, fun qL nqL => ?_⟩
        have smq := same_new nqL (.lst ((dkv P).map fun kv => kV kv.1))
        have eq : upd H7 qL (.lst ((dkv P).map fun kv => kV kv.1)) qL = some (.lst ((dkv P).map fun kv => kV kv.1)) := upd_same
        have nqd : qL ≠ pd := (ne_of_none hd7 nqL).symm
        have bg8 := bg7.same smq
        generalize upd H7 qL (.lst ((dkv P).map fun kv => kV kv.1)) = H10 at smq eq bg8
        refine ⟨qL, rfl, ⟨_, SqL.of eq⟩, for_list (xs := (dkv P).map fun kv => kV kv.1) (fun i σ Hi => ∃ y10, σ = [some (.ref x), some (.ref pa), some (.int way), some (.str (st wd)), some (.int more), some (.ref pd), some (.ref tA), none, y8, some (.str (st [97 + j])), y10] ∧ Bg0 K CTrail x dx l pa pd H8 Hi o' (ps ++ [o]) (us ++ [.ref q']) (P ++ (P.take i).map (pre [97 + j])) ∧ Hi qL = some (.lst ((dkv P).map fun kv => kV kv.1)))
          ⟨_, rfl, (by rw [List.take_zero, List.map_nil, List.append_nil]; exact bg8), eq⟩ (fun i σ Hi hi h1 => ?_) (fun i z σ Hi hz h1 => ?_) (fun σ Hi h1 => ?_)⟩
        · obtain ⟨_, _, _, h⟩ := h1
          exact SqL.of h
        · obtain ⟨y10, rfl, bgi, hq⟩ := h1
          rw [List.getElem?_map, Option.map_eq_some_iff] at hz
          obtain ⟨⟨k, v⟩, hkv, rfl⟩ := hz
          obtain ⟨r, hr, rfl, rfl⟩ := dkv_get hkv
          have hrP := List.mem_of_getElem? hr
          have hdi := bgi.2.2.2.2.2.2
          have gti : DGet Hi pd (.str (st r.1)) (some (.int r.2)) := by
            have := get_any (.inl hdi) r.1
            rw [lkp_of_app (lkp_mem nP hrP)] at this
            exact this
          have lx : r.1.length ≤ 40 := by
            have := (nms_ok j (by omega) r.1 (by rw [← en]; exact List.mem_map.mpr ⟨r, hrP, rfl⟩)).1
            omega
          refine ⟨_, rfl, _, rfl, pd, _, rfl, gti, _, rfl, _, rfl, _, rfl, _, _, rfl, rfl, ?_, ?_⟩
          · show (st [97 + j]).length + (st r.1).length ≤ sizeLine
            rw [st_len, st_len]; exact smallZ (by simp; omega)
          · rw [st_add]
            refine ⟨pd, _, rfl, DPut.k (k := Sum.inr (st ([97 + j] ++ r.1))) hdi (small1000' (by rw [dkv_len, List.length_append, List.length_map, List.length_take]; omega)), _, rfl, ?_, (by rw [upd_ne nqd]; exact hq)⟩
            rw [dkv_put (pre_new hj nP en hr)]
            rw [show (P ++ (P.take i).map (pre [97 + j])) ++ [([97 + j] ++ r.1, r.2)] = P ++ (P.take (i + 1)).map (pre [97 + j]) by rw [tk_one hr, List.map_append, List.append_assoc]; rfl]
            exact bgi.put
        · obtain ⟨y10, rfl, bgi, hq⟩ := h1
          rw [List.length_map, dkv_len, List.take_length] at bgi
          exact ⟨o', _, _, _, _, _, rfl, bgi, pm7, pre_names en, by rw [List.length_append, pl]; simp; omega⟩
      · obtain ⟨o, ps, us, P, y9, y10, rfl, bg9, pm9, en9, pl9⟩ := h1
        exact ⟨o, ps, us, P, _, _, _, rfl, bg9.over (bg.1.trans (Kp.of sm)), pm9, fun _ => en9, by rw [pl9]; decide⟩
    · exact ⟨_, rfl, rfl, _, rfl, ifn (fun z => hw (V.int.inj z)) ⟨o, ps, us, P, _, _, _, rfl, bg, pm, fun z => absurd z hw, by omega⟩⟩
  clear bg pm en pl
  rintro σ9 H9 ⟨o, ps, us, P, y8', y9, y10, rfl, bg, pm, en, pl⟩
  -- a few more
  refine ⟨_, rfl, (by show 2 ≤ sizeLine; decide), fun m nm => ⟨_, rfl, rfl, .inr ⟨_, rfl, ?_⟩⟩⟩
  obtain ⟨n, hn, nw, hat⟩ : ∃ n : Int, (0 ≤ n ∧ n ≤ 3) ∧ (0 < n → way = 1) ∧ atI [V.int 0, V.int more] (if decide (V.int way = V.int 1) = true then 1 else 0) = some (.int n) := by
    by_cases hw : way = 1
    · refine ⟨more, ⟨mo0, mo3⟩, fun _ => hw, ?_⟩
      rw [hw]; rfl
    · refine ⟨0, by decide, fun z => absurd z (by decide), ?_⟩
      rw [decide_eq_false fun z => hw (V.int.inj z)]; rfl
  refine ⟨m, _, _, _, rfl, rfl, SqL.of upd_same, hat, ?_⟩
  have bg' := bg.same (same_new nm (.lst [V.int 0, V.int more]))
  generalize upd H9 m (.lst [V.int 0, V.int more]) = H10 at bg'
  refine ⟨_, rfl, by omega, by omega, for_range (lo := 0) (n := n.toNat) (fun i σ Hi => ∃ (o : Option Tr) (ps : List (Option Tr)) (us : List V) (P : List Row) (y7 : Option V), σ = [some (.ref x), some (.ref pa), some (.int way), some (.str (st wd)), some (.int more), some (.ref pd), some (.ref tA), y7, y8', y9, y10] ∧ Bg0 K CTrail x dx l pa pd H5 Hi o ps us P ∧ (rO o).Perm P ∧ (way = 1 → P.map (·.1) = nms 3 ++ (List.range i).map fun i => 122 :: digs i) ∧ ps.length ≤ 15 + i)
    ⟨o, ps, us, P, none, rfl, bg', pm, fun z => by rw [en z, List.range_zero, List.map_nil, List.append_nil], by omega⟩ (fun i σ Hi hi h1 => ?_) (fun σ Hi h1 => ?_)⟩
  · clear bg pm en pl bg'
    obtain ⟨o, ps, us, P, y7, rfl, bg, pm, en, pl⟩ := h1
    have i2 : i ≤ 2 := by omega
    have hw : way = 1 := nw (by omega)
    have en := en hw
    have newP : lkp P (122 :: digs i) = none := z_new (n := 0) i2 en
    have lP : P.length = 96 + i := by
      have := congrArg List.length en
      rw [List.length_map, List.length_append, List.length_map, List.length_range, nms_len 3 (by decide)] at this
      omega
    have up := bg.2.2.1.2.1.1
    have nR : lkp (rO o) (122 :: digs i) = none := by rw [lkp_perm pm (upNames up)]; exact newP
    have lg : ∀ j : Nat, j < 12 → ((0 : Int) + (j : Int)).natAbs.log2 < 1920 := by decide +kernel
    have ez : Str.ofString "z" ++ Str.ofString (toString ((0 : Int) + (i : Int))) = st (122 :: digs i) := by
      rw [str_digs i (by omega)]
      exact st_add [122] (digs i)
    have dl : (digs i).length ≤ 2 := by unfold digs; split <;> simp
    have zb : (Str.ofString "z").length + (Str.ofString (toString ((0 : Int) + (i : Int)))).length ≤ sizeLine := by
      rw [str_digs i (by omega)]
      show (st [122]).length + _ ≤ _
      rw [st_len, st_len]
      exact smallZ (by simp; omega)
    refine ⟨_, rfl, .inl ⟨rfl, _, SqL.of bg.2.2.2.2.1⟩, _, rfl, pd, dkv P, rfl, .inl bg.2.2.2.2.2.2, fun q' nq => ?_⟩
    obtain ⟨hp1, tr2, hd2, stp⟩ := bg.step pm nlp nq
    refine ⟨pa, us, .ref q', rfl, rfl, hp1, small1000' (by rw [bg.2.2.2.2.2.1.len]; omega), ?_⟩
    generalize upd (upd Hi q' (.dK (dkv P))) pa (.lst (us ++ [.ref q'])) = H6 at tr2 hd2 stp
    obtain ⟨v1, c1, e1, _⟩ := id tr2
    have gt := bg.2.2.1
    refine ⟨_, rfl, x, dx, _, rfl, e1, rfl, _, rfl, _, rfl, lg i (by omega), _, _, rfl, rfl, zb, _, rfl, x, dx, l, o, ps, _, _, some (122 :: digs i), rfl, tr2, gt, by omega, ?_, ⟨congrArg V.str ez, nm_z i i2⟩, (fun e => by cases e), fun b eb => ⟨fun S hS big H' s' => ?_, fun o' H7 g' hp f tr7 => ?_⟩⟩
    · exact Nat.lt_of_le_of_lt (show ((0 : Int) + (i : Int)).natAbs ≤ 3 by omega) (by decide)
    · cases eb
      exfalso
      have l1 := put_len_new up nR hS
      have l2 := pm.length_eq
      omega
    · cases eb
      have bg7 := stp o' H7 f tr7 g'
      have hd7 := bg7.2.2.2.2.2.2
      refine ⟨_, rfl, _, rfl, _, rfl, _, rfl, lg i (by omega), _, _, rfl, rfl, zb, ?_⟩
      rw [ez]
      refine ⟨pd, _, rfl, DPut.k (k := Sum.inr (st (122 :: digs i))) hd7 (small1000' (by rw [dkv_len]; omega)), ?_⟩
      rw [dkv_put newP]
      refine ⟨o', _, _, _, _, rfl, bg7.put, ?_, fun _ => ?_, ?_⟩
      · exact (put_perm_new up nR hp).trans (pm.append_right _)
      · rw [List.map_append, en, List.range_succ, List.map_append, List.append_assoc]; rfl
      · rw [List.length_append]; simp; omega
  · clear bg pm en pl bg'
    obtain ⟨o, ps, us, P, y7, rfl, bg, pm, en, pl⟩ := h1
    have up := bg.2.2.1.2.1.1
    obtain ⟨v1, c1, e1, _⟩ := id bg.2.1
    have s05 := sd.trans s3
    refine ⟨_, rfl, q o ps us pd Hi (fun a u na e => bg.1 a u (fun z => ?_) (s05 _ _ e)) bg.2.1 bg.2.2.1 bg.2.2.2.1 (by omega) bg.2.2.2.2.1 (bg.2.2.2.2.2.1.avoid fun kvs e => by rw [e1] at e; cases e) ⟨P, bg.2.2.2.2.2.2, up, pm⟩⟩
    simp only [List.mem_cons, List.not_mem_nil, or_false] at z na
    rcases z with z | z | z | z
    · exact na (.inl z)
    · exact na (.inr (.inl z))
    · exact na (.inr (.inr z))
    · rw [z, npd] at e; cases e
theorem ok_Lfirst_deeds (F : Fun K "_law_first_deeds" "_law_first_deeds" sLfirst_deeds f fd) :
    FnOk P w K mg base CX0 1 f fd pLfirst_deeds (spFirst) := by
  refine F.ok cLfirst_deeds (fun vs H Q E h => ?_) (fun cdv A outer s H vs Q E hr h => ?_)
  · obtain ⟨b, wd, rfl, _⟩ := h
    rfl
  obtain ⟨b, wd, rfl, wl, wt, q⟩ := h
  refine ⟨_, (pss_cons (ps_if (pt_cmpR op_eq (pv 0) pe_int (nomark _)) (pss_cons (ps_set (i := 2) cLfirst_deeds.nd rfl (Or.inl rfl) (pe_lst (pa_cons (pe_tup (pa_cons pe_int (pa_cons pe_str (pa_cons pe_str pa_nil)))) (pa_cons (pe_tup (pa_cons pe_int (pa_cons pe_str (pa_cons pe_str pa_nil)))) (pa_cons (pe_tup (pa_cons pe_int (pa_cons (pe_op op_add_str (pv 1) pe_str) (pa_cons pe_str pa_nil)))) (pa_cons (pe_tup (pa_cons pe_int (pa_cons pe_str (pa_cons pe_str pa_nil)))) pa_nil))))))
    (pss_one (ps_ret (pe_op op_cat (pv 2) (pe_lst (pa_cons (pe_tup (pa_cons pe_int (pa_cons pe_str (pa_cons pe_str pa_nil)))) (pa_cons (pe_tup (pa_cons pe_int (pa_cons pe_str (pa_cons (pe_slice sl_str (pv 1) po_none (po_some pe_int)) pa_nil)))) pa_nil))))))) pss_nil)
    (pss_cons (ps_if (pt_cmpR op_eq (pv 0) pe_int (nomark _)) (pss_one (ps_ret (pe_lst (pa_cons (pe_tup (pa_cons pe_int (pa_cons pe_str (pa_cons pe_str pa_nil)))) (pa_cons (pe_tup (pa_cons pe_int (pa_cons pe_str (pa_cons pe_str pa_nil)))) (pa_cons (pe_tup (pa_cons pe_int (pa_cons pe_str (pa_cons pe_int pa_nil)))) (pa_cons (pe_tup (pa_cons pe_int (pa_cons pe_str (pa_cons pe_str pa_nil)))) pa_nil))))))) pss_nil)
    (pss_one (ps_ret (pe_lst pa_nil))))), ?_⟩
  have zw : (st wd).length ≤ sizeLine := by rw [st_len]; exact smallZ (by omega)
  have tz : Tx (.str (Str.ofString "z")) := tl_ok (x := [122]) (by decide) (by decide +kernel)
  have ty : Tx (.str (Str.ofString "y")) := tl_ok (x := [121]) (by decide) (by decide +kernel)
  have tyy : Tx (.str (Str.ofString "yy")) := tl_ok (x := [121, 121]) (by decide) (by decide +kernel)
  have te : Tx (.str (Str.ofString "")) := tl_ok (x := []) (by decide) (by decide +kernel)
  have t0 : Tx (.str (Str.ofString "0")) := tl_ok (x := [48]) (by decide) (by decide +kernel)
  have ta : Tx (.str (Str.ofString "a")) := tl_ok (x := [97]) (by decide) (by decide +kernel)
  have tp : Tx (.str (Str.ofString "p")) := tl_ok (x := [112]) (by decide) (by decide +kernel)
  have tqq : Tx (.str (Str.ofString "qq")) := tl_ok (x := [113, 113]) (by decide) (by decide +kernel)
  have tzz : Tx (.str (Str.ofString "zz")) := tl_ok (x := [122, 122]) (by decide) (by decide +kernel)
  have twa : Tx (.str (st wd ++ Str.ofString "a")) := by
    rw [show st wd ++ Str.ofString "a" = st (wd ++ [97]) from st_add wd [97]]
    refine tx_st (by rw [List.length_append, wl]; decide) fun c hc => ?_
    rcases List.mem_append.mp hc with hc | hc
    · exact wt c hc
    · rw [List.mem_singleton.mp hc]; decide +kernel
  have twc : Tx (.str (cutS (st wd) none (some 39))) := by
    rw [show cutS (st wd) none (some 39) = st (wd.take 39) from cut_to _ 39]
    exact tx_st (by rw [List.length_take]; omega) fun c hc => wt c (List.mem_of_mem_take hc)
  by_cases h1 : b = 1
  · refine ⟨_, rfl, rfl, _, rfl, ify (by rw [h1]) ⟨(by show 3 ≤ sizeLine; decide), fun t1 n1 => ⟨(by show 3 ≤ sizeLine; decide), fun t2 n2 => ⟨_, rfl, _, _, rfl, rfl, ?_, ?_⟩⟩⟩⟩
    · show _ + (st [97]).length ≤ _
      rw [st_len, st_len]; exact smallZ (by simp; omega)
    refine ⟨(by show 3 ≤ sizeLine; decide), fun t3 n3 => ⟨(by show 3 ≤ sizeLine; decide), fun t4 n4 => ⟨(by show 4 ≤ sizeLine; decide), fun L nL => ?_⟩⟩⟩
    have f4 := fsa (way := 0) n4 (fsa n3 (fsa n2 (fsa n1 ⟨Same.refl _, .nil⟩ (by decide) (by decide) tz ty) (by decide) (by decide) tyy te) (by decide) (by decide) twa te) (by decide) (by decide) t0 te
    obtain ⟨sL, fL, eL⟩ := fsl (gs := [V.ref t1, .ref t2, .ref t3, .ref t4]) nL f4
    generalize upd _ L (.lst [V.ref t1, .ref t2, .ref t3, .ref t4]) = HL at fL sL eL
    refine ⟨_, rfl, (by show 3 ≤ sizeLine; decide), fun t5 n5 => ⟨_, rfl, 39, rfl, _, rfl, zw, (by show 3 ≤ sizeLine; decide), fun t6 n6 => ⟨(by show 2 ≤ sizeLine; decide), fun L2 nL2 => ?_⟩⟩⟩
    have f6 := fsa (way := 4) n6 (fsa n5 ⟨Same.refl _, fL⟩ (by decide) (by decide) te ta) (by decide) (by decide) te twc
    obtain ⟨s6, f7, e7⟩ := fsl (gs := [V.ref t5, .ref t6]) nL2 f6
    exact ⟨L, L2, _, _, rfl, rfl, s6 _ _ eL, e7, (by show 6 ≤ sizeLine; decide), fun M nM => q M _ _ ((sL.trans s6).free nM) ((sL.trans s6).trans (same_new nM _)) upd_same (by show 6 ≤ 6; decide) ((f7.same (same_new nM _)).sub fun f hf => by
      simp only [List.cons_append, List.nil_append, List.mem_cons, List.not_mem_nil, or_false] at hf ⊢
      rcases hf with h | h | h | h | h | h <;> simp [h])⟩
  by_cases h3 : b = 3
  · refine ⟨_, rfl, rfl, _, rfl, ifn (fun z => h1 (V.int.inj z)) ⟨_, rfl, rfl, _, rfl, ify (by rw [h3]) ?_⟩⟩
    refine ⟨(by show 3 ≤ sizeLine; decide), fun t1 n1 => ⟨(by show 3 ≤ sizeLine; decide), fun t2 n2 => ⟨(by show 3 ≤ sizeLine; decide), fun t3 n3 => ⟨(by show 3 ≤ sizeLine; decide), fun t4 n4 => ⟨(by show 4 ≤ sizeLine; decide), fun L nL => ?_⟩⟩⟩⟩⟩
    have f4 := fsa (way := 0) n4 (fsa n3 (fsa n2 (fsa n1 ⟨Same.refl _, .nil⟩ (by decide) (by decide) tp tqq) (by decide) (by decide) tp tqq) (by decide) (by decide) tzz (.inr (.inr rfl))) (by decide) (by decide) tp te
    obtain ⟨sL, fL, eL⟩ := fsl (gs := [V.ref t1, .ref t2, .ref t3, .ref t4]) nL f4
    exact q L _ _ (f4.1.free nL) sL eL (by show 4 ≤ 6; decide) (fL.sub fun f hf => by
      simp only [List.mem_cons, List.not_mem_nil, or_false] at hf ⊢
      rcases hf with h | h | h | h <;> simp [h])
  refine ⟨_, rfl, rfl, _, rfl, ifn (fun z => h1 (V.int.inj z)) ⟨_, rfl, rfl, _, rfl, ifn (fun z => h3 (V.int.inj z)) ⟨(by show 0 ≤ sizeLine; decide), fun L nL => q L [] _ nL (same_new nL _) upd_same (by simp) .nil⟩⟩⟩
theorem ok_Ltells {CTrail fT_init fT_told CNoName CNotThere CTooLong CTaken CTooMany CNothingDone CNoNote : Addr} {fdT_told : FuncData} (F : Fun K "_law_tells" "_law_tells" sLtells f fd) (TTr : TrTxt K mg CTrail fT_init) (G_T_told : FnOk P w K mg base (L2.CX P w) 95 fT_told fdT_told pT_told (spTold K CTrail CNoName)) (b_T_told : Binds K fdT_told pT_told []) (M_T_told : Meth K CTrail "told" fT_told)
    (G_Lnamed : Has P w K mg base "_law_named" pLnamed 1 (spNamed K)) (G_Ltried : Has P w K mg base "_law_tried" pLtried 125 (spTried K CTrail CNoName CNotThere CTooLong CTaken CTooMany CNothingDone CNoNote)) (G_Lalike : Has P w K mg base "_law_alike" pLalike 11 (spAlikeB K 10))
    (m_sorted : mg "sorted" = none) (m_list : mg "list" = none) (m_len : mg "len" = none) : FnOk P w K mg base CX0 130 f fd pLtells (spTells K CTrail) := by
  refine F.ok cLtells (fun vs H Q E h => ?_) (fun cdv A outer s H vs Q E hr h => ?_)
  · obtain ⟨x, dx, l, d, kp, w', t, o, ps, ks, rfl, _⟩ := h
    rfl
  obtain ⟨x, dx, l, d, kp, w', t, o, ps, ks, rfl, tr, g, tx, tw, ⟨P, eP, up, pm⟩, hkp, nlk, kl, q0, q1⟩ := h
  refine ⟨_, (pss_cons (ps_set (i := 4) cLtells.nd rfl (Or.inl rfl) (pe_tup (pa_cons pe_str (pa_cons pe_bl pa_nil))))
    (pss_cons (ps_if (pt_val (pe_has G_Lnamed hr (by omega) (pa_cons (pv 1) pa_nil))) (pss_one (ps_set (i := 4) cLtells.nd rfl (Or.inl rfl) (pe_tup (pa_cons pe_str (pa_cons (pe_lc (own := [("_law_name", 8)]) (g := gName 8) (by rfl) cLtells.nd (pi_list (pe_callB (cr_sortedDS (by rfl) (room_units hr)) (by rfl) m_sorted (by decide +kernel) (pa_cons (pv 2) pa_nil))) (blkOk_by (own := [("_law_name", 8)]) (N := ["_law_trail", "_law_start", "_law_plain", "_law_kept", "_law_due_here", "_law_got", "_law_all_of", "_law_again", "_law_name"]) (sc := defScope sLtells) (by decide +kernel)) (fun _ _ _ _ _ => pg_name (i := 8) cLtells.nd rfl (Or.inl rfl)) (fun _ _ _ _ _ => (pts_one (pt_cmpR op_eq (pe_slice sl_str (pv 8) po_none (po_some (pe_callB call_len_str (by rfl) m_len (by decide +kernel) (pa_cons (pv 1) pa_nil)))) (pv 1) (nomark _)))) (fun _ _ _ _ _ => (pe_tup (pa_cons (pv 8) (pa_cons (pe_dget (hu1 hr.units) (pv 2) (pv 8) (fun _ _ => rfl)) pa_nil))))) pa_nil))))) pss_nil)
    (pss_cons (ps_set (i := 5) cLtells.nd rfl (Or.inl rfl) (pe_has G_Ltried hr (by omega) (pa_cons (pv 0) (pa_cons pe_int (pa_cons (pv 1) (pa_cons pe_non (pa_cons pe_int pa_nil)))))))
    (pss_cons (ps_if (PW.pt (pw_or (pt_not (pt_val (pe_has G_Lalike hr (by omega) (pa_cons (pv 5) (pa_cons (pv 4) pa_nil))))) (pw_or1 (pt_cmpR op_ne (pe_ix (r := rIxT K) ix_tup (pv 4) pe_int (fun _ _ => rfl)) pe_str (nomark _))))) (pss_one (ps_ret (pe_and (pe_cmpR op_ne (pe_ix (r := rIxT K) ix_tup (pv 4) pe_int (fun _ _ => rfl)) pe_str (nomark _)) (pe_one (pe_has G_Lalike hr (by omega) (pa_cons (pv 5) (pa_cons (pv 4) pa_nil))))))) pss_nil)
    (pss_cons (ps_expr (pe_bm PySem.F.plainAttrs_list PySem.F.slot_list_append PySem.F.type_list_append mt_append (pe_ix (r := rIxT K) ix_tup (pv 5) pe_int (fun _ _ => rfl)) (pa_cons (pe_tup (pa_cons pe_str (pa_cons pe_int pa_nil))) pa_nil)))
    (pss_cons (ps_set (i := 6) cLtells.nd rfl (Or.inl rfl) (pe_meth (E := E0) (pv 0) TTr.cl M_T_told G_T_told (hr.mono (by omega)) b_T_told .nil passL (pa_cons pe_str pa_nil)))
    (pss_cons (ps_expr (pe_bm PySem.F.plainAttrs_list PySem.F.slot_list_append PySem.F.type_list_append mt_append (pv 3) (pa_cons (pe_tup (pa_cons (pv 6) (pa_cons (pe_callTy call_list_of (by rfl) m_list (by decide +kernel) (pa_cons (pv 6) pa_nil)) pa_nil))) pa_nil)))
    (pss_cons (ps_set (i := 7) cLtells.nd rfl (Or.inl rfl) (pe_has G_Ltried hr (by omega) (pa_cons (pv 0) (pa_cons pe_int (pa_cons (pv 1) (pa_cons pe_non (pa_cons pe_int pa_nil)))))))
    (pss_cons (ps_if (PW.pt (pw_or (pt_cmpR op_ne (pe_callB call_len_seq (by rfl) m_len (by decide +kernel) (pa_cons (pv 6) pa_nil)) (pe_callB call_lenD (by rfl) m_len (by decide +kernel) (pa_cons (pv 2) pa_nil)) (nomark _)) (pw_or1 (pt_not (pt_val (pe_has G_Lalike hr (by omega) (pa_cons (pv 7) (pa_cons (pv 4) pa_nil)))))))) (pss_one (ps_ret pe_bl)) pss_nil)
    (pss_one (ps_ret (pe_has G_Lalike hr (by omega) (pa_cons (pe_ix (r := rIxT K) ix_tup (pv 5) pe_int (fun _ _ => rfl)) (pa_cons (pe_op op_cat (pe_ix (r := rIxT K) ix_tup (pv 4) pe_int (fun _ _ => rfl)) (pe_lst (pa_cons (pe_tup (pa_cons pe_str (pa_cons pe_int pa_nil))) pa_nil))) pa_nil)))))))))))))), ?_⟩
  have lP : P.length = (rO o).length := pm.length_eq.symm
  have rl := g.2.2
  have gg := g.2.1
  refine ⟨(by show 2 ≤ sizeLine; decide), fun t1 nt1 => ?_⟩
  have s1 := same_new nt1 (.tup [V.str (Str.ofString "no name"), .bl true])
  have e1 : upd H t1 (.tup [V.str (Str.ofString "no name"), .bl true]) t1 = some (.tup [V.str (exWord 0), .bl true]) := upd_same
  generalize upd H t1 (.tup [V.str (Str.ofString "no name"), .bl true]) = H1 at s1 e1
  have tr1 := tr.same s1
  have tw1 := tw.same s1
  refine ⟨_, rfl, w', t, rfl, tx, tw1, ?_⟩
  cases t with
  | none =>
    refine ⟨_, rfl, iteF ⟨_, rfl, _, rfl, tried_told (E := E0) (c6 := CNoNote) tr1 g tw1 (fun _ H2 tt s2 ht => ?_) fun b eb => by cases eb⟩⟩
    have nt := two_plain (W := exWord 0) (d := .bool true) rfl (by decide)
    refine ⟨_, rfl, _, rfl, .ref tt, .ref t1, _, rfl, Dp_pair ht (.bl true), Dp_pair (s2 _ _ e1) (.bl true), nt.1, nt.2, fun H3 s3 => ⟨_, rfl, iteF ?_⟩⟩
    have e13 := s3 _ _ (s2 _ _ e1)
    refine ⟨_, rfl, t1, _, _, _, rfl, rfl, SqT.of e13, (rfl : atI [V.str (exWord 0), V.bl true] 0 = some (V.str (exWord 0))), rfl, _, rfl, iteT ?_⟩
    refine ⟨_, rfl, t1, _, _, _, rfl, rfl, SqT.of e13, (rfl : atI [V.str (exWord 0), V.bl true] 0 = some (V.str (exWord 0))), rfl, true, rfl, iteT ?_⟩
    exact ⟨_, rfl, _, rfl, .ref tt, .ref t1, _, rfl, Dp_same s3 (Dp_pair ht (.bl true)), Dp_pair e13 (.bl true), nt.1, nt.2, fun H4 s4 => q0 H4 (((s1.trans s2).trans s3).trans s4)⟩
  | some b =>
    obtain ⟨rfl, nb⟩ := tw1
    obtain ⟨lb, tb⟩ := nm_iff.mp nb
    have zb : (st b).length ≤ sizeLine := by rw [st_len]; exact smallZ (by omega)
    obtain ⟨R, hR⟩ : ∃ R, R = rO o := ⟨_, rfl⟩
    rw [← hR] at up pm lP rl gg
    have zr : ∀ {r : Row}, r ∈ R → (st r.1).length ≤ sizeLine := fun {r} hr => by rw [st_len]; exact smallZ (by have := (gg.2.2 r hr).1; omega)
    -- the rows that begin so
    have eP1 := s1 _ _ eP
    refine ⟨_, rfl, iteT ⟨_, rfl, d, dkv P, P.map (fun r => st r.1), rfl, .inl eP1, dkv_keys P, (by rw [List.length_map]; omega), fun p np => ⟨p, rfl, ⟨_, SqL.of upd_same⟩, ?_⟩⟩⟩
    have sp := same_new np (.lst (((P.map fun r => st r.1).mergeSort leS).map V.str))
    have ep : upd H1 p (.lst (((P.map fun r => st r.1).mergeSort leS).map V.str)) p = some (.lst (((P.map fun r => st r.1).mergeSort leS).map V.str)) := upd_same
    have em : ((P.map fun r => st r.1).mergeSort leS).map V.str = R.map (fun r => V.str (st r.1)) := by rw [sorted_names pm up, List.map_map]; rfl
    generalize upd H1 p (.lst (((P.map fun r => st r.1).mergeSort leS).map V.str)) = H2 at sp ep
    rw [em] at ep
    have eP2 := sp _ _ eP1
    refine fun D nD => lc_list (K := K) (xs := R.map (fun r => V.str (st r.1))) (LcP K H2 D (fm R (tk b) rowD)) (lcp0 nD rfl) (fun _ _ _ h => h.1.seq (SqL.of ep)) (fun j y H3 hy h3 => ?_) (fun H3 h3 => ?_)
    · rw [List.getElem?_map, Option.map_eq_some_iff] at hy
      obtain ⟨r, hr, rfl⟩ := hy
      have hrR := List.mem_of_getElem? hr
      refine ⟨rfl, _, rfl, _, rfl, st b, rfl, zb, _, rfl, st r.1, rfl, zr hrR, _, rfl, rfl, _, rfl, ?_⟩
      rw [st_len, cut_to]
      have ed : decide (V.str (st (r.1.take b.length)) = V.str (st b)) = tk b r := by
        unfold tk
        refine decide_eq_decide.mpr ⟨fun z => st_inj (V.str.inj z), fun z => by rw [z]⟩
      rw [ed]
      cases ht : tk b r with
      | true =>
        have gt : DGet H3 d (.str (st r.1)) (some (.int r.2)) := by
          have := get_of (.inl (h3.1 _ _ eP2)) up pm r.1
          rw [lkp_mem (upNames up) hrR] at this
          exact this
        refine iteT ⟨_, rfl, _, rfl, _, rfl, d, _, rfl, gt, (by show 2 ≤ sizeLine; decide), fun t nt => ?_⟩
        exact lcp_add h3 nD (same_new nt _) (Dp_pair upd_same (.int _)) (fm_yes hr ht) (fm_nolist fun _ => rfl) rfl (Nat.le_trans fm_len (by omega))
      | false => exact iteF (lcp_skip h3 (Same.refl _) (fm_no hr ht))
    rw [List.length_map] at h3
    obtain ⟨s3, acc, eD, dD⟩ := h3
    rw [fm_all] at dD
    obtain ⟨B, hB⟩ : ∃ B, B = R.filter (tk b) := ⟨_, rfl⟩
    rw [← hB] at dD
    have lB : B.length ≤ R.length := by rw [hB]; exact List.length_filter_le _ _
    refine ⟨(by show 2 ≤ sizeLine; decide), fun t2 nt2 => ?_⟩
    have st2 := same_new nt2 (.tup [V.str (Str.ofString "told"), .ref D])
    have e2 : upd H3 t2 (.tup [V.str (Str.ofString "told"), .ref D]) t2 = some (.tup [V.str toldW, .ref D]) := upd_same
    have eD4 := st2 _ _ eD
    have dD4 := DpAll_same st2 dD
    have s14 := (sp.trans s3).trans st2
    generalize upd H3 t2 (.tup [V.str (Str.ofString "told"), .ref D]) = H4 at st2 e2 eD4 dD4 s14
    have s04 := s1.trans s14
    have tr4 := tr.same s04
    have tw4 := tw.same s04
    have hD4 : Dp K H4 (.ref D) (.list (B.map rowD)) := .lst (SqL.of eD4) dD4
    obtain ⟨pl1, pl2⟩ := rowsPlain (R := B) (by omega)
    have nt := two_plain (W := toldW) pl1 pl2
    have hdue : Dp K H4 (.ref t2) (.tuple [.str toldW, .list (B.map rowD)]) := Dp_pair e2 hD4
    have eB : below b (rO o) = B := by rw [hB, hR]; rfl
    -- what is told, and a row put to it
    refine ⟨_, rfl, _, rfl, tried_told (E := E0) (c6 := CNoNote) tr4 g tw4 (fun e => by cases e) fun b' eb H5 tt L us nL s5 eL dL ht neL => ?_⟩
    cases eb
    rw [eB] at dL
    refine ⟨_, rfl, _, rfl, .ref tt, .ref t2, _, rfl, Dp_pair ht (.lst (SqL.of eL) dL), Dp_same s5 hdue, nt.1, nt.2, fun H6 s6 => ⟨_, rfl, iteF ?_⟩⟩
    have s46 := s5.trans s6
    refine ⟨_, rfl, t2, _, _, _, rfl, rfl, SqT.of (s46 _ _ e2), (rfl : atI [V.str toldW, V.ref D] 0 = some (V.str toldW)), rfl, _, rfl, iteF ?_⟩
    refine ⟨_, rfl, tt, _, _, _, rfl, rfl, SqT.of (s6 _ _ ht), (rfl : atI [V.str toldW, V.ref L] 1 = some (V.ref L)), .inl ⟨rfl, _, SqL.of (s6 _ _ eL)⟩, (by show 2 ≤ sizeLine; decide), fun c nc => ?_⟩
    have sc := same_new nc (.tup [V.str (Str.ofString ""), .int 0])
    have ec : upd H6 c (.tup [V.str (Str.ofString ""), .int 0]) c = some (.tup [.str (st []), .int 0]) := upd_same
    generalize upd H6 c (.tup [V.str (Str.ofString ""), .int 0]) = H7 at sc ec
    have s57 := s6.trans sc
    have eL7 := s57 _ _ eL
    have lus : us.length = B.length := by rw [DpAll_len dL, List.length_map]
    refine ⟨L, us, .ref c, rfl, rfl, eL7, small1000' (by omega), ?_⟩
    have k8 : Kp [L] H7 (upd H7 L (.lst (us ++ [.ref c]))) := Kp.upd
    have kt8 := k8.kt fun m hm => by rw [List.mem_singleton.mp hm]; exact nt_lst eL7
    have s48 : Same H4 (upd H7 L (.lst (us ++ [.ref c]))) := fun a u e => by
      rw [upd_ne (ne_of_none e nL)]; exact (s5.trans s57) a u e
    have eL8 : upd H7 L (.lst (us ++ [.ref c])) L = some (.lst (us ++ [.ref c])) := upd_same
    have ht8 : upd H7 L (.lst (us ++ [.ref c])) tt = some (.tup [.str toldW, .ref L]) := by rw [upd_ne neL.symm]; exact s57 _ _ ht
    have dL8 : DpAll K (upd H7 L (.lst (us ++ [.ref c]))) (us ++ [.ref c]) ((B ++ [([], 0)]).map rowD) := by
      rw [List.map_append]
      exact DpAll_app (DpAll_kt kt8 (rowsNolist B) (DpAll_same s57 dL)) (.cons (Dp_pair (kt8.1 _ _ ec) (.int 0)) .nil)
    generalize upd H7 L (.lst (us ++ [.ref c])) = H8 at s48 eL8 ht8 dL8
    have s08 := s04.trans s48
    have tr8 := tr.same s08
    obtain ⟨v8, a8, f8, _⟩ := id tr8
    -- all names
    refine ⟨_, rfl, x, dx, _, rfl, f8, rfl, x, dx, l, o, ps, rO o, _, some [], rfl, tr8, g.tr, g.2.1, thg_nil, (fun e => by cases e), fun b' eb L2 acc2 H9 nL2 s9 eL2 dL2 => ?_⟩
    cases eb
    rw [below_nil, ← hR] at dL2
    have la2 : acc2.length = R.length := by rw [DpAll_len dL2, List.length_map]
    have s09 := s08.trans s9
    refine ⟨_, rfl, .inl ⟨rfl, _, SqL.of (s09 _ _ hkp)⟩, _, rfl, _, rfl, L2, acc2, rfl, .inl (SqL.of eL2), fun r nr => ⟨(by show 2 ≤ sizeLine; decide), fun t3 nt3 => ?_⟩⟩
    have sr := same_new nr (.lst acc2)
    have er : upd H9 r (.lst acc2) r = some (.lst acc2) := upd_same
    generalize upd H9 r (.lst acc2) = H10 at sr er nt3
    have st3 := same_new nt3 (.tup [V.ref L2, .ref r])
    have et3 : upd H10 t3 (.tup [V.ref L2, .ref r]) t3 = some (.tup [V.ref L2, .ref r]) := upd_same
    generalize upd H10 t3 (.tup [V.ref L2, .ref r]) = H11 at st3 et3
    have s911 := sr.trans st3
    have s811 := s9.trans s911
    have s011 := s09.trans s911
    have hkp11 := s011 _ _ hkp
    refine ⟨kp, ks, .ref t3, rfl, rfl, hkp11, small1000' (by omega), ?_⟩
    have k12 : Kp [kp] H11 (upd H11 kp (.lst (ks ++ [.ref t3]))) := Kp.upd
    have nt12 : ∀ m ∈ [kp], NT H11 m := fun m hm => by rw [List.mem_singleton.mp hm]; exact nt_lst hkp11
    have kt12 := k12.kt nt12
    have ekp : upd H11 kp (.lst (ks ++ [.ref t3])) kp = some (.lst (ks ++ [.ref t3])) := upd_same
    obtain ⟨v11, a11, f11, g11, _⟩ := id (tr.same s011)
    have nxk : x ≠ kp := fun z => by rw [z, hkp11] at f11; cases f11
    have tr12 := (tr.same s011).keep k12 nt12 (by simpa using nxk) (by simpa using nlk)
    have ndk : D ≠ kp := (ne_of_none ((s1.trans sp) _ _ hkp) nD).symm
    have nLk : L ≠ kp := (ne_of_none (s04 _ _ hkp) nL).symm
    have nL2k : L2 ≠ kp := (ne_of_none (s08 _ _ hkp) nL2).symm
    have nrk : r ≠ kp := (ne_of_none (s09 _ _ hkp) nr).symm
    have ndp : d ≠ kp := fun z => by rw [z, hkp] at eP; cases eP
    have one : ∀ {a : Addr} {u : HO}, a ≠ kp → H11 a = some u → upd H11 kp (.lst (ks ++ [.ref t3])) a = some u := fun n e => by rw [upd_ne n]; exact e
    have eD12 := one ndk (s811 _ _ (s48 _ _ eD4))
    have dD12 := DpAll_kt kt12 (rowsNolist B) (DpAll_same (s48.trans s811) dD4)
    have e212 := kt12.1 _ _ (s811 _ _ (s48 _ _ e2))
    have ht12 := kt12.1 _ _ (s811 _ _ ht8)
    have eL12 := one nLk (s811 _ _ eL8)
    have dL12 := DpAll_kt kt12 (rowsNolist _) (DpAll_same s811 dL8)
    have eL212 := one nL2k (s911 _ _ eL2)
    have dL212 := DpAll_kt kt12 (rowsNolist R) (DpAll_same s911 dL2)
    have er12 := one nrk (st3 _ _ er)
    have et312 := kt12.1 _ _ et3
    have eP12 := one ndp (s011 _ _ eP)
    have tw12 : Thg K (upd H11 kp (.lst (ks ++ [.ref t3]))) (.str (st b)) (some b) := ⟨rfl, nb⟩
    generalize upd H11 kp (.lst (ks ++ [.ref t3])) = H12 at k12 kt12 ekp tr12 one eD12 dD12 e212 ht12 eL12 dL12 eL212 dL212 er12 et312 eP12 tw12
    -- once more
    refine ⟨_, rfl, _, rfl, tried_told (E := E0) (c6 := CNoNote) tr12 g tw12 (fun e => by cases e) fun b' eb H13 tt2 L3 us3 nL3 s13 eL3 dL3 ht3 _ => ?_⟩
    cases eb
    rw [eB] at dL3
    have hdue12 : Dp K H12 (.ref t2) (.tuple [.str toldW, .list (B.map rowD)]) := Dp_pair e212 (.lst (SqL.of eD12) dD12)
    refine ⟨_, rfl, L2, acc2, rfl, .inl (SqL.of (s13 _ _ eL212)), _, rfl, d, dkv P, rfl, s13 _ _ eP12, rfl, _, rfl, ifb0 (b := !decide (V.int ((acc2.length : Nat) : Int) = V.int (((dkv P).length : Nat) : Int))) (by rw [dkv_len, la2, lP, decide_eq_true rfl]; rfl) ?_⟩
    refine ⟨_, rfl, _, rfl, .ref tt2, .ref t2, _, rfl, Dp_pair ht3 (.lst (SqL.of eL3) dL3), Dp_same s13 hdue12, nt.1, nt.2, fun H14 s14' => ⟨_, rfl, iteF ?_⟩⟩
    have s1214 := s13.trans s14'
    refine ⟨_, rfl, tt, _, _, _, rfl, rfl, SqT.of (s1214 _ _ ht12), (rfl : atI [V.str toldW, V.ref L] 1 = some (V.ref L)), _, rfl, t2, _, _, _, rfl, rfl, SqT.of (s1214 _ _ e212), (rfl : atI [V.str toldW, V.ref D] 1 = some (V.ref D)), (by show 2 ≤ sizeLine; decide), fun c2 nc2 => ⟨(by show 1 ≤ sizeLine; decide), fun l2 nl2 => ?_⟩⟩
    have sc2 := same_new nc2 (.tup [V.str (Str.ofString ""), .int 0])
    have ec2 : upd H14 c2 (.tup [V.str (Str.ofString ""), .int 0]) c2 = some (.tup [.str (st []), .int 0]) := upd_same
    generalize upd H14 c2 (.tup [V.str (Str.ofString ""), .int 0]) = H15 at sc2 ec2 nl2
    have sl2 := same_new nl2 (.lst [V.ref c2])
    have el2 : upd H15 l2 (.lst [V.ref c2]) l2 = some (.lst [V.ref c2]) := upd_same
    generalize upd H15 l2 (.lst [V.ref c2]) = H16 at sl2 el2
    have s1216 := s1214.trans (sc2.trans sl2)
    have lac : acc.length = B.length := by rw [DpAll_len dD, List.length_map]
    refine ⟨D, l2, acc, [.ref c2], rfl, rfl, s1216 _ _ eD12, el2, smallZ (by simp; omega), fun M nM => ?_⟩
    have sM := same_new nM (.lst (acc ++ [V.ref c2]))
    have s1217 := s1216.trans sM
    have dM : DpAll K (upd H16 M (.lst (acc ++ [V.ref c2]))) (acc ++ [V.ref c2]) ((B ++ [([], 0)]).map rowD) := by
      rw [List.map_append]
      exact DpAll_app (DpAll_same s1217 dD12) (.cons (Dp_pair ((sl2.trans sM) _ _ ec2) (.int 0)) .nil)
    obtain ⟨pl3, pl4⟩ := rowsPlain (R := B ++ [([], 0)]) (by rw [List.length_append]; simp; omega)
    refine ⟨.ref L, .ref M, _, rfl, .lst (SqL.of (s1217 _ _ eL12)) (DpAll_same s1217 dL12), .lst (SqL.of upd_same) dM, pl3, by omega, fun H' s' => ?_⟩
    have s12' := s1217.trans s'
    exact q1 t3 H' (((Kp.of s011).trans k12).trans (Kp.of s12')) (s12' _ _ ekp) fun M' hM => ⟨L2, r, acc2, acc2, R, s12' _ _ et312, s12' _ _ eL212, s12' _ _ er12, DpAll_same s12' dL212, DpAll_same s12' dL212, fun z => hM L2 z (s08.free nL2), fun z => hM r z (s09.free nr), rl⟩
theorem ok_law {CTrail fT_init fT_size CNoName CNotThere CTooLong CTaken CTooMany CNothingDone CNoNote : Addr} {fdT_init fdT_size : FuncData} (F : Fun K "law" "law" slaw f fd) (TTr : TrTxt K mg CTrail fT_init) (G_T_init : FnOk P w K mg base CX0 1 fT_init fdT_init pT_init (spInit K CTrail)) (b_T_init : Binds K fdT_init pT_init [])
    (G_T_size : FnOk P w K mg base (L2.CX P w) 60 fT_size fdT_size pT_size (spSize K CTrail)) (b_T_size : Binds K fdT_size pT_size []) (M_T_size : Meth K CTrail "size" fT_size)
    (G_Lcell_at : Has P w K mg base "_law_cell_at" pLcell_at 1 (spCell K)) (G_Lword_by : Has P w K mg base "_law_word_by" pLword_by 2 (spWord)) (G_Lbegun : Has P w K mg base "_law_begun" pLbegun 130 (spBegun K CTrail)) (G_Lfirst_deeds : Has P w K mg base "_law_first_deeds" pLfirst_deeds 1 (spFirst))
    (G_Ltext_by : Has P w K mg base "_law_text_by" pLtext_by 3 (spTextBy K)) (G_Lother_by : Has P w K mg base "_law_other_by" pLother_by 4 (spTextBy K)) (G_Lnumber_by : Has P w K mg base "_law_number_by" pLnumber_by 1 (spNum)) (G_Ldue : Has P w K mg base "_law_due" pLdue 5 (spDue K))
    (G_Ltried : Has P w K mg base "_law_tried" pLtried 125 (spTried K CTrail CNoName CNotThere CTooLong CTaken CTooMany CNothingDone CNoNote)) (G_Lalike : Has P w K mg base "_law_alike" pLalike 11 (spAlikeB K 10)) (G_Ltells : Has P w K mg base "_law_tells" pLtells 130 (spTells K CTrail))
    (m_int : mg "int" = none) (m_enumerate : mg "enumerate" = none) (m_sorted : mg "sorted" = none) (m_len : mg "len" = none) (gM : ∃ t, mg "MOST_NAMES" = some (.int 100 t)) : FnOk P w K mg base CX0 140 f fd plaw (spLaw K) := by
  obtain ⟨tM, gM⟩ := gM
  refine F.ok claw (fun vs H Q E h => ?_) (fun cdv A outer s H vs Q E hr h => ?_)
  · obtain ⟨a, ns, rfl, _⟩ := h
    rfl
  obtain ⟨a, ns, rfl, hS, h63, q⟩ := h
  have e0 : ∀ {A B : Prop} {b : Bool}, (b = true → A) → (b = false → B) → if b = true then A else B := fun {A B b} h1 h2 => by cases b with | true => exact iteT (h1 rfl) | false => exact iteF (h2 rfl)
  refine ⟨_, (pss_cons (ps_set (i := 1) claw.nd rfl (Or.inl rfl) (pe_make0 TTr.mkC G_T_init (hr.mono (by omega)) (by rfl) TTr.mgC b_T_init .nil pass0))
    (pss_cons (ps_set (i := 2) claw.nd rfl (Or.inl rfl) (pe_lst pa_nil))
    (pss_cons (ps_set (i := 3) claw.nd rfl (Or.inl rfl) (pe_lst pa_nil))
    (pss_cons (ps_set (i := 4) claw.nd rfl (Or.inl rfl) (pe_op op_mod (pe_has G_Lcell_at hr (by omega) (pa_cons (pv 0) (pa_cons pe_int pa_nil))) pe_int))
    (pss_cons (ps_set (i := 5) claw.nd rfl (Or.inl rfl) (pe_op op_fdiv (pe_has G_Lcell_at hr (by omega) (pa_cons (pv 0) (pa_cons pe_int pa_nil))) pe_int))
    (pss_cons (ps_set (i := 6) claw.nd rfl (Or.inl rfl) (pe_has G_Lword_by hr (by omega) (pa_cons (pv 5) (pa_cons pe_int pa_nil))))
    (pss_cons (ps_set (i := 7) claw.nd rfl (Or.inl rfl) (pe_has G_Lbegun hr (by omega) (pa_cons (pv 1) (pa_cons (pv 2) (pa_cons (pv 4) (pa_cons (pv 6) (pa_cons (pe_op op_mod (pv 5) pe_int) pa_nil)))))))
    (pss_cons (ps_set (i := 8) claw.nd rfl (Or.inl rfl) (pe_has G_Lfirst_deeds hr (by omega) (pa_cons (pv 4) (pa_cons (pv 6) pa_nil))))
    (pss_cons (ps_set (i := 9) claw.nd rfl (Or.inl rfl) (pe_ix (r := rIxL K) ix_list (pe_lst (pa_cons pe_int (pa_cons pe_int pa_nil))) (pe_callTy call_int1 (by rfl) m_int (by decide +kernel) (pa_cons (pe_cmpR op_eq (pv 4) pe_int (nomark _)) pa_nil)) (fun _ _ => rfl)))
    (pss_cons (ps_for PassesOwn.never rfl (pi_enum (by rfl) m_enumerate (pa_cons (pe_slice sl_list (pv 0) (po_some pe_int) (po_some (pe_op op_add pe_int (pv 9)))) pa_nil)) (pg_tup (by rfl) (pgs_cons (pg_name (i := 10) claw.nd rfl (Or.inl rfl)) (pgs_cons (pg_name (i := 11) claw.nd rfl (Or.inl rfl)) pgs_nil))) (pss_cons (ps_set (i := 12) claw.nd rfl (Or.inl rfl) (pe_callB (cr_sortedDS (by rfl) (room_units hr)) (by rfl) m_sorted (by decide +kernel) (pa_cons (pv 7) pa_nil)))
    (pss_cons (ps_set (i := 13) claw.nd rfl (Or.inl rfl) (pe_ix (r := rIxL K) ix_list (pe_lst (pa_cons pe_int (pa_cons pe_int (pa_cons pe_int (pa_cons pe_int (pa_cons pe_int (pa_cons pe_int (pa_cons pe_int (pa_cons pe_int (pa_cons pe_int (pa_cons pe_int pa_nil))))))))))) (pe_op op_mod (pv 11) pe_int) (fun _ _ => rfl)))
    (pss_cons (ps_set (i := 14) claw.nd rfl (Or.inl rfl) (pe_has G_Ltext_by hr (by omega) (pa_cons (pe_op op_fdiv (pv 11) pe_int) (pa_cons (pv 12) pa_nil))))
    (pss_cons (ps_set (i := 15) claw.nd rfl (Or.inl rfl) (pe_has G_Lother_by hr (by omega) (pa_cons (pv 11) (pa_cons (pv 12) pa_nil))))
    (pss_cons (ps_set (i := 16) claw.nd rfl (Or.inl rfl) (pe_has G_Lnumber_by hr (by omega) (pa_cons (pe_op op_fdiv (pv 11) pe_int) pa_nil)))
    (C8.pss_cut (ps_if (pt_cmpR op_lt (pv 10) (pe_callB call_len_seq (by rfl) m_len (by decide +kernel) (pa_cons (pv 8) pa_nil)) (nomark _)) (pss_one (ps_asg (pe_ix (r := rIxL K) ix_list (pv 8) (pv 10) (fun _ _ => rfl)) (pg_tup (by rfl) (pgs_cons (pg_name (i := 13) claw.nd rfl (Or.inl rfl)) (pgs_cons (pg_name (i := 14) claw.nd rfl (Or.inl rfl)) (pgs_cons (pg_name (i := 15) claw.nd rfl (Or.inl rfl)) pgs_nil)))))) pss_nil)
    (C8.pss_cut (ps_if (PW.pt (pw_and (pt_cmpR (op_dIn (hu1 hr.units)) (pv 14) (pv 7) (by rfl)) (pw_and1 (PW.pt (pw_or (pt_cmpR op_lt (pv 10) (pe_callB call_len_seq (by rfl) m_len (by decide +kernel) (pa_cons (pv 8) pa_nil)) (nomark _)) (pw_or1 (pt_cmpR op_eq (pe_op op_mod (pe_op op_fdiv (pv 11) pe_int) pe_int) pe_int (nomark _)))))))) (pss_one (ps_set (i := 16) claw.nd rfl (Or.inl rfl) (pe_dget (hu1 hr.units) (pv 7) (pv 14) (fun _ _ => rfl)))) pss_nil)
    (pss_cons (ps_set (i := 17) claw.nd rfl (Or.inl rfl) (pe_has G_Ldue hr (by omega) (pa_cons (pv 7) (pa_cons (pv 13) (pa_cons (pv 14) (pa_cons (pv 15) (pa_cons (pv 16) pa_nil)))))))
    (C8.pss_cut (ps_if (pt_cmpR op_eq (pv 13) pe_int (nomark _)) (pss_cons (ps_set (i := 17) claw.nd rfl (Or.inl rfl) (pe_tup (pa_cons pe_str (pa_cons pe_bl (pa_cons (pv 7) pa_nil)))))
    (pss_one (ps_if (pt_cmpR (op_neE hr.units0) (pv 2) (pe_lst pa_nil) (nomark _)) (pss_one (ps_set (i := 17) claw.nd rfl (Or.inl rfl) (pe_tup (pa_cons pe_str (pa_cons pe_non (pa_cons (pe_bm0 PySem.F.plainAttrs_list PySem.F.slot_list_pop PySem.F.type_list_pop mt_pop (pv 2)) pa_nil)))))) pss_nil))) (pss_one (ps_if (pt_cmpR op_eq (pe_ix (r := rIxT K) ix_tup (pv 17) pe_int (fun _ _ => rfl)) pe_str (nomark _)) (pss_one (ps_expr (pe_bm PySem.F.plainAttrs_list PySem.F.slot_list_append PySem.F.type_list_append mt_append (pv 2) (pa_cons (pv 7) pa_nil)))) pss_nil)))
    (pss_cons (ps_if (pt_not (pt_val (pe_has G_Lalike hr (by omega) (pa_cons (pe_has G_Ltried hr (by omega) (pa_cons (pv 1) (pa_cons (pv 13) (pa_cons (pv 14) (pa_cons (pv 15) (pa_cons (pv 16) pa_nil)))))) (pa_cons (pe_slice sl_tup (pv 17) po_none (po_some pe_int)) pa_nil))))) (pss_one (ps_ret pe_bl)) pss_nil)
    (pss_cons (ps_set (i := 7) claw.nd rfl (Or.inl rfl) (pe_ix (r := rIxT K) ix_tup (pv 17) pe_int (fun _ _ => rfl)))
    (pss_cons (ps_set (i := 18) claw.nd rfl (Or.inl rfl) (pe_has G_Ltext_by hr (by omega) (pa_cons (pe_op op_mod (pe_op op_mul (pv 11) pe_int) pe_int) (pa_cons (pe_callB (cr_sortedDS (by rfl) (room_units hr)) (by rfl) m_sorted (by decide +kernel) (pa_cons (pv 7) pa_nil)) pa_nil))))
    (C8.pss_cut (ps_if (PW.pt (pw_and (pt_cmpR op_eq (pe_op op_mod (pe_op op_fdiv (pv 11) pe_int) pe_int) pe_int (nomark _)) (pw_and1 (pt_not (pt_val (pe_has G_Lalike hr (by omega) (pa_cons (pe_meth0 (E := E0) (pv 1) TTr.cl M_T_size G_T_size (hr.mono (by omega)) b_T_size .nil passL) (pa_cons (pe_callB call_lenD (by rfl) m_len (by decide +kernel) (pa_cons (pv 7) pa_nil)) pa_nil)))))))) (pss_one (ps_ret pe_bl)) pss_nil)
    (pss_one (ps_if (PW.pt (pw_or (pt_not (pt_val (pe_has G_Ltells hr (by omega) (pa_cons (pv 1) (pa_cons (pv 18) (pa_cons (pv 7) (pa_cons (pv 3) pa_nil))))))) (pw_or1 (pt_not (pt_val (pe_has G_Lalike hr (by omega) (pa_cons (pe_meth0 (E := E0) (pv 1) TTr.cl M_T_size G_T_size (hr.mono (by omega)) b_T_size .nil passL) (pa_cons (pe_callB call_lenD (by rfl) m_len (by decide +kernel) (pa_cons (pv 7) pa_nil)) pa_nil)))))))) (pss_one (ps_ret pe_bl)) pss_nil))))))))))))))))
    (pss_one (ps_ret (pe_and (pe_cmpR op_eq (pe_glob (v := .int 100) (by rfl) gM ⟨_, rfl⟩) pe_int (nomark _)) (pe_one (pe_cmpR (op_eqD hr.units) (pe_lc (own := [("_law_pair", 19)]) (g := gName 19) (by rfl) claw.nd (pi_list (pv 3)) (blkOk_by (own := [("_law_pair", 19)]) (N := ["_law_script", "_law_trail", "_law_past", "_law_kept", "_law_begin", "_law_more", "_law_word", "_law_plain", "_law_first", "_law_size", "_law_at", "_law_cell", "_law_held", "_law_way", "_law_one", "_law_other", "_law_number", "_law_due_here", "_law_start", "_law_pair"]) (sc := defScope slaw) (by decide +kernel)) (fun _ _ _ _ _ => pg_name (i := 19) claw.nd rfl (Or.inl rfl)) (fun _ _ _ _ _ => (pts_one (pt_not (pt_val (pe_has G_Lalike hr (by omega) (pa_cons (pe_ix (r := rIxT K) ix_tup (pv 19) pe_int (fun _ _ => rfl)) (pa_cons (pe_ix (r := rIxT K) ix_tup (pv 19) pe_int (fun _ _ => rfl)) pa_nil))))))) (fun _ _ _ _ _ => (pv 19))) (pe_lst pa_nil) (nomark _)))))))))))))))), ?_⟩
  -- a trail, the past, what is kept
  intro x dx nx nd nex
  have s0 : Same H (upd (upd H dx (.own x)) x (.ins CTrail dx [])) := fun b o e => by
    rw [upd_ne (ne_of_none e nx), upd_ne (ne_of_none e nd)]; exact e
  refine ⟨x, dx, rfl, upd_same, fun l H1 nl keep0 tr0 => ⟨rfl, ?_⟩⟩
  have s1 : Same H H1 := fun b o e => keep0 b o (ne_of_none e nx) (s0 b o e)
  have nl0 : H l = none := s0.free nl
  refine ⟨(by show 0 ≤ sizeLine; decide), fun pa npa => ?_⟩
  have sp := same_new npa (.lst [])
  have ep : upd H1 pa (.lst []) pa = some (.lst []) := upd_same
  generalize upd H1 pa (.lst []) = H2 at sp ep
  refine ⟨(by show 0 ≤ sizeLine; decide), fun kp nkp => ?_⟩
  have sk := same_new nkp (.lst [])
  have ek : upd H2 kp (.lst []) kp = some (.lst []) := upd_same
  generalize upd H2 kp (.lst []) = H3 at sk ek
  obtain ⟨v1, a1, f1, f2, _⟩ := id tr0
  have nlp : l ≠ pa := ne_of_none f2 npa
  have nlk : l ≠ kp := ne_of_none (sp _ _ f2) nkp
  have npk : pa ≠ kp := ne_of_none ep nkp
  have nxk : x ≠ kp := ne_of_none (sp _ _ f1) nkp
  have s13 := sp.trans sk
  have s3 := s1.trans s13
  have tr3 := tr0.same s13
  have ep3 := sk _ _ ep
  have npa0 : H pa = none := s1.free npa
  -- the first cell
  refine ⟨_, rfl, a, ns, _, rfl, s3.seq hS, by decide, _, _, rfl, rfl, (by show (0 : Int) < 8; decide), ?_⟩
  refine ⟨_, rfl, a, ns, _, rfl, s3.seq hS, by decide, _, _, rfl, rfl, ⟨by decide, by decide⟩, ?_⟩
  generalize cell ns 0 = g
  refine ⟨_, rfl, _, _, rfl, by decide, by decide, fun H4 s4 => ?_⟩
  have wl : (word (g / 8) 40).length = 40 := word_len _ _
  have wt : ∀ c ∈ word (g / 8) 40, c ∈ signTab := word_tab _ _
  rw [show word ((fun (i j : Int) => i / j) g 8) 40 = word (g / 8) 40 from rfl]
  generalize word (g / 8) 40 = wd at wl wt
  have s04 := s3.trans s4
  refine ⟨_, rfl, _, rfl, _, rfl, _, rfl, _, rfl, _, _, rfl, rfl, (by show (0 : Int) < 4; decide), x, dx, l, pa, _, _, wd, rfl, tr3.same s4, s4 _ _ ep3, nlp, (by show 0 ≤ g / 8 % 4; omega), (by show g / 8 % 4 ≤ 3; omega), wl, wt, fun o ps us pd H5 k5 tr5 g5 gp5 pl5 hp5 pst5 hd5 => ?_⟩
  have s05 : Same H H5 := fun b u e => k5 b u (by simp only [List.mem_cons, List.not_mem_nil, or_false, not_or]; exact ⟨ne_of_none e nx, ne_of_none e nl0, ne_of_none e npa0⟩) (s04 b u e)
  have hk5 : H5 kp = some (.lst []) := k5 _ _ (by simp only [List.mem_cons, List.not_mem_nil, or_false, not_or]; exact ⟨nxk.symm, nlk.symm, npk.symm⟩) (s4 _ _ ek)
  refine ⟨_, rfl, _, rfl, _, wd, rfl, wl, wt, fun fA fs H6 nfA s6 ef fl fok => ?_⟩
  -- how many
  refine ⟨(by show 2 ≤ sizeLine; decide), fun m nm => ⟨_, rfl, rfl, .inr ⟨_, rfl, ?_⟩⟩⟩
  obtain ⟨sz, hsz, hat⟩ : ∃ sz : Int, (0 ≤ sz ∧ sz ≤ 40) ∧ atI [V.int 40, V.int 8] (if decide (V.int (g % 8) = V.int 1) = true then 1 else 0) = some (.int sz) := by
    cases decide (V.int (g % 8) = V.int 1)
    · exact ⟨40, by decide, rfl⟩
    · exact ⟨8, by decide, rfl⟩
  refine ⟨m, _, _, _, rfl, rfl, SqL.of upd_same, hat, ?_⟩
  have sm := same_new nm (.lst [V.int 40, .int 8])
  generalize upd H6 m (.lst [V.int 40, .int 8]) = H7 at sm
  have s57 := s6.trans sm
  have s07 := s05.trans s57
  -- the cells
  refine ⟨_, rfl, 1, rfl, _, rfl, _, _, rfl, rfl, _, rfl, a, _, rfl, s07.seq hS, fun pS npS => ?_⟩
  have xl : (cutV (ns.map V.int) (some 1) (some (1 + sz))).length ≤ 63 := Nat.le_trans (cutV_length _ _ _) (by rw [List.length_map]; exact h63)
  have xm : ∀ z ∈ cutV (ns.map V.int) (some 1) (some (1 + sz)), ∃ c, z = .int c := fun z hz => by
    obtain ⟨c, _, e⟩ := List.mem_map.mp (List.mem_of_mem_drop (List.mem_of_mem_take hz))
    exact ⟨c, e.symm⟩
  generalize cutV (ns.map V.int) (some 1) (some (1 + sz)) = xs at xl xm
  have sS := same_new npS (.lst xs)
  have eS : upd H7 pS (.lst xs) pS = some (.lst xs) := upd_same
  generalize upd H7 pS (.lst xs) = H8 at sS eS
  have s58 := s57.trans sS
  obtain ⟨v5, a5, f5, f6, _⟩ := id tr5
  have st0 : Sta K CTrail x dx l pa kp fA pS fs xs H8 o ps us [] :=
    { tr := tr5.same s58, g := g5, gp := gp5, hp := s58 _ _ hp5, hk := s58 _ _ hk5, kep := fun k hk => by cases hk
      hf := (sm.trans sS) _ _ ef, fok := fok.same (sm.trans sS), hs := eS, n1 := nlp, n2 := nlk, n3 := npk
      nf := by
        simp only [List.mem_cons, List.not_mem_nil, or_false, not_or]
        exact ⟨(ne_of_none f6 nfA).symm, (ne_of_none hp5 nfA).symm, (ne_of_none hk5 nfA).symm⟩
      ns := by
        simp only [List.mem_cons, List.not_mem_nil, or_false, not_or]
        exact ⟨(ne_of_none (s57 _ _ f6) npS).symm, (ne_of_none (s57 _ _ hp5) npS).symm, (ne_of_none (s57 _ _ hk5) npS).symm⟩ }
  have pst8 := pst5.dk (DK.of s58)
  have hd8 := hd5.same s58
  refine ⟨pS, xs, rfl, SqL.of eS, for_it walk_enum (fun i σ H' => ∃ (o : Option Tr) (ps : List (Option Tr)) (us ks : List V) (d : Addr) (y10 y11 y12 y13 y14 y15 y16 y17 y18 : Option V), σ = [some (.ref a), some (.ref x), some (.ref pa), some (.ref kp), some (.int (g % 8)), some (.int (g / 8)), some (.str (st wd)), some (.ref d), some (.ref fA), some (.int sz), y10, y11, y12, y13, y14, y15, y16, y17, y18, none] ∧ Sta K CTrail x dx l pa kp fA pS fs xs H' o ps us ks ∧ Pst H' x us ps ∧ PD H' d (rO o) ∧ ps.length ≤ 20 + i ∧ ks.length ≤ i)
    ⟨o, ps, us, [], pd, none, none, none, none, none, none, none, none, none, rfl, st0, pst8, hd8, by omega, by simp⟩ (fun i σ H' _ h => by obtain ⟨_, _, _, _, _, _, _, _, _, _, _, _, _, _, _, h, _⟩ := h; exact SqL.of h.hs) (fun i z σ Hi H' hi h1 hy => ?_) (fun σ H' h1 => ?_)⟩
  · clear st0 pst8 hd8 s58 s57 s07 sS sm eS npS f5 f6 tr5 g5 gp5 pl5 hp5 pst5 hd5 hk5 k5 s05 s04 s4 tr3 ep3 s3 s13 nm ef fok fl s6 nfA
    obtain ⟨o, ps, us, ks, d, y10, y11, y12, y13, y14, y15, y16, y17, y18, rfl, sta, pst, pd', pl, kl⟩ := h1
    obtain ⟨T, z1, z2, rfl, nT, rfl, e1, hz⟩ := hy
    injection e1 with e1
    subst e1
    obtain ⟨c, rfl⟩ := xm z2 (List.mem_of_getElem? hz)
    have sT := same_new nT (.tup [V.int (i : Nat), .int c])
    refine ⟨T, _, rfl, SqT.of upd_same, rfl, _, _, rfl, _, _, rfl, rfl, ?_⟩
    generalize upd Hi T (.tup [V.int (i : Nat), .int c]) = H1' at sT
    have sta1 := sta.same sT
    have pst1 := pst.dk (DK.of sT)
    have pd1 := pd'.same sT
    clear pst pd'
    have rl := sta.g.2.2
    have gg := sta.g.2.1
    have nmx := nm_rows sta.g
    -- the texts
    refine ⟨_, rfl, ?_⟩
    dsimp only [tNil]
    refine sorted_held (K := K) pd1 rl fun p2 H2 s2 hD => ?_
    have s1' := s2
    refine ⟨(by show 10 ≤ sizeLine; decide), fun m2 nm2 => ?_⟩
    have sm2 := same_new nm2 (.lst [V.int 0, .int 0, .int 0, .int 1, .int 2, .int 3, .int 3, .int 4, .int 4, .int 5])
    obtain ⟨y, hy, hat2⟩ : ∃ y : Int, (0 ≤ y ∧ y ≤ 5) ∧ atI [V.int 0, .int 0, .int 0, .int 1, .int 2, .int 3, .int 3, .int 4, .int 4, .int 5] (c % 10) = some (.int y) := by
      have e : c % 10 = 0 ∨ c % 10 = 1 ∨ c % 10 = 2 ∨ c % 10 = 3 ∨ c % 10 = 4 ∨ c % 10 = 5 ∨ c % 10 = 6 ∨ c % 10 = 7 ∨ c % 10 = 8 ∨ c % 10 = 9 := by omega
      rcases e with e | e | e | e | e | e | e | e | e | e <;> (rw [e]; refine ⟨_, ?_, rfl⟩; decide)
    refine ⟨_, rfl, _, _, rfl, rfl, (by show (0 : Int) < 10; decide), m2, _, _, _, rfl, rfl, SqL.of upd_same, hat2, ?_⟩
    generalize upd H2 m2 (.lst [V.int 0, .int 0, .int 0, .int 1, .int 2, .int 3, .int 3, .int 4, .int 4, .int 5]) = H3 at sm2
    have hD3 := Dp_same sm2 hD
    refine ⟨_, rfl, _, _, rfl, rfl, ⟨by decide, by decide⟩, _, rfl, _, _, _, rfl, hD3, nmx, fun w1 H4 s4 tx1 => ?_⟩
    refine ⟨_, rfl, _, rfl, _, _, _, rfl, Dp_same s4 hD3, nmx, fun u1 H5 s5 ux1 => ?_⟩
    refine ⟨_, rfl, _, _, rfl, rfl, ⟨by decide, by decide⟩, _, rfl, fun H6 s6 => ?_⟩
    have s16 := (((s2.trans sm2).trans s4).trans s5).trans s6
    have sta6 := sta1.same s16
    have pst6 := pst1.dk (DK.of s16)
    have pd6 := pd1.same s16
    have nb := numOf_lt (c / 30)
    generalize numOf (c / 30) = n1 at nb
    clear s1' s16 s2 sm2 s4 s5 s6 hD hD3 nm2 hat2 sT sta sta1 pst1 pd1 nT
    -- the told ones
    refine ⟨fun σ' H' => ∃ (way : Int) (w u : V), σ' = [some (.ref a), some (.ref x), some (.ref pa), some (.ref kp), some (.int (g % 8)), some (.int (g / 8)), some (.str (st wd)), some (.ref d), some (.ref fA), some (.int sz), some (.int (i : Nat)), some (.int c), some (.ref p2), some (.int way), some w, some u, some (.int n1), y17, y18, none] ∧ H' = H6 ∧ 0 ≤ way ∧ way ≤ 5 ∧ Tx w ∧ Tx u, ?_, ?_⟩
    · refine ⟨_, rfl, _, rfl, fA, fs, rfl, .inl (SqL.of sta6.hf), _, _, rfl, rfl, _, rfl, ?_⟩
      by_cases hlt : i < fs.length
      · refine ify (by show ((i : Nat) : Int) < ((fs.length : Nat) : Int); omega) ?_
        have ei := List.getElem?_eq_getElem hlt
        obtain ⟨t, way, w2, u2, e, ht, h0, h4, x1, x2⟩ := sta6.fok _ (List.mem_of_getElem? ei)
        exact ⟨_, rfl, _, rfl, fA, fs, _, _, rfl, rfl, SqL.of sta6.hf, atI_nat ei, t, _, e, SqT.of ht, rfl, _, _, rfl, _, _, rfl, _, _, rfl, rfl, way, w2, u2, rfl, rfl, h0, by omega, x1, x2⟩
      · exact ifn (by show ¬ ((i : Nat) : Int) < ((fs.length : Nat) : Int); omega) ⟨y, w1, u1, rfl, rfl, hy.1, hy.2, tx1, ux1⟩
    clear hy tx1 ux1
    rintro σ' H' ⟨way, w', u, rfl, rfl, w0, w5, tx, ux⟩
    obtain ⟨P, eP, up, pm⟩ := id pd6
    -- a number of its own
    refine ⟨fun σ' H'' => ∃ n : Int, σ' = [some (.ref a), some (.ref x), some (.ref pa), some (.ref kp), some (.int (g % 8)), some (.int (g / 8)), some (.str (st wd)), some (.ref d), some (.ref fA), some (.int sz), some (.int (i : Nat)), some (.int c), some (.ref p2), some (.int way), some w', some u, some (.int n), y17, y18, none] ∧ H'' = H' ∧ n.natAbs < 10 ^ 60, ?_, ?_⟩
    · rcases tx with ⟨x0, rfl, _⟩ | rfl | rfl
      · have gt := get_of (.inl eP) up pm x0
        cases hl : lkp (rO o) x0 with
        | none =>
          rw [hl] at gt
          exact ⟨_, rfl, _, rfl, d, rfl, .inl ⟨_, gt, _, rfl, iteF ⟨n1, rfl, rfl, nb⟩⟩⟩
        | some k =>
          rw [hl] at gt
          have kb : k.natAbs < 10 ^ 60 := (gg.2.2 _ ((lkp_iff (upNames up)).mp hl)).2.2
          refine ⟨_, rfl, _, rfl, d, rfl, .inl ⟨_, gt, _, rfl, iteT ?_⟩⟩
          refine ⟨_, rfl, _, rfl, fA, fs, rfl, .inl (SqL.of sta6.hf), _, _, rfl, rfl, _, rfl, e0 (fun _ => iteT ⟨_, rfl, _, rfl, d, _, rfl, gt, k, rfl, rfl, kb⟩) (fun _ => ?_)⟩
          exact ⟨_, rfl, _, _, rfl, rfl, ⟨by decide, by decide⟩, _, _, rfl, rfl, (by show (0 : Int) < 2; decide), rfl, _, rfl, e0 (fun _ => ⟨_, rfl, _, rfl, d, _, rfl, gt, k, rfl, rfl, kb⟩) (fun _ => ⟨n1, rfl, rfl, nb⟩)⟩
      · exact ⟨_, rfl, _, rfl, d, rfl, .inr ⟨rfl, ⟨_, .inl eP⟩, _, rfl, iteF ⟨n1, rfl, rfl, nb⟩⟩⟩
      · exact ⟨_, rfl, _, rfl, d, rfl, .inl ⟨none, .inl ⟨dkv P, Sum.inl 7, .inl eP, rfl, (dkv_int P 7).symm⟩, _, rfl, iteF ⟨n1, rfl, rfl, nb⟩⟩⟩
    clear nb
    rintro σ' H6 ⟨n, rfl, rfl, nb⟩
    obtain ⟨t, tw⟩ := tx.thg (K := K) (H := H6)
    obtain ⟨t2, tu⟩ := ux.thg (K := K) (H := H6)
    -- what is due
    refine ⟨_, rfl, _, rfl, _, rfl, _, rfl, _, rfl, d, way, n, w', u, t, t2, rO o, rfl, pd6, gg, rl, tx, ux, tw, tu, w0, w5, fun W v d' R' tD H7 s7 eD pdd du => ?_⟩
    have sta7 := sta6.same s7
    have pst7 := pst6.dk (DK.of s7)
    have pd7 := pd6.same s7
    have lus := pst7.len
    clear sta6 pst6 pd6 eP
    refine ⟨fun σ' H' => ∃ (us2 : List V) (W : Str) (v : V) (d' tD : Addr), σ' = [some (.ref a), some (.ref x), some (.ref pa), some (.ref kp), some (.int (g % 8)), some (.int (g / 8)), some (.str (st wd)), some (.ref d), some (.ref fA), some (.int sz), some (.int (i : Nat)), some (.int c), some (.ref p2), some (.int way), some w', some u, some (.int n), some (.ref tD), y18, none] ∧ H' tD = some (.tup [.str W, v, .ref d']) ∧ Sta K CTrail x dx l pa kp fA pS fs xs H' o ps us2 ks ∧ Wait H' x way n t t2 o ps us2 d' W v, ?_, ?_⟩
    · by_cases h5 : way = 5
      · refine ⟨_, rfl, rfl, _, rfl, ify (by rw [h5]) ⟨_, rfl, (by show 3 ≤ sizeLine; decide), fun t5 nt5 => ?_⟩⟩
        have s5 := same_new nt5 (.tup [V.str (Str.ofString "nothing done"), .bl true, .ref d])
        have e5 : upd H7 t5 (.tup [V.str (Str.ofString "nothing done"), .bl true, .ref d]) t5 = some (.tup [V.str (exWord 5), .bl true, .ref d]) := upd_same
        generalize upd H7 t5 (.tup [V.str (Str.ofString "nothing done"), .bl true, .ref d]) = H8 at s5 e5
        have sta8 := sta7.same s5
        have pst8 := pst7.dk (DK.of s5)
        have pd8 := pd7.same s5
        refine ⟨_, rfl, (by show 0 ≤ sizeLine; decide), fun l0 nl0 => ⟨pa, l0, us, rfl, rfl, SqL.of (same_new nl0 _ _ _ sta8.hp), SqL.of upd_same, _, rfl, ?_⟩⟩
        have s6 := same_new nl0 (.lst [])
        have e6 := s6 _ _ e5
        have sta9 := sta8.same s6
        have pst9 := pst8.dk (DK.of s6)
        have pd9 := pd8.same s6
        generalize upd H8 l0 (.lst []) = H9 at s6 e6 sta9 pst9 pd9
        rcases List.eq_nil_or_concat ps with rfl | ⟨qs, pl0, ec⟩
        · have us0 : us = [] := List.length_eq_zero_iff.mp lus
          subst us0
          exact iteF ⟨[], exWord 5, .bl true, d, t5, rfl, e6, sta9, .inr (.inl ⟨h5, rfl, rfl, rfl, pd9, pst9⟩)⟩
        · rw [List.concat_eq_append] at ec
          subst ec
          obtain ⟨us', dq, rfl, pq, pdq, nq⟩ := pst9.last
          have ne : (!(us' ++ [V.ref dq]).isEmpty) = true := by cases us' <;> rfl
          rw [ne]
          refine iteT ⟨_, rfl, .inl ⟨rfl, _, SqL.of sta9.hp⟩, pa, _, .ref dq, rfl, rfl, sta9.hp, by simp, ?_⟩
          rw [List.dropLast_concat]
          obtain ⟨sta10, cg⟩ := sta9.past (us' := us')
          refine ⟨(by show 3 ≤ sizeLine; decide), fun t6 nt6 => ⟨us', toldW, .non, dq, t6, rfl, upd_same, sta10.same (same_new nt6 _), .inr (.inr ⟨h5, qs, pl0, rfl, rfl, rfl, (pdq.chg cg).same (same_new nt6 _), (pq.chg cg).dk (DK.of (same_new nt6 _))⟩)⟩⟩
      · have du := du h5
        have w4 : way ≤ 4 := by omega
        refine ⟨_, rfl, rfl, _, rfl, ifn (fun z => h5 (V.int.inj z)) ⟨_, rfl, tD, _, _, _, rfl, rfl, SqT.of eD, (rfl : atI [V.str W, v, V.ref d'] 0 = some (V.str W)), rfl, _, rfl, ?_⟩⟩
        by_cases hW : W = toldW
        · refine ify (by rw [hW]; rfl) ⟨_, rfl, .inl ⟨rfl, _, SqL.of sta7.hp⟩, _, rfl, pa, us, .ref d, rfl, rfl, sta7.hp, small1000' (by omega), ?_⟩
          obtain ⟨sta8, cg⟩ := sta7.past (us' := us ++ [.ref d])
          obtain ⟨fx, ex⟩ := sta7.xi
          have ndx : d ≠ x := fun z => by
            obtain ⟨P', e', _⟩ := pd7
            rw [z, ex] at e'; cases e'
          exact ⟨_, W, v, d', tD, rfl, cg.1.1 _ _ eD, sta8, .inl ⟨w0, w4, R', du, pdd.chg cg, .inl ⟨hW, (pst7.snoc (p := o) pd7 ndx).chg cg⟩⟩⟩
        · exact ifn (fun z => hW (V.str.inj z)) ⟨_, W, v, d', tD, rfl, eD, sta7, .inl ⟨w0, w4, R', du, pdd, .inr ⟨hW, pst7⟩⟩⟩
    clear sta7 pst7 pd7 lus eD pdd du
    rintro σ' H8 ⟨us2, W, v, d', tD, rfl, eD, sta, wait⟩
    have i63 : i < 63 := by omega
    -- the deed
    refine ⟨_, rfl, _, rfl, _, rfl, _, rfl, _, rfl, tried_all (E := E0) (c6 := CNoNote) sta.tr sta.g sta.gp (by omega) (thg_tx tx tw H8) (thg_tx ux tu H8) nb wait fun o' ps' H9 tt f9 tr' g' gp' pl' ht pdd pst' ⟨dv, hdv, pb, dp⟩ => ?_⟩
    have cg : Chg [l, pa, kp] H8 H9 := Chg.fr sta.tr (by simp) f9
    have sta9 := sta.deed f9 tr' g' gp'
    have pst9 := pst'.chg cg
    have pd9 := pdd.chg cg
    have eD9 := cg.1.1 _ _ eD
    clear sta wait pst' pdd eD tr' gp' f9 cg
    refine ⟨_, rfl, 2, rfl, tD, _, rfl, SqT.of eD9, (by show ¬ (HT.sIx 3 0 none = 0 ∧ HT.sIx 3 3 (some 2) = 3); decide), fun cc ncc => ?_⟩
    have scc := same_new ncc (.tup (cutV [V.str W, v, V.ref d'] none (some 2)))
    have ecc : upd H9 cc (.tup (cutV [V.str W, v, V.ref d'] none (some 2))) cc = some (.tup [.str W, v]) := upd_same
    generalize upd H9 cc (.tup (cutV [V.str W, v, V.ref d'] none (some 2))) = H10 at scc ecc
    have nt := two_plain (W := W) pb dp
    refine ⟨.ref tt, .ref cc, _, rfl, Dp_pair (scc _ _ ht) (hdv _), Dp_pair ecc (hdv _), nt.1, nt.2, fun H11 s11 => ⟨_, rfl, iteF ?_⟩⟩
    have s911 := scc.trans s11
    refine ⟨_, rfl, tD, _, _, _, rfl, rfl, SqT.of (s911 _ _ eD9), (rfl : atI [V.str W, v, V.ref d'] 2 = some (V.ref d')), ?_⟩
    have sta11 := sta9.same s911
    have pst11 := pst9.dk (DK.of s911)
    have pd11 := pd9.same s911
    clear sta9 pst9 pd9 eD9 scc ecc s11 s911 ht
    -- what is told
    refine ⟨_, rfl, _, _, rfl, rfl, .inr ⟨by decide, by decide⟩, _, _, rfl, rfl, (by show (0 : Int) < 2147483399; decide), _, rfl, ?_⟩
    dsimp only [tNil]
    refine sorted_held (K := K) pd11 g'.2.2 fun p3 H12 s12 hD3 => ⟨_, _, _, rfl, hD3, nm_rows g', fun ws H13 s13 wx => ?_⟩
    have s1113 := s12.trans s13
    have sta13 := sta11.same s1113
    have pst13 := pst11.dk (DK.of s1113)
    have pd13 := pd11.same s1113
    clear sta11 pst11 pd11 s12 s13 s1113 hD3
    obtain ⟨tws, hws⟩ := wx.thg (K := K) (H := H13)
    refine ⟨fun σ' H' => σ' = [some (.ref a), some (.ref x), some (.ref pa), some (.ref kp), some (.int (g % 8)), some (.int (g / 8)), some (.str (st wd)), some (.ref d'), some (.ref fA), some (.int sz), some (.int (i : Nat)), some (.int c), some (.ref p2), some (.int way), some w', some u, some (.int n), some (.ref tD), some ws, none] ∧ Same H13 H', ?_, ?_⟩
    · refine ⟨_, rfl, _, _, rfl, rfl, ⟨by decide, by decide⟩, _, _, rfl, rfl, (by show (0 : Int) < 2; decide), rfl, _, rfl, e0 (fun _ => ?_) (fun _ => iteF ⟨rfl, Same.refl _⟩)⟩
      obtain ⟨vv, aa, ex, _⟩ := id sta13.tr
      refine ⟨_, rfl, x, dx, _, rfl, ex, rfl, x, dx, l, o', ps', rfl, sta13.tr, g', fun H14 s14 => ?_⟩
      obtain ⟨P', eP', up', pm'⟩ := pd13.same s14
      refine ⟨_, rfl, d', dkv P', rfl, eP', .int ((rO o').length : Nat), .int ((dkv P').length : Nat), .int ((rO o').length : Nat), rfl, .int _, (by rw [dkv_len, ← pm'.length_eq]; exact .int _), rfl, (by show 1 ≤ 10; decide), fun H15 s15 => ⟨_, rfl, iteF ⟨rfl, s14.trans s15⟩⟩⟩
    rintro σ' H14 ⟨rfl, s14⟩
    have sta14 := sta13.same s14
    have pst14 := pst13.dk (DK.of s14)
    have pd14 := pd13.same s14
    clear sta13 pst13 pd13
    refine ⟨_, rfl, _, rfl, _, rfl, _, rfl, x, dx, l, d', kp, ws, tws, o', ps', ks, rfl, sta14.tr, g', wx, hws.same s14, pd14, sta14.hk, sta14.n2, by omega, fun H15 s15 => ?_, fun k H15 kk hk' ke => ?_⟩
    · have sta15 := sta14.same s15
      have pst15 := pst14.dk (DK.of s15)
      have pd15 := pd14.same s15
      obtain ⟨vv, aa, ex, _⟩ := id sta15.tr
      refine ⟨_, rfl, iteF ⟨_, rfl, x, dx, _, rfl, ex, rfl, x, dx, l, o', ps', rfl, sta15.tr, g', fun H16 s16 => ?_⟩⟩
      obtain ⟨P', eP', up', pm'⟩ := pd15.same s16
      exact ⟨_, rfl, d', dkv P', rfl, eP', .int ((rO o').length : Nat), .int ((dkv P').length : Nat), .int ((rO o').length : Nat), rfl, .int _, (by rw [dkv_len, ← pm'.length_eq]; exact .int _), rfl, (by show 1 ≤ 10; decide), fun H17 s17 => ⟨_, rfl, iteF ⟨o', ps', us2, ks, d', _, _, _, _, _, _, _, _, _, rfl, sta15.same (s16.trans s17), pst15.dk (DK.of (s16.trans s17)), pd15.same (s16.trans s17), by omega, by omega⟩⟩⟩
    · obtain ⟨sta15, cg⟩ := sta14.told kk hk' ke
      have pst15 := pst14.chg cg
      have pd15 := pd14.chg cg
      obtain ⟨vv, aa, ex, _⟩ := id sta15.tr
      refine ⟨_, rfl, iteF ⟨_, rfl, x, dx, _, rfl, ex, rfl, x, dx, l, o', ps', rfl, sta15.tr, g', fun H16 s16 => ?_⟩⟩
      obtain ⟨P', eP', up', pm'⟩ := pd15.same s16
      exact ⟨_, rfl, d', dkv P', rfl, eP', .int ((rO o').length : Nat), .int ((dkv P').length : Nat), .int ((rO o').length : Nat), rfl, .int _, (by rw [dkv_len, ← pm'.length_eq]; exact .int _), rfl, (by show 1 ≤ 10; decide), fun H17 s17 => ⟨_, rfl, iteF ⟨o', ps', us2, _, d', _, _, _, _, _, _, _, _, _, rfl, sta15.same (s16.trans s17), pst15.dk (DK.of (s16.trans s17)), pd15.same (s16.trans s17), by omega, (by rw [List.length_append]; simp; omega)⟩⟩⟩
  · obtain ⟨o, ps, us, ks, d, y10, y11, y12, y13, y14, y15, y16, y17, y18, rfl, sta, _, _, _, kl⟩ := h1
    have hk := sta.hk
    have kep := sta.kep
    have k64 : ks.length ≤ 63 := by omega
    refine ⟨rfl, true, rfl, iteT ?_⟩
    refine ⟨_, rfl, kp, rfl, ⟨_, SqL.of hk⟩, fun D nD => lc_list (K := K) (xs := ks) (fun _ H'' => Same H' H'' ∧ H'' D = some (.lst [])) ⟨same_new nD _, upd_same⟩ (fun _ _ _ h => SqL.of (h.1 _ _ hk)) (fun j z H1' hz h1 => ?_) (fun H1' h1 => ?_)⟩
    · obtain ⟨s1', e1'⟩ := h1
      obtain ⟨k, rfl, ka, kb, accA, accB, R, h1, h2, h3, h4, h5, _, _, h8⟩ := kep z (List.mem_of_getElem? hz)
      obtain ⟨pp1, pp2⟩ := rowsPlain (R := R) (by omega)
      refine ⟨rfl, _, rfl, k, _, _, _, rfl, rfl, SqT.of (s1' _ _ h1), (rfl : atI [V.ref ka, V.ref kb] 0 = some (V.ref ka)), _, rfl, k, _, _, _, rfl, rfl, SqT.of (s1' _ _ h1), (rfl : atI [V.ref ka, V.ref kb] 1 = some (V.ref kb)), ?_⟩
      refine ⟨.ref ka, .ref kb, _, rfl, .lst (SqL.of (s1' _ _ h2)) (DpAll_same s1' h4), .lst (SqL.of (s1' _ _ h3)) (DpAll_same s1' h5), pp1, by omega, fun H2' s2' => ⟨_, rfl, iteF ⟨s1'.trans s2', s2' _ _ e1'⟩⟩⟩
    · obtain ⟨s1', e1'⟩ := h1
      refine ⟨(by show 0 ≤ sizeLine; decide), fun l2 nl2 => ⟨.list [], .list [], .lst (SqL.of (same_new nl2 _ _ _ e1')) .nil, .lst (SqL.of upd_same) .nil, rfl, rfl, q _⟩⟩
end
end RT
namespace RT
open PySem PySem.Spec PyProof.Rows L2
theorem all_ok {l : PySem.W.OpenLaw} {w : World} {K : PySem.W.Frag} {mg : Str → Option Value} {fa f10 f11 f12 f13 f17 f18 f19 f20 f22 f23 f24 f25 f26 f27 f29 f30 f31 f32 f33 f35 f36 f37 f41 f42 f43 f45 f46 f47 f48 f49 f50 f51 f52 f53 f54 f55 f56 f57 f58 f59 f60 f61 CT CNoName CNotThere CTaken CTooLong CTooMany CNoNote CNothingDone CTrail fT_init fT_keep fT_drop fT_prune fT_move fT_graft fT_back fT_told fT_tree fT_size fT_do : Addr} (hfa : mg "law" = some (.ref fa))
    (h10 : ∃ fd, DefAt K mg "inner_of" sinner_of f10 fd)
    (h11 : ∃ fd, DefAt K mg "placed" splaced f11 fd)
    (h12 : ∃ fd, DefAt K mg "branches_behind" sbranches_behind f12 fd)
    (h13 : ∃ fd, DefAt K mg "replaced" sreplaced f13 fd)
    (h17 : ∃ fd, DefAt K mg "is_name" sis_name f17 fd)
    (h18 : ∃ fd, DefAt K mg "_is_sign" sPis_sign f18 fd)
    (h19 : ∃ fd, DefAt K mg "common" scommon f19 fd)
    (h20 : ∃ fd, DefAt K mg "rest" srest f20 fd)
    (h22 : ∃ fd, DefAt K mg "found" sfound f22 fd)
    (h23 : ∃ fd, DefAt K mg "put" sput f23 fd)
    (h24 : ∃ fd, DefAt K mg "without" swithout f24 fd)
    (h25 : ∃ fd, DefAt K mg "_less" sPless f25 fd)
    (h26 : ∃ fd, DefAt K mg "ahead" sahead f26 fd)
    (h27 : ∃ fd, DefAt K mg "names" snames f27 fd)
    (h29 : ∃ fd, DefAt K mg "cut" scut f29 fd)
    (h30 : ∃ fd, DefAt K mg "joined" sjoined f30 fd)
    (h31 : ∃ fd, DefAt K mg "moved" smoved f31 fd)
    (h32 : ∃ fd, DefAt K mg "copied" scopied f32 fd)
    (h33 : ∃ fd, DefAt K mg "_parted" sPparted f33 fd)
    (h35 : ∃ fd, DefAt K mg "under" sunder f35 fd)
    (h36 : ∃ fd, DefAt K mg "many" smany f36 fd)
    (h37 : ∃ fd, DefAt K mg "_below" sPbelow f37 fd)
    (h41 : ∃ fd, DefAt K mg "_refuse_no_names" sPrefuse_no_names f41 fd)
    (h42 : ∃ fd, DefAt K mg "_refuse_long_names" sPrefuse_long_names f42 fd)
    (h43 : ∃ fd, DefAt K mg "_of_size" sPof_size f43 fd)
    (h45 : ∃ fd, DefAt K mg "_law_cell_at" sLcell_at f45 fd)
    (h46 : ∃ fd, DefAt K mg "_law_whole" sLwhole f46 fd)
    (h47 : ∃ fd, DefAt K mg "_law_sign_by" sLsign_by f47 fd)
    (h48 : ∃ fd, DefAt K mg "_law_word_by" sLword_by f48 fd)
    (h49 : ∃ fd, DefAt K mg "_law_number_by" sLnumber_by f49 fd)
    (h50 : ∃ fd, DefAt K mg "_law_alike" sLalike f50 fd)
    (h51 : ∃ fd, DefAt K mg "_law_text_by" sLtext_by f51 fd)
    (h52 : ∃ fd, DefAt K mg "_law_other_by" sLother_by f52 fd)
    (h53 : ∃ fd, DefAt K mg "_law_word_of" sLword_of f53 fd)
    (h54 : ∃ fd, DefAt K mg "_law_tried" sLtried f54 fd)
    (h55 : ∃ fd, DefAt K mg "_law_named" sLnamed f55 fd)
    (h56 : ∃ fd, DefAt K mg "_law_branch" sLbranch f56 fd)
    (h57 : ∃ fd, DefAt K mg "_law_due" sLdue f57 fd)
    (h58 : ∃ fd, DefAt K mg "_law_begun" sLbegun f58 fd)
    (h59 : ∃ fd, DefAt K mg "_law_first_deeds" sLfirst_deeds f59 fd)
    (h60 : ∃ fd, DefAt K mg "_law_tells" sLtells f60 fd)
    (h61 : ∃ fd, DefAt K mg "law" slaw f61 fd)
    (m_tuple : mg "tuple" = none)
    (m_len : mg "len" = none)
    (m_all : mg "all" = none)
    (m_isinstance : mg "isinstance" = none)
    (m_str : mg "str" = none)
    (m_ord : mg "ord" = none)
    (m_zip : mg "zip" = none)
    (m_int : mg "int" = none)
    (m_bool : mg "bool" = none)
    (m_range : mg "range" = none)
    (m_list : mg "list" = none)
    (m_ValueError : mg "ValueError" = none)
    (m_max : mg "max" = none)
    (m_sorted : mg "sorted" = none)
    (m_dict : mg "dict" = none)
    (m_enumerate : mg "enumerate" = none)
    (TNoName : ErrTxt K mg "NoName" CNoName CT)
    (TNotThere : ErrTxt K mg "NotThere" CNotThere CT)
    (TTaken : ErrTxt K mg "Taken" CTaken CT)
    (TTooLong : ErrTxt K mg "TooLong" CTooLong CT)
    (TTooMany : ErrTxt K mg "TooMany" CTooMany CT)
    (TNoNote : ErrTxt K mg "NoNote" CNoNote CT)
    (TNothingDone : ErrTxt K mg "NothingDone" CNothingDone CT)
    (TTr : TrTxt K mg CTrail fT_init)
    (hT_init : ∃ fd, MethAt K CTrail "__init__" "Trail.__init__" sT_init fT_init fd)
    (hT_keep : ∃ fd, MethAt K CTrail "keep" "Trail.keep" sT_keep fT_keep fd)
    (hT_drop : ∃ fd, MethAt K CTrail "drop" "Trail.drop" sT_drop fT_drop fd)
    (hT_prune : ∃ fd, MethAt K CTrail "prune" "Trail.prune" sT_prune fT_prune fd)
    (hT_move : ∃ fd, MethAt K CTrail "move" "Trail.move" sT_move fT_move fd)
    (hT_graft : ∃ fd, MethAt K CTrail "graft" "Trail.graft" sT_graft fT_graft fd)
    (hT_back : ∃ fd, MethAt K CTrail "back" "Trail.back" sT_back fT_back fd)
    (hT_told : ∃ fd, MethAt K CTrail "told" "Trail.told" sT_told fT_told fd)
    (hT_tree : ∃ fd, MethAt K CTrail "tree" "Trail.tree" sT_tree fT_tree fd)
    (hT_size : ∃ fd, MethAt K CTrail "size" "Trail.size" sT_size fT_size fd)
    (hT_do : ∃ fd, MethAt K CTrail "_do" "Trail._do" sT_do fT_do fd)
    (xNoName_NotThere : PySem.W.kitOne K (.ref CNoName) (.ref CNotThere) = some false)
    (xNoName_TooLong : PySem.W.kitOne K (.ref CNoName) (.ref CTooLong) = some false)
    (xNoName_Taken : PySem.W.kitOne K (.ref CNoName) (.ref CTaken) = some false)
    (xNoName_TooMany : PySem.W.kitOne K (.ref CNoName) (.ref CTooMany) = some false)
    (xNoName_NothingDone : PySem.W.kitOne K (.ref CNoName) (.ref CNothingDone) = some false)
    (xNoName_NoNote : PySem.W.kitOne K (.ref CNoName) (.ref CNoNote) = some false)
    (xNotThere_NoName : PySem.W.kitOne K (.ref CNotThere) (.ref CNoName) = some false)
    (xNotThere_TooLong : PySem.W.kitOne K (.ref CNotThere) (.ref CTooLong) = some false)
    (xNotThere_Taken : PySem.W.kitOne K (.ref CNotThere) (.ref CTaken) = some false)
    (xNotThere_TooMany : PySem.W.kitOne K (.ref CNotThere) (.ref CTooMany) = some false)
    (xNotThere_NothingDone : PySem.W.kitOne K (.ref CNotThere) (.ref CNothingDone) = some false)
    (xNotThere_NoNote : PySem.W.kitOne K (.ref CNotThere) (.ref CNoNote) = some false)
    (xTooLong_NoName : PySem.W.kitOne K (.ref CTooLong) (.ref CNoName) = some false)
    (xTooLong_NotThere : PySem.W.kitOne K (.ref CTooLong) (.ref CNotThere) = some false)
    (xTooLong_Taken : PySem.W.kitOne K (.ref CTooLong) (.ref CTaken) = some false)
    (xTooLong_TooMany : PySem.W.kitOne K (.ref CTooLong) (.ref CTooMany) = some false)
    (xTooLong_NothingDone : PySem.W.kitOne K (.ref CTooLong) (.ref CNothingDone) = some false)
    (xTooLong_NoNote : PySem.W.kitOne K (.ref CTooLong) (.ref CNoNote) = some false)
    (xTaken_NoName : PySem.W.kitOne K (.ref CTaken) (.ref CNoName) = some false)
    (xTaken_NotThere : PySem.W.kitOne K (.ref CTaken) (.ref CNotThere) = some false)
    (xTaken_TooLong : PySem.W.kitOne K (.ref CTaken) (.ref CTooLong) = some false)
    (xTaken_TooMany : PySem.W.kitOne K (.ref CTaken) (.ref CTooMany) = some false)
    (xTaken_NothingDone : PySem.W.kitOne K (.ref CTaken) (.ref CNothingDone) = some false)
    (xTaken_NoNote : PySem.W.kitOne K (.ref CTaken) (.ref CNoNote) = some false)
    (xTooMany_NoName : PySem.W.kitOne K (.ref CTooMany) (.ref CNoName) = some false)
    (xTooMany_NotThere : PySem.W.kitOne K (.ref CTooMany) (.ref CNotThere) = some false)
    (xTooMany_TooLong : PySem.W.kitOne K (.ref CTooMany) (.ref CTooLong) = some false)
    (xTooMany_Taken : PySem.W.kitOne K (.ref CTooMany) (.ref CTaken) = some false)
    (xTooMany_NothingDone : PySem.W.kitOne K (.ref CTooMany) (.ref CNothingDone) = some false)
    (xTooMany_NoNote : PySem.W.kitOne K (.ref CTooMany) (.ref CNoNote) = some false)
    (xNothingDone_NoName : PySem.W.kitOne K (.ref CNothingDone) (.ref CNoName) = some false)
    (xNothingDone_NotThere : PySem.W.kitOne K (.ref CNothingDone) (.ref CNotThere) = some false)
    (xNothingDone_TooLong : PySem.W.kitOne K (.ref CNothingDone) (.ref CTooLong) = some false)
    (xNothingDone_Taken : PySem.W.kitOne K (.ref CNothingDone) (.ref CTaken) = some false)
    (xNothingDone_TooMany : PySem.W.kitOne K (.ref CNothingDone) (.ref CTooMany) = some false)
    (xNothingDone_NoNote : PySem.W.kitOne K (.ref CNothingDone) (.ref CNoNote) = some false)
    (vNoName : PySem.W.kitOne K (.ref CNoName) (.ref CNoName) = some true)
    (vNotThere : PySem.W.kitOne K (.ref CNotThere) (.ref CNotThere) = some true)
    (vTooLong : PySem.W.kitOne K (.ref CTooLong) (.ref CTooLong) = some true)
    (vTaken : PySem.W.kitOne K (.ref CTaken) (.ref CTaken) = some true)
    (vTooMany : PySem.W.kitOne K (.ref CTooMany) (.ref CTooMany) = some true)
    (vNothingDone : PySem.W.kitOne K (.ref CNothingDone) (.ref CNothingDone) = some true)
    (eNoName : PySem.W.exmOne K (.ref CNoName) (.ref CT) = some true)
    (eNotThere : PySem.W.exmOne K (.ref CNotThere) (.ref CT) = some true)
    (eTaken : PySem.W.exmOne K (.ref CTaken) (.ref CT) = some true)
    (eTooLong : PySem.W.exmOne K (.ref CTooLong) (.ref CT) = some true)
    (eTooMany : PySem.W.exmOne K (.ref CTooMany) (.ref CT) = some true)
    (eNothingDone : PySem.W.exmOne K (.ref CNothingDone) (.ref CT) = some true)
    (gMOST_SIGNS : ∃ t, mg "MOST_SIGNS" = some (.int 40 t))
    (g_PERCENT : ∃ t, mg "_PERCENT" = some (.int 37 t))
    (gMOST_NAMES : ∃ t, mg "MOST_NAMES" = some (.int 100 t))
    : ∃ fd : FuncData, (∀ (s : Shared) (v : Value), BindsTo s fd ⟨[v], []⟩ [("_law_script", v)]) ∧ ∀ base : Heap, K.In base → base.Ns mainGlobals mg → FnOk l.prog w K mg base CX0 140 fa fd ["_law_script"] (spLaw K) := by
  obtain ⟨fd10, D10⟩ := h10
  obtain ⟨fd11, D11⟩ := h11
  obtain ⟨fd12, D12⟩ := h12
  obtain ⟨fd13, D13⟩ := h13
  obtain ⟨fd17, D17⟩ := h17
  obtain ⟨fd18, D18⟩ := h18
  obtain ⟨fd19, D19⟩ := h19
  obtain ⟨fd20, D20⟩ := h20
  obtain ⟨fd22, D22⟩ := h22
  obtain ⟨fd23, D23⟩ := h23
  obtain ⟨fd24, D24⟩ := h24
  obtain ⟨fd25, D25⟩ := h25
  obtain ⟨fd26, D26⟩ := h26
  obtain ⟨fd27, D27⟩ := h27
  obtain ⟨fd29, D29⟩ := h29
  obtain ⟨fd30, D30⟩ := h30
  obtain ⟨fd31, D31⟩ := h31
  obtain ⟨fd32, D32⟩ := h32
  obtain ⟨fd33, D33⟩ := h33
  obtain ⟨fd35, D35⟩ := h35
  obtain ⟨fd36, D36⟩ := h36
  obtain ⟨fd37, D37⟩ := h37
  obtain ⟨fd41, D41⟩ := h41
  obtain ⟨fd42, D42⟩ := h42
  obtain ⟨fd43, D43⟩ := h43
  obtain ⟨fd45, D45⟩ := h45
  obtain ⟨fd46, D46⟩ := h46
  obtain ⟨fd47, D47⟩ := h47
  obtain ⟨fd48, D48⟩ := h48
  obtain ⟨fd49, D49⟩ := h49
  obtain ⟨fd50, D50⟩ := h50
  obtain ⟨fd51, D51⟩ := h51
  obtain ⟨fd52, D52⟩ := h52
  obtain ⟨fd53, D53⟩ := h53
  obtain ⟨fd54, D54⟩ := h54
  obtain ⟨fd55, D55⟩ := h55
  obtain ⟨fd56, D56⟩ := h56
  obtain ⟨fd57, D57⟩ := h57
  obtain ⟨fd58, D58⟩ := h58
  obtain ⟨fd59, D59⟩ := h59
  obtain ⟨fd60, D60⟩ := h60
  obtain ⟨fd61, D61⟩ := h61
  obtain ⟨fdT_init, DT_init⟩ := hT_init
  have b_T_init := DT_init.1.binds (ps := pT_init) fun _ _ _ _ _ _ us hl => match us, hl with | [_], _ => rfl
  have M_T_init := DT_init.2
  obtain ⟨fdT_keep, DT_keep⟩ := hT_keep
  have b_T_keep := DT_keep.1.binds (ps := pT_keep) fun _ _ _ _ _ _ us hl => match us, hl with | [_, _, _], _ => rfl
  have M_T_keep := DT_keep.2
  obtain ⟨fdT_drop, DT_drop⟩ := hT_drop
  have b_T_drop := DT_drop.1.binds (ps := pT_drop) fun _ _ _ _ _ _ us hl => match us, hl with | [_, _], _ => rfl
  have M_T_drop := DT_drop.2
  obtain ⟨fdT_prune, DT_prune⟩ := hT_prune
  have b_T_prune := DT_prune.1.binds (ps := pT_prune) fun _ _ _ _ _ _ us hl => match us, hl with | [_, _], _ => rfl
  have M_T_prune := DT_prune.2
  obtain ⟨fdT_move, DT_move⟩ := hT_move
  have b_T_move := DT_move.1.binds (ps := pT_move) fun _ _ _ _ _ _ us hl => match us, hl with | [_, _, _], _ => rfl
  have M_T_move := DT_move.2
  obtain ⟨fdT_graft, DT_graft⟩ := hT_graft
  have b_T_graft := DT_graft.1.binds (ps := pT_graft) fun _ _ _ _ _ _ us hl => match us, hl with | [_, _, _], _ => rfl
  have M_T_graft := DT_graft.2
  obtain ⟨fdT_back, DT_back⟩ := hT_back
  have b_T_back := DT_back.1.binds (ps := pT_back) fun _ _ _ _ _ _ us hl => match us, hl with | [_], _ => rfl
  have M_T_back := DT_back.2
  obtain ⟨fdT_told, DT_told⟩ := hT_told
  have b_T_told := DT_told.1.binds (ps := pT_told) fun _ _ _ _ _ _ us hl => match us, hl with | [_, _], _ => rfl
  have M_T_told := DT_told.2
  obtain ⟨fdT_tree, DT_tree⟩ := hT_tree
  have b_T_tree := DT_tree.1.binds (ps := pT_tree) fun _ _ _ _ _ _ us hl => match us, hl with | [_], _ => rfl
  have M_T_tree := DT_tree.2
  obtain ⟨fdT_size, DT_size⟩ := hT_size
  have b_T_size := DT_size.1.binds (ps := pT_size) fun _ _ _ _ _ _ us hl => match us, hl with | [_], _ => rfl
  have M_T_size := DT_size.2
  obtain ⟨fdT_do, DT_do⟩ := hT_do
  have b_T_do := DT_do.1.binds (ps := pT_do) fun _ _ _ _ _ _ us hl => match us, hl with | [_, _], _ => rfl
  have M_T_do := DT_do.2
  have e := hfa.symm.trans D61.2
  cases e
  have binner_of := D10.1.binds (ps := pinner_of) fun _ _ _ _ _ _ us hl => match us, hl with | [_, _], _ => rfl
  have Dinner_of := D10
  have bplaced := D11.1.binds (ps := pplaced) fun _ _ _ _ _ _ us hl => match us, hl with | [_, _], _ => rfl
  have Dplaced := D11
  have bbranches_behind := D12.1.binds (ps := pbranches_behind) fun _ _ _ _ _ _ us hl => match us, hl with | [_, _], _ => rfl
  have Dbranches_behind := D12
  have breplaced := D13.1.binds (ps := preplaced) fun _ _ _ _ _ _ us hl => match us, hl with | [_, _, _], _ => rfl
  have Dreplaced := D13
  have bis_name := D17.1.binds (ps := pis_name) fun _ _ _ _ _ _ us hl => match us, hl with | [_], _ => rfl
  have Dis_name := D17
  have bPis_sign := D18.1.binds (ps := pPis_sign) fun _ _ _ _ _ _ us hl => match us, hl with | [_], _ => rfl
  have DPis_sign := D18
  have bcommon := D19.1.binds (ps := pcommon) fun _ _ _ _ _ _ us hl => match us, hl with | [_, _], _ => rfl
  have Dcommon := D19
  have brest := D20.1.binds (ps := prest) fun _ _ _ _ _ _ us hl => match us, hl with | [_, _], _ => rfl
  have Drest := D20
  have bfound := D22.1.binds (ps := pfound) fun _ _ _ _ _ _ us hl => match us, hl with | [_, _], _ => rfl
  have Dfound := D22
  have bput := D23.1.binds (ps := pput) fun _ _ _ _ _ _ us hl => match us, hl with | [_, _, _], _ => rfl
  have Dput := D23
  have bwithout := D24.1.binds (ps := pwithout) fun _ _ _ _ _ _ us hl => match us, hl with | [_, _], _ => rfl
  have Dwithout := D24
  have bPless := D25.1.binds (ps := pPless) fun _ _ _ _ _ _ us hl => match us, hl with | [_, _], _ => rfl
  have DPless := D25
  have bahead := D26.1.binds (ps := pahead) fun _ _ _ _ _ _ us hl => match us, hl with | [_, _], _ => rfl
  have Dahead := D26
  have bnames := D27.1.binds (ps := pnames) fun _ _ _ _ _ _ us hl => match us, hl with | [_], _ => rfl
  have Dnames := D27
  have bcut := D29.1.binds (ps := pcut) fun _ _ _ _ _ _ us hl => match us, hl with | [_, _], _ => rfl
  have Dcut := D29
  have bjoined := D30.1.binds (ps := pjoined) fun _ _ _ _ _ _ us hl => match us, hl with | [_, _], _ => rfl
  have Djoined := D30
  have bmoved := D31.1.binds (ps := pmoved) fun _ _ _ _ _ _ us hl => match us, hl with | [_, _, _], _ => rfl
  have Dmoved := D31
  have bcopied := D32.1.binds (ps := pcopied) fun _ _ _ _ _ _ us hl => match us, hl with | [_, _, _], _ => rfl
  have Dcopied := D32
  have bPparted := D33.1.binds (ps := pPparted) fun _ _ _ _ _ _ us hl => match us, hl with | [_, _], _ => rfl
  have DPparted := D33
  have bunder := D35.1.binds (ps := punder) fun _ _ _ _ _ _ us hl => match us, hl with | [_, _], _ => rfl
  have Dunder := D35
  have bmany := D36.1.binds (ps := pmany) fun _ _ _ _ _ _ us hl => match us, hl with | [_, _], _ => rfl
  have Dmany := D36
  have bPbelow := D37.1.binds (ps := pPbelow) fun _ _ _ _ _ _ us hl => match us, hl with | [_, _], _ => rfl
  have DPbelow := D37
  have bPrefuse_no_names := D41.1.binds (ps := pPrefuse_no_names) fun _ _ _ _ _ _ us hl => match us, hl with | [_], _ => rfl
  have DPrefuse_no_names := D41
  have bPrefuse_long_names := D42.1.binds (ps := pPrefuse_long_names) fun _ _ _ _ _ _ us hl => match us, hl with | [_, _, _], _ => rfl
  have DPrefuse_long_names := D42
  have bPof_size := D43.1.binds (ps := pPof_size) fun _ _ _ _ _ _ us hl => match us, hl with | [_], _ => rfl
  have DPof_size := D43
  have bLcell_at := D45.1.binds (ps := pLcell_at) fun _ _ _ _ _ _ us hl => match us, hl with | [_, _], _ => rfl
  have DLcell_at := D45
  have bLwhole := D46.1.binds (ps := pLwhole) fun _ _ _ _ _ _ us hl => match us, hl with | [_], _ => rfl
  have DLwhole := D46
  have bLsign_by := D47.1.binds (ps := pLsign_by) fun _ _ _ _ _ _ us hl => match us, hl with | [_], _ => rfl
  have DLsign_by := D47
  have bLword_by := D48.1.binds (ps := pLword_by) fun _ _ _ _ _ _ us hl => match us, hl with | [_, _], _ => rfl
  have DLword_by := D48
  have bLnumber_by := D49.1.binds (ps := pLnumber_by) fun _ _ _ _ _ _ us hl => match us, hl with | [_], _ => rfl
  have DLnumber_by := D49
  have bLalike := D50.1.binds (ps := pLalike) fun _ _ _ _ _ _ us hl => match us, hl with | [_, _], _ => rfl
  have DLalike := D50
  have bLtext_by := D51.1.binds (ps := pLtext_by) fun _ _ _ _ _ _ us hl => match us, hl with | [_, _], _ => rfl
  have DLtext_by := D51
  have bLother_by := D52.1.binds (ps := pLother_by) fun _ _ _ _ _ _ us hl => match us, hl with | [_, _], _ => rfl
  have DLother_by := D52
  have bLword_of := D53.1.binds (ps := pLword_of) fun _ _ _ _ _ _ us hl => match us, hl with | [_], _ => rfl
  have DLword_of := D53
  have bLtried := D54.1.binds (ps := pLtried) fun _ _ _ _ _ _ us hl => match us, hl with | [_, _, _, _, _], _ => rfl
  have DLtried := D54
  have bLnamed := D55.1.binds (ps := pLnamed) fun _ _ _ _ _ _ us hl => match us, hl with | [_], _ => rfl
  have DLnamed := D55
  have bLbranch := D56.1.binds (ps := pLbranch) fun _ _ _ _ _ _ us hl => match us, hl with | [_, _, _, _], _ => rfl
  have DLbranch := D56
  have bLdue := D57.1.binds (ps := pLdue) fun _ _ _ _ _ _ us hl => match us, hl with | [_, _, _, _, _], _ => rfl
  have DLdue := D57
  have bLbegun := D58.1.binds (ps := pLbegun) fun _ _ _ _ _ _ us hl => match us, hl with | [_, _, _, _, _], _ => rfl
  have DLbegun := D58
  have bLfirst_deeds := D59.1.binds (ps := pLfirst_deeds) fun _ _ _ _ _ _ us hl => match us, hl with | [_, _], _ => rfl
  have DLfirst_deeds := D59
  have bLtells := D60.1.binds (ps := pLtells) fun _ _ _ _ _ _ us hl => match us, hl with | [_, _, _, _], _ => rfl
  have DLtells := D60
  have blaw := D61.1.binds (ps := plaw) fun _ _ _ _ _ _ us hl => match us, hl with | [_], _ => rfl
  have Dlaw := D61
  have bx := D61.1.ex
  refine ⟨fd61, ?_, fun base _ _ => ?_⟩
  · obtain ⟨oc, od, kV, doc, pm, an, cdv, ct, osl, rfl, _⟩ := bx
    exact fun s v => .of_eq rfl
  · clear bx
    have H_Pis_sign : Has l.prog w K mg base "_is_sign" pPis_sign 1 spIsSign := DPis_sign.has bPis_sign (ok_Pis_sign DPis_sign.1 m_ord g_PERCENT)
    have H_is_name : Has l.prog w K mg base "is_name" pis_name 2 (spIsName K) := Dis_name.has bis_name (ok_is_name Dis_name.1 H_Pis_sign m_isinstance m_str m_len m_all gMOST_SIGNS)
    have H_Prefuse_no_names : HasX l.prog w K mg base "_refuse_no_names" pPrefuse_no_names 5 (spRefuse K CNoName) := DPrefuse_no_names.hasX bPrefuse_no_names (ok_Prefuse_no_names DPrefuse_no_names.1 TNoName H_is_name )
    have H_names : Has l.prog w K mg base "names" pnames 51 (spNames K 50) := has_names Dnames bnames 50
    have H_rest : Has l.prog w K mg base "rest" prest 1 (spRest) := Drest.has brest (ok_rest Drest.1   m_len)
    have H_inner_of : Has l.prog w K mg base "inner_of" pinner_of 1 (spInner K) := Dinner_of.has binner_of (ok_inner_of Dinner_of.1   )
    have H_placed : Has l.prog w K mg base "placed" pplaced 1 (spPlaced K) := Dplaced.has bplaced (ok_placed Dplaced.1   m_tuple)
    have H_replaced : Has l.prog w K mg base "replaced" preplaced 2 (spReplaced K) := Dreplaced.has breplaced (ok_replaced Dreplaced.1  H_placed m_len m_tuple)
    have H_cut : Has l.prog w K mg base "cut" pcut 52 (spCut K) := has_cut Dcut bcut H_rest H_inner_of H_replaced 50
    have H_Pbelow : Has l.prog w K mg base "_below" pPbelow 53 (spBelow K) := DPbelow.has bPbelow (ok_Pbelow DPbelow.1  H_cut )
    have H_under : Has l.prog w K mg base "under" punder 90 (spUnder K) := Dunder.has bunder (ok_under Dunder.1  H_names H_Pbelow )
    have H_Prefuse_long_names : HasX l.prog w K mg base "_refuse_long_names" pPrefuse_long_names 95 (spLong K CTooLong) := DPrefuse_long_names.hasX bPrefuse_long_names (ok_Prefuse_long_names DPrefuse_long_names.1 TTooLong H_under m_len gMOST_SIGNS)
    have H_Pof_size : HasX l.prog w K mg base "_of_size" pPof_size 60 (spOfSize K CTooMany) := DPof_size.hasX bPof_size (ok_Pof_size DPof_size.1 TTooMany H_names m_len gMOST_NAMES)
    have H_found : Has l.prog w K mg base "found" pfound 51 (spFound K 50) := has_found Dfound bfound H_rest H_inner_of 50
    have H_common : Has l.prog w K mg base "common" pcommon 1 (spCommon) := Dcommon.has bcommon (ok_common Dcommon.1   m_zip)
    have H_branches_behind : Has l.prog w K mg base "branches_behind" pbranches_behind 1 (spBehind K) := Dbranches_behind.has bbranches_behind (ok_branches_behind Dbranches_behind.1   m_len)
    have H_put : Has l.prog w K mg base "put" pput 51 (spPutN K 50) := has_put Dput bput H_common H_inner_of H_placed H_branches_behind m_len 50
    have H_Pless : Has l.prog w K mg base "_less" pPless 52 (spLess K 50) := has_Pless DPless bPless H_inner_of H_replaced m_len 50
    have H_without : HasX l.prog w K mg base "without" pwithout 53 (spWithout K CNotThere 50) := Dwithout.hasX bwithout (ok_without Dwithout.1 TNotThere H_found H_Pless)
    have H_many : Has l.prog w K mg base "many" pmany 90 (spMany K) := Dmany.has bmany (ok_many Dmany.1  H_names H_Pbelow m_len)
    have H_Pparted : HasX l.prog w K mg base "_parted" pPparted 53 (spParted K CNotThere) := DPparted.hasX bPparted (ok_Pparted DPparted.1 TNotThere H_cut )
    have H_joined : HasX l.prog w K mg base "joined" pjoined 100 (spJoined K CTaken) := (has_joined Djoined bjoined TTaken H_common H_branches_behind H_placed H_inner_of 99).imp joined_imp
    obtain ⟨fJ, gdJ, GJ, bJ, kJ, gJ⟩ := H_joined.ex
    have H_ahead : Has l.prog w K mg base "ahead" pahead 1 (spAhead K) := Dahead.has bahead (ok_ahead Dahead.1   )
    have H_moved : HasX l.prog w K mg base "moved" pmoved 102 (spMoved K CNotThere CTaken stayR) := Dmoved.hasX bmoved (ok_moved Dmoved.1 TNotThere TTaken H_Pparted H_joined H_ahead )
    have H_copied : HasX l.prog w K mg base "copied" pcopied 102 (spMoved K CNotThere CTaken (fun _ R => R)) := Dcopied.hasX bcopied (ok_copied Dcopied.1 TNotThere TTaken H_Pparted H_joined H_ahead )
    have H_Lsign_by : Has l.prog w K mg base "_law_sign_by" pLsign_by 1 (spSign) := DLsign_by.has bLsign_by (ok_Lsign_by DLsign_by.1   )
    have H_Lword_by : Has l.prog w K mg base "_law_word_by" pLword_by 2 (spWord) := DLword_by.has bLword_by (ok_Lword_by DLword_by.1  H_Lsign_by m_range)
    have H_Lfirst_deeds : Has l.prog w K mg base "_law_first_deeds" pLfirst_deeds 1 (spFirst) := DLfirst_deeds.has bLfirst_deeds (ok_Lfirst_deeds DLfirst_deeds.1   )
    have H_Lcell_at : Has l.prog w K mg base "_law_cell_at" pLcell_at 1 (spCell K) := DLcell_at.has bLcell_at (ok_Lcell_at DLcell_at.1   m_len)
    have H_Ltext_by : Has l.prog w K mg base "_law_text_by" pLtext_by 3 (spTextBy K) := DLtext_by.has bLtext_by (ok_Ltext_by DLtext_by.1  H_Lword_by m_int m_len)
    have H_Lother_by : Has l.prog w K mg base "_law_other_by" pLother_by 4 (spTextBy K) := DLother_by.has bLother_by (ok_Lother_by DLother_by.1  H_Ltext_by )
    have H_Lnumber_by : Has l.prog w K mg base "_law_number_by" pLnumber_by 1 (spNum) := DLnumber_by.has bLnumber_by (ok_Lnumber_by DLnumber_by.1   m_range)
    have H_Lbranch : Has l.prog w K mg base "_law_branch" pLbranch 3 (spBrD K) := DLbranch.has bLbranch (ok_Lbranch DLbranch.1   m_range m_max m_len m_sorted)
    have H_Lnamed : Has l.prog w K mg base "_law_named" pLnamed 1 (spNamed K) := DLnamed.has bLnamed (ok_Lnamed DLnamed.1   m_isinstance m_str m_len)
    have H_Ldue : Has l.prog w K mg base "_law_due" pLdue 5 (spDue K) := DLdue.has bLdue (ok_Ldue DLdue.1  H_Lbranch H_Lnamed m_len)
    have H_Lwhole : Has l.prog w K mg base "_law_whole" pLwhole 1 (spWhole K) := DLwhole.has bLwhole (ok_Lwhole DLwhole.1   m_isinstance m_int m_bool)
    have H_Lalike : Has l.prog w K mg base "_law_alike" pLalike 11 (spAlikeB K 10) := has_Lalike DLalike bLalike H_Lwhole m_isinstance m_str m_int m_tuple m_list m_len m_range 10
    have G_T_init := ok_T_init (P := l.prog) (w := w) (base := base) DT_init.1 TTr
    have G_T_do := ok_T_do (P := l.prog) (w := w) (base := base) DT_do.1 TTr
    have G_T_keep := ok_T_keep DT_keep.1 TTr TNoName G_T_do b_T_do M_T_do H_Prefuse_no_names H_found H_put H_Pof_size
    have G_T_drop := ok_T_drop DT_drop.1 TTr TNoName G_T_do b_T_do M_T_do H_Prefuse_no_names H_found H_without
    have G_T_prune := ok_T_prune DT_prune.1 TTr TNoName TNotThere G_T_do b_T_do M_T_do H_Prefuse_no_names H_cut H_names m_len
    have G_T_move := ok_T_move DT_move.1 TTr TNoName G_T_do b_T_do M_T_do H_Prefuse_no_names H_Prefuse_long_names H_many H_moved
    have G_T_graft := ok_T_graft DT_graft.1 TTr TNoName G_T_do b_T_do M_T_do H_Prefuse_no_names H_Prefuse_long_names H_many H_copied H_Pof_size
    have G_T_back := ok_T_back (P := l.prog) (w := w) (base := base) DT_back.1 TTr TNothingDone
    have G_T_tree := ok_T_tree (P := l.prog) (w := w) (base := base) DT_tree.1 TTr
    have G_T_size := ok_T_size DT_size.1 TTr H_names m_len
    have G_T_told := ok_T_told DT_told.1 TTr TNoName H_Prefuse_no_names H_under
    have cl : ∀ (i : Nat) (D : Addr), i < 6 → [CNoName, CNotThere, CTooLong, CTaken, CTooMany, CNothingDone][i]? = some D → PySem.W.exmOne K (.ref D) (.ref CT) = some true ∧ ExcC K D ∧ Kits K [CNoName, CNotThere, CTooLong, CTaken, CTooMany, CNothingDone, CNoNote] D i ∧ PySem.W.kitOne K (.ref D) (.type "ValueError") = some true := by
      intro i D hi hD
      match i, hi, hD with
      | 0, _, hD => cases hD; exact ⟨eNoName, TNoName.cN, kits_of vNoName xNoName_NotThere xNoName_TooLong xNoName_Taken xNoName_TooMany xNoName_NothingDone xNoName_NoNote, TNoName.iV⟩
      | 1, _, hD => cases hD; exact ⟨eNotThere, TNotThere.cN, kits_of xNotThere_NoName vNotThere xNotThere_TooLong xNotThere_Taken xNotThere_TooMany xNotThere_NothingDone xNotThere_NoNote, TNotThere.iV⟩
      | 2, _, hD => cases hD; exact ⟨eTooLong, TTooLong.cN, kits_of xTooLong_NoName xTooLong_NotThere vTooLong xTooLong_Taken xTooLong_TooMany xTooLong_NothingDone xTooLong_NoNote, TTooLong.iV⟩
      | 3, _, hD => cases hD; exact ⟨eTaken, TTaken.cN, kits_of xTaken_NoName xTaken_NotThere xTaken_TooLong vTaken xTaken_TooMany xTaken_NothingDone xTaken_NoNote, TTaken.iV⟩
      | 4, _, hD => cases hD; exact ⟨eTooMany, TTooMany.cN, kits_of xTooMany_NoName xTooMany_NotThere xTooMany_TooLong xTooMany_Taken vTooMany xTooMany_NothingDone xTooMany_NoNote, TTooMany.iV⟩
      | 5, _, hD => cases hD; exact ⟨eNothingDone, TNothingDone.cN, kits_of xNothingDone_NoName xNothingDone_NotThere xNothingDone_TooLong xNothingDone_Taken xNothingDone_TooMany vNothingDone xNothingDone_NoNote, TNothingDone.iV⟩
      | i + 6, hi, _ => exact absurd hi (by omega)
    have H_Ltried : Has l.prog w K mg base "_law_tried" pLtried 125 (spTried K CTrail CNoName CNotThere CTooLong CTaken CTooMany CNothingDone CNoNote) := DLtried.has bLtried (ok_Ltried DLtried.1 TNoName.gT cl TTr G_T_keep b_T_keep M_T_keep G_T_drop b_T_drop M_T_drop G_T_prune b_T_prune M_T_prune G_T_move b_T_move M_T_move G_T_graft b_T_graft M_T_graft G_T_back b_T_back M_T_back G_T_told b_T_told M_T_told (ok_Lword_of DLword_of.1 TNoName TNotThere TTooLong TTaken TTooMany TNothingDone TNoNote m_isinstance m_ValueError) bLword_of DLword_of.1.kp DLword_of.2)
    have H_Ltells : Has l.prog w K mg base "_law_tells" pLtells 130 (spTells K CTrail) := DLtells.has bLtells (ok_Ltells DLtells.1 TTr G_T_told b_T_told M_T_told H_Lnamed H_Ltried H_Lalike m_sorted m_list m_len)
    have H_Lbegun : Has l.prog w K mg base "_law_begun" pLbegun 130 (spBegun K CTrail) := DLbegun.has bLbegun (ok_Lbegun DLbegun.1 TTr G_T_keep b_T_keep M_T_keep G_T_graft b_T_graft M_T_graft m_range m_dict m_len m_list m_int m_str)
    exact ok_law Dlaw.1 TTr G_T_init b_T_init G_T_size b_T_size M_T_size H_Lcell_at H_Lword_by H_Lbegun H_Lfirst_deeds H_Ltext_by H_Lother_by H_Lnumber_by H_Ldue H_Ltried H_Lalike H_Ltells m_int m_enumerate m_sorted m_len gMOST_NAMES
end RT
open PySem PySem.W PyProof.Rows
set_option maxHeartbeats 0 in
theorem PySem.Challenge.cw_radixtrail_k12_whole_deeds_holds : PySem.Challenge.rw_radixtrail_k12_whole_deeds.Holds := by
  w_on; o_law; k_head; (case hw => w_witness2)
  k_fill
  refine L2.walk_of (l := PySem.Challenge.rw_radixtrail_k12_whole_deeds) (n := 63) (k := 140) (x := "_law_script") (CX := fun _ => L2.CX0) (sp := fun w => RT.spLaw _) rfl (by decide) rfl ⟨rfl, by decide, by decide⟩ (fun w h Y => PySem.W.kIn_of Y) ?F (fun _ _ a ns hl _ hS => ⟨a, ns, rfl, hS, hl, fun _ => rfl⟩) (fun _ _ _ _ _ h => h)
  case F =>
    intro w mg fa h KX G hmg
    refine' RT.all_ok (l := PySem.Challenge.rw_radixtrail_k12_whole_deeds) (w := w) (mg := mg) hmg (RT.defAt KX G ?a10 ?l10 ?c10 ?k10)  (RT.defAt KX G ?a11 ?l11 ?c11 ?k11)  (RT.defAt KX G ?a12 ?l12 ?c12 ?k12)  (RT.defAt KX G ?a13 ?l13 ?c13 ?k13)  (RT.defAt KX G ?a17 ?l17 ?c17 ?k17)  (RT.defAt KX G ?a18 ?l18 ?c18 ?k18)  (RT.defAt KX G ?a19 ?l19 ?c19 ?k19)  (RT.defAt KX G ?a20 ?l20 ?c20 ?k20)  (RT.defAt KX G ?a22 ?l22 ?c22 ?k22)  (RT.defAt KX G ?a23 ?l23 ?c23 ?k23)  (RT.defAt KX G ?a24 ?l24 ?c24 ?k24)  (RT.defAt KX G ?a25 ?l25 ?c25 ?k25)  (RT.defAt KX G ?a26 ?l26 ?c26 ?k26)  (RT.defAt KX G ?a27 ?l27 ?c27 ?k27)  (RT.defAt KX G ?a29 ?l29 ?c29 ?k29)  (RT.defAt KX G ?a30 ?l30 ?c30 ?k30)  (RT.defAt KX G ?a31 ?l31 ?c31 ?k31)  (RT.defAt KX G ?a32 ?l32 ?c32 ?k32)  (RT.defAt KX G ?a33 ?l33 ?c33 ?k33)  (RT.defAt KX G ?a35 ?l35 ?c35 ?k35)  (RT.defAt KX G ?a36 ?l36 ?c36 ?k36)  (RT.defAt KX G ?a37 ?l37 ?c37 ?k37)  (RT.defAt KX G ?a41 ?l41 ?c41 ?k41)  (RT.defAt KX G ?a42 ?l42 ?c42 ?k42)  (RT.defAt KX G ?a43 ?l43 ?c43 ?k43)  (RT.defAt KX G ?a45 ?l45 ?c45 ?k45)  (RT.defAt KX G ?a46 ?l46 ?c46 ?k46)  (RT.defAt KX G ?a47 ?l47 ?c47 ?k47)  (RT.defAt KX G ?a48 ?l48 ?c48 ?k48)  (RT.defAt KX G ?a49 ?l49 ?c49 ?k49)  (RT.defAt KX G ?a50 ?l50 ?c50 ?k50)  (RT.defAt KX G ?a51 ?l51 ?c51 ?k51)  (RT.defAt KX G ?a52 ?l52 ?c52 ?k52)  (RT.defAt KX G ?a53 ?l53 ?c53 ?k53)  (RT.defAt KX G ?a54 ?l54 ?c54 ?k54)  (RT.defAt KX G ?a55 ?l55 ?c55 ?k55)  (RT.defAt KX G ?a56 ?l56 ?c56 ?k56)  (RT.defAt KX G ?a57 ?l57 ?c57 ?k57)  (RT.defAt KX G ?a58 ?l58 ?c58 ?k58)  (RT.defAt KX G ?a59 ?l59 ?c59 ?k59)  (RT.defAt KX G ?a60 ?l60 ?c60 ?k60)  (RT.defAt KX G ?a61 ?l61 ?c61 ?k61)
      (PySem.W.mg_none_of KX G ?z0)  (PySem.W.mg_none_of KX G ?z1)  (PySem.W.mg_none_of KX G ?z2)  (PySem.W.mg_none_of KX G ?z3)  (PySem.W.mg_none_of KX G ?z4)  (PySem.W.mg_none_of KX G ?z5)  (PySem.W.mg_none_of KX G ?z6)  (PySem.W.mg_none_of KX G ?z7)  (PySem.W.mg_none_of KX G ?z8)  (PySem.W.mg_none_of KX G ?z9)  (PySem.W.mg_none_of KX G ?z10)  (PySem.W.mg_none_of KX G ?z11)  (PySem.W.mg_none_of KX G ?z12)  (PySem.W.mg_none_of KX G ?z13)  (PySem.W.mg_none_of KX G ?z14)  (PySem.W.mg_none_of KX G ?z15) (RT.errTxt KX G ?aN0 ?xN0 ?kN0 ?bN0 ?tN0 ?sN0 ?aT0 ?iT0 ?iV0 ?hg0 ?hk0 ?hd0 ?ha0 ?hn0 ?ht0 ?hm0) (RT.errTxt KX G ?aN1 ?xN1 ?kN1 ?bN1 ?tN1 ?sN1 ?aT1 ?iT1 ?iV1 ?hg1 ?hk1 ?hd1 ?ha1 ?hn1 ?ht1 ?hm1) (RT.errTxt KX G ?aN2 ?xN2 ?kN2 ?bN2 ?tN2 ?sN2 ?aT2 ?iT2 ?iV2 ?hg2 ?hk2 ?hd2 ?ha2 ?hn2 ?ht2 ?hm2) (RT.errTxt KX G ?aN3 ?xN3 ?kN3 ?bN3 ?tN3 ?sN3 ?aT3 ?iT3 ?iV3 ?hg3 ?hk3 ?hd3 ?ha3 ?hn3 ?ht3 ?hm3) (RT.errTxt KX G ?aN4 ?xN4 ?kN4 ?bN4 ?tN4 ?sN4 ?aT4 ?iT4 ?iV4 ?hg4 ?hk4 ?hd4 ?ha4 ?hn4 ?ht4 ?hm4) (RT.errTxt KX G ?aN5 ?xN5 ?kN5 ?bN5 ?tN5 ?sN5 ?aT5 ?iT5 ?iV5 ?hg5 ?hk5 ?hd5 ?ha5 ?hn5 ?ht5 ?hm5) (RT.errTxt KX G ?aN6 ?xN6 ?kN6 ?bN6 ?tN6 ?sN6 ?aT6 ?iT6 ?iV6 ?hg6 ?hk6 ?hd6 ?ha6 ?hn6 ?ht6 ?hm6)
      (RT.trTxt KX G ?tA ?tB ?tC ?tD ?tE ?tF ?tG ?tH ?tI ?tJ ?tK)
      (RT.methAt ?maT_init ?miT_init ?mlT_init ?mcT_init ?mkT_init)
      (RT.methAt ?maT_keep ?miT_keep ?mlT_keep ?mcT_keep ?mkT_keep)
      (RT.methAt ?maT_drop ?miT_drop ?mlT_drop ?mcT_drop ?mkT_drop)
      (RT.methAt ?maT_prune ?miT_prune ?mlT_prune ?mcT_prune ?mkT_prune)
      (RT.methAt ?maT_move ?miT_move ?mlT_move ?mcT_move ?mkT_move)
      (RT.methAt ?maT_graft ?miT_graft ?mlT_graft ?mcT_graft ?mkT_graft)
      (RT.methAt ?maT_back ?miT_back ?mlT_back ?mcT_back ?mkT_back)
      (RT.methAt ?maT_told ?miT_told ?mlT_told ?mcT_told ?mkT_told)
      (RT.methAt ?maT_tree ?miT_tree ?mlT_tree ?mcT_tree ?mkT_tree)
      (RT.methAt ?maT_size ?miT_size ?mlT_size ?mcT_size ?mkT_size)
      (RT.methAt ?maT_do ?miT_do ?mlT_do ?mcT_do ?mkT_do)

      ?nk0 ?nk1 ?nk2 ?nk3 ?nk4 ?nk5 ?nk6 ?nk7 ?nk8 ?nk9 ?nk10 ?nk11 ?nk12 ?nk13 ?nk14 ?nk15 ?nk16 ?nk17 ?nk18 ?nk19 ?nk20 ?nk21 ?nk22 ?nk23 ?nk24 ?nk25 ?nk26 ?nk27 ?nk28 ?nk29 ?nk30 ?nk31 ?nk32 ?nk33 ?nk34 ?nk35
      ?nv0 ?nv1 ?nv2 ?nv3 ?nv4 ?nv5
      (PySem.W.exm_ref ?ub0 ?ud0 ?ut0 ?us0)      (PySem.W.exm_ref ?ub1 ?ud1 ?ut1 ?us1)      (PySem.W.exm_ref ?ub2 ?ud2 ?ut2 ?us2)      (PySem.W.exm_ref ?ub3 ?ud3 ?ut3 ?us3)      (PySem.W.exm_ref ?ub4 ?ud4 ?ut4 ?us4)      (PySem.W.exm_ref ?ub5 ?ud5 ?ut5 ?us5)
      (RT.globAt KX G ?gg0)      (RT.globAt KX G ?gg1)      (RT.globAt KX G ?gg2)
    (case a10 => k_is)
    (case l10 => k_is)
    (case c10 => k_is)
    (case k10 => k_is)
    (case a11 => k_is)
    (case l11 => k_is)
    (case c11 => k_is)
    (case k11 => k_is)
    (case a12 => k_is)
    (case l12 => k_is)
    (case c12 => k_is)
    (case k12 => k_is)
    (case a13 => k_is)
    (case l13 => k_is)
    (case c13 => k_is)
    (case k13 => k_is)
    (case a17 => k_is)
    (case l17 => k_is)
    (case c17 => k_is)
    (case k17 => k_is)
    (case a18 => k_is)
    (case l18 => k_is)
    (case c18 => k_is)
    (case k18 => k_is)
    (case a19 => k_is)
    (case l19 => k_is)
    (case c19 => k_is)
    (case k19 => k_is)
    (case a20 => k_is)
    (case l20 => k_is)
    (case c20 => k_is)
    (case k20 => k_is)
    (case a22 => k_is)
    (case l22 => k_is)
    (case c22 => k_is)
    (case k22 => k_is)
    (case a23 => k_is)
    (case l23 => k_is)
    (case c23 => k_is)
    (case k23 => k_is)
    (case a24 => k_is)
    (case l24 => k_is)
    (case c24 => k_is)
    (case k24 => k_is)
    (case a25 => k_is)
    (case l25 => k_is)
    (case c25 => k_is)
    (case k25 => k_is)
    (case a26 => k_is)
    (case l26 => k_is)
    (case c26 => k_is)
    (case k26 => k_is)
    (case a27 => k_is)
    (case l27 => k_is)
    (case c27 => k_is)
    (case k27 => k_is)
    (case a29 => k_is)
    (case l29 => k_is)
    (case c29 => k_is)
    (case k29 => k_is)
    (case a30 => k_is)
    (case l30 => k_is)
    (case c30 => k_is)
    (case k30 => k_is)
    (case a31 => k_is)
    (case l31 => k_is)
    (case c31 => k_is)
    (case k31 => k_is)
    (case a32 => k_is)
    (case l32 => k_is)
    (case c32 => k_is)
    (case k32 => k_is)
    (case a33 => k_is)
    (case l33 => k_is)
    (case c33 => k_is)
    (case k33 => k_is)
    (case a35 => k_is)
    (case l35 => k_is)
    (case c35 => k_is)
    (case k35 => k_is)
    (case a36 => k_is)
    (case l36 => k_is)
    (case c36 => k_is)
    (case k36 => k_is)
    (case a37 => k_is)
    (case l37 => k_is)
    (case c37 => k_is)
    (case k37 => k_is)
    (case a41 => k_is)
    (case l41 => k_is)
    (case c41 => k_is)
    (case k41 => k_is)
    (case a42 => k_is)
    (case l42 => k_is)
    (case c42 => k_is)
    (case k42 => k_is)
    (case a43 => k_is)
    (case l43 => k_is)
    (case c43 => k_is)
    (case k43 => k_is)
    (case a45 => k_is)
    (case l45 => k_is)
    (case c45 => k_is)
    (case k45 => k_is)
    (case a46 => k_is)
    (case l46 => k_is)
    (case c46 => k_is)
    (case k46 => k_is)
    (case a47 => k_is)
    (case l47 => k_is)
    (case c47 => k_is)
    (case k47 => k_is)
    (case a48 => k_is)
    (case l48 => k_is)
    (case c48 => k_is)
    (case k48 => k_is)
    (case a49 => k_is)
    (case l49 => k_is)
    (case c49 => k_is)
    (case k49 => k_is)
    (case a50 => k_is)
    (case l50 => k_is)
    (case c50 => k_is)
    (case k50 => k_is)
    (case a51 => k_is)
    (case l51 => k_is)
    (case c51 => k_is)
    (case k51 => k_is)
    (case a52 => k_is)
    (case l52 => k_is)
    (case c52 => k_is)
    (case k52 => k_is)
    (case a53 => k_is)
    (case l53 => k_is)
    (case c53 => k_is)
    (case k53 => k_is)
    (case a54 => k_is)
    (case l54 => k_is)
    (case c54 => k_is)
    (case k54 => k_is)
    (case a55 => k_is)
    (case l55 => k_is)
    (case c55 => k_is)
    (case k55 => k_is)
    (case a56 => k_is)
    (case l56 => k_is)
    (case c56 => k_is)
    (case k56 => k_is)
    (case a57 => k_is)
    (case l57 => k_is)
    (case c57 => k_is)
    (case k57 => k_is)
    (case a58 => k_is)
    (case l58 => k_is)
    (case c58 => k_is)
    (case k58 => k_is)
    (case a59 => k_is)
    (case l59 => k_is)
    (case c59 => k_is)
    (case k59 => k_is)
    (case a60 => k_is)
    (case l60 => k_is)
    (case c60 => k_is)
    (case k60 => k_is)
    (case a61 => k_is)
    (case l61 => k_is)
    (case c61 => k_is)
    (case k61 => k_is)
    (case z0 => k_is)
    (case z1 => k_is)
    (case z2 => k_is)
    (case z3 => k_is)
    (case z4 => k_is)
    (case z5 => k_is)
    (case z6 => k_is)
    (case z7 => k_is)
    (case z8 => k_is)
    (case z9 => k_is)
    (case z10 => k_is)
    (case z11 => k_is)
    (case z12 => k_is)
    (case z13 => k_is)
    (case z14 => k_is)
    (case z15 => k_is)
    (case aN0 => k_is)
    (case xN0 => k_exc)
    (case kN0 => k_is)
    (case bN0 => k_is)
    (case tN0 => k_is)
    (case sN0 => first | rfl | k_is)
    (case aT0 => k_is)
    (case iT0 => first | rfl | k_is)
    (case iV0 => first | rfl | k_is)
    (case hg0 => k_is)
    (case hk0 => k_is)
    (case hd0 => k_is)
    (case ha0 => k_is)
    (case hn0 => k_is)
    (case ht0 => k_is)
    (case hm0 => k_is)
    (case aN1 => k_is)
    (case xN1 => k_exc)
    (case kN1 => k_is)
    (case bN1 => k_is)
    (case tN1 => k_is)
    (case sN1 => first | rfl | k_is)
    (case aT1 => k_is)
    (case iT1 => first | rfl | k_is)
    (case iV1 => first | rfl | k_is)
    (case hg1 => k_is)
    (case hk1 => k_is)
    (case hd1 => k_is)
    (case ha1 => k_is)
    (case hn1 => k_is)
    (case ht1 => k_is)
    (case hm1 => k_is)
    (case aN2 => k_is)
    (case xN2 => k_exc)
    (case kN2 => k_is)
    (case bN2 => k_is)
    (case tN2 => k_is)
    (case sN2 => first | rfl | k_is)
    (case aT2 => k_is)
    (case iT2 => first | rfl | k_is)
    (case iV2 => first | rfl | k_is)
    (case hg2 => k_is)
    (case hk2 => k_is)
    (case hd2 => k_is)
    (case ha2 => k_is)
    (case hn2 => k_is)
    (case ht2 => k_is)
    (case hm2 => k_is)
    (case aN3 => k_is)
    (case xN3 => k_exc)
    (case kN3 => k_is)
    (case bN3 => k_is)
    (case tN3 => k_is)
    (case sN3 => first | rfl | k_is)
    (case aT3 => k_is)
    (case iT3 => first | rfl | k_is)
    (case iV3 => first | rfl | k_is)
    (case hg3 => k_is)
    (case hk3 => k_is)
    (case hd3 => k_is)
    (case ha3 => k_is)
    (case hn3 => k_is)
    (case ht3 => k_is)
    (case hm3 => k_is)
    (case aN4 => k_is)
    (case xN4 => k_exc)
    (case kN4 => k_is)
    (case bN4 => k_is)
    (case tN4 => k_is)
    (case sN4 => first | rfl | k_is)
    (case aT4 => k_is)
    (case iT4 => first | rfl | k_is)
    (case iV4 => first | rfl | k_is)
    (case hg4 => k_is)
    (case hk4 => k_is)
    (case hd4 => k_is)
    (case ha4 => k_is)
    (case hn4 => k_is)
    (case ht4 => k_is)
    (case hm4 => k_is)
    (case aN5 => k_is)
    (case xN5 => k_exc)
    (case kN5 => k_is)
    (case bN5 => k_is)
    (case tN5 => k_is)
    (case sN5 => first | rfl | k_is)
    (case aT5 => k_is)
    (case iT5 => first | rfl | k_is)
    (case iV5 => first | rfl | k_is)
    (case hg5 => k_is)
    (case hk5 => k_is)
    (case hd5 => k_is)
    (case ha5 => k_is)
    (case hn5 => k_is)
    (case ht5 => k_is)
    (case hm5 => k_is)
    (case aN6 => k_is)
    (case xN6 => k_exc)
    (case kN6 => k_is)
    (case bN6 => k_is)
    (case tN6 => k_is)
    (case sN6 => first | rfl | k_is)
    (case aT6 => k_is)
    (case iT6 => first | rfl | k_is)
    (case iV6 => first | rfl | k_is)
    (case hg6 => k_is)
    (case hk6 => k_is)
    (case hd6 => k_is)
    (case ha6 => k_is)
    (case hn6 => k_is)
    (case ht6 => k_is)
    (case hm6 => k_is)
    (case tA => k_is)
    (case tB => k_is)
    (case tC => k_is)
    (case tD => k_is)
    (case tE => k_is)
    (case tF => k_is)
    (case tG => k_is)
    (case tH => k_is)
    (case tI => k_is)
    (case tJ => k_is)
    (case tK => k_is)
    (case maT_init => k_is)
    (case miT_init => k_is)
    (case mlT_init => k_is)
    (case mcT_init => k_is)
    (case mkT_init => k_is)
    (case maT_keep => k_is)
    (case miT_keep => k_is)
    (case mlT_keep => k_is)
    (case mcT_keep => k_is)
    (case mkT_keep => k_is)
    (case maT_drop => k_is)
    (case miT_drop => k_is)
    (case mlT_drop => k_is)
    (case mcT_drop => k_is)
    (case mkT_drop => k_is)
    (case maT_prune => k_is)
    (case miT_prune => k_is)
    (case mlT_prune => k_is)
    (case mcT_prune => k_is)
    (case mkT_prune => k_is)
    (case maT_move => k_is)
    (case miT_move => k_is)
    (case mlT_move => k_is)
    (case mcT_move => k_is)
    (case mkT_move => k_is)
    (case maT_graft => k_is)
    (case miT_graft => k_is)
    (case mlT_graft => k_is)
    (case mcT_graft => k_is)
    (case mkT_graft => k_is)
    (case maT_back => k_is)
    (case miT_back => k_is)
    (case mlT_back => k_is)
    (case mcT_back => k_is)
    (case mkT_back => k_is)
    (case maT_told => k_is)
    (case miT_told => k_is)
    (case mlT_told => k_is)
    (case mcT_told => k_is)
    (case mkT_told => k_is)
    (case maT_tree => k_is)
    (case miT_tree => k_is)
    (case mlT_tree => k_is)
    (case mcT_tree => k_is)
    (case mkT_tree => k_is)
    (case maT_size => k_is)
    (case miT_size => k_is)
    (case mlT_size => k_is)
    (case mcT_size => k_is)
    (case mkT_size => k_is)
    (case maT_do => k_is)
    (case miT_do => k_is)
    (case mlT_do => k_is)
    (case mcT_do => k_is)
    (case mkT_do => k_is)
    (case ub0 => k_is)
    (case ud0 => k_is)
    (case ut0 => k_is)
    (case us0 => k_is)
    (case ub1 => k_is)
    (case ud1 => k_is)
    (case ut1 => k_is)
    (case us1 => k_is)
    (case ub2 => k_is)
    (case ud2 => k_is)
    (case ut2 => k_is)
    (case us2 => k_is)
    (case ub3 => k_is)
    (case ud3 => k_is)
    (case ut3 => k_is)
    (case us3 => k_is)
    (case ub4 => k_is)
    (case ud4 => k_is)
    (case ut4 => k_is)
    (case us4 => k_is)
    (case ub5 => k_is)
    (case ud5 => k_is)
    (case ut5 => k_is)
    (case us5 => k_is)
    (case nk0 => first | rfl | k_is)
    (case nk1 => first | rfl | k_is)
    (case nk2 => first | rfl | k_is)
    (case nk3 => first | rfl | k_is)
    (case nk4 => first | rfl | k_is)
    (case nk5 => first | rfl | k_is)
    (case nk6 => first | rfl | k_is)
    (case nk7 => first | rfl | k_is)
    (case nk8 => first | rfl | k_is)
    (case nk9 => first | rfl | k_is)
    (case nk10 => first | rfl | k_is)
    (case nk11 => first | rfl | k_is)
    (case nk12 => first | rfl | k_is)
    (case nk13 => first | rfl | k_is)
    (case nk14 => first | rfl | k_is)
    (case nk15 => first | rfl | k_is)
    (case nk16 => first | rfl | k_is)
    (case nk17 => first | rfl | k_is)
    (case nk18 => first | rfl | k_is)
    (case nk19 => first | rfl | k_is)
    (case nk20 => first | rfl | k_is)
    (case nk21 => first | rfl | k_is)
    (case nk22 => first | rfl | k_is)
    (case nk23 => first | rfl | k_is)
    (case nk24 => first | rfl | k_is)
    (case nk25 => first | rfl | k_is)
    (case nk26 => first | rfl | k_is)
    (case nk27 => first | rfl | k_is)
    (case nk28 => first | rfl | k_is)
    (case nk29 => first | rfl | k_is)
    (case nk30 => first | rfl | k_is)
    (case nk31 => first | rfl | k_is)
    (case nk32 => first | rfl | k_is)
    (case nk33 => first | rfl | k_is)
    (case nk34 => first | rfl | k_is)
    (case nk35 => first | rfl | k_is)
    (case nv0 => first | rfl | k_is)
    (case nv1 => first | rfl | k_is)
    (case nv2 => first | rfl | k_is)
    (case nv3 => first | rfl | k_is)
    (case nv4 => first | rfl | k_is)
    (case nv5 => first | rfl | k_is)
    (case gg0 => k_is)
    (case gg1 => k_is)
    (case gg2 => k_is)

