import PyProof.Rows.All
import Wide.All
import OpenK.AllK
import Wide.FinOn
import HandS.ForMost
import HandS.IsInst
import HandS.Style
import HandS.Walk
import HandS.TupMul
import HandS.TupAny
import HandS.Evl
import HandS.Strs
import HandS.SortInts
import PyProof.P3Eq
import HandS.ForExc
import HandS.ExcIs
import HandS.FStr
import HandS.RaiseMore
import KE.GoesMore
import KE.GoesEnum
import HandS.Rev
import HandS.Comp
import HandS.HotCalls
import HandS.ExcCtx
import HandS.SuiteRaise
import HandS.WordsExc
import HandS.TryMany
import HandS.RaiseFrom
import HandS.Dict
import HandS.More
import HandS.Iter
import HandS.CallLocal
import HandS.Conv
import HandS.SetKeys
import HandS.Codes
import PyProof.StrOps2
import PySem.Challenge.RW_lydite_k10_parse
set_option Elab.async false
set_option linter.all false
set_option maxRecDepth 100000
/-! Ly: one rule a reading, and three small searchers (heap, apartness, frame). -/
namespace Ly
open PySem PySem.Spec PyProof.Rows L2 Evl

section
variable {K : PySem.W.Frag} {σ : L2.St} {H H' H0 : Hp} {Q : VK} {D : Ends} {ta tb tc te to : TE} {tA : TA} {t u : TT} {s1 s2 : TS} {g : TG}
theorem w_var {i : Nat} {v : V} (h : σ[i]? = some (some v)) (q : Q v H) : tVar i σ H Q := ⟨v, h, q⟩
theorem w_c {v : V} (q : Q v H) : tC v σ H Q := q
theorem w_op {r : R2} (h : ta σ H fun x H1 => tb σ H1 fun y H2 => r x y H2 Q) : tOp r ta tb σ H Q := h
theorem w_un {r : V → Hp → VK → Prop} (h : ta σ H fun x H1 => r x H1 Q) : tUn r ta σ H Q := h
theorem w_I0 {f : Int → Int → V} {i j : Int} (q : Q (f i j) H) : rI0 f (.int i) (.int j) H Q := ⟨i, j, rfl, rfl, q⟩
theorem w_I {C : Int → Int → Prop} {f : Int → Int → V} {i j : Int} (c : C i j) (q : Q (f i j) H) : rI C f (.int i) (.int j) H Q := ⟨i, j, rfl, rfl, c, q⟩
theorem w_U {f : Int → V} {i : Int} (q : Q (f i) H) : rU f (.int i) H Q := ⟨i, rfl, q⟩
theorem w_eq {x y : V} (s : scal x y = true) (q : Q (.bl (decide (x = y))) H) : rEq x y H Q := ⟨s, q⟩
theorem w_ne {x y : V} (s : scal x y = true) (q : Q (.bl (!decide (x = y))) H) : rNe x y H Q := ⟨s, q⟩
theorem w_isB {a b : Bool} (q : Q (.bl (decide (a = b))) H) : rIsB (.bl a) (.bl b) H Q := ⟨a, b, rfl, rfl, q⟩
theorem w_notB {a b : Bool} (q : Q (.bl (!decide (a = b))) H) : rNotB (.bl a) (.bl b) H Q := ⟨a, b, rfl, rfl, q⟩
theorem w_nil {R : List V → Hp → Prop} (q : R [] H) : tNil σ H R := q
theorem w_cons {R : List V → Hp → Prop} {tr : TA} (h : ta σ H fun x H1 => tr σ H1 fun xs H2 => R (x :: xs) H2) : tCons ta tr σ H R := h
theorem w_tup (h : tA σ H fun xs H1 => xs.length ≤ sizeLine ∧ ∀ p, H1 p = none → Q (.ref p) (upd H1 p (.tup xs))) : tTup tA σ H Q := h
theorem w_lst (h : tA σ H fun xs H1 => xs.length ≤ sizeLine ∧ ∀ p, H1 p = none → Q (.ref p) (upd H1 p (.lst xs))) : tLst tA σ H Q := h
theorem w_cb {r : List V → Hp → VK → Prop} (h : tA σ H fun vs H1 => r vs H1 Q) : tCB r tA σ H Q := h
theorem w_call {sp : Sp} {dvs : List V} {E : XK} (h : tA σ H fun vs H1 => sp (vs ++ dvs) H1 Q E) : tCall sp dvs E tA σ H Q := h
theorem w_isi {x : V} {n : String} {t : Value} {b : Bool} (h : TyX K H x t) (k : PySem.W.kitOne K t (.type n) = some b) (q : Q (.bl b) H) : rIsi K [x, .ty n] H Q :=
  ⟨x, .ty n, t, .type n, b, rfl, .ty n, h, k, q⟩
theorem w_bm {T : String} {r : V → List V → Hp → VK → Prop} (h : to σ H fun x H1 => tyV K T x H1 ∧ tA σ H1 fun xs H2 => r x xs H2 Q) : tBM K T r to tA σ H Q := h
theorem w_bm0 {T : String} {r : V → List V → Hp → VK → Prop} (h : to σ H fun x H1 => tyV K T x H1 ∧ r x [] H1 Q) : tBM0 K T r to σ H Q := h
theorem w_app {l : Addr} {xs : List V} {y : V} (h : H l = some (.lst xs)) (z : xs.length < sizeLine) (q : Q .non (upd H l (.lst (xs ++ [y])))) : rAppend (.ref l) [y] H Q := ⟨l, xs, y, rfl, rfl, h, z, q⟩
theorem w_pop {l : Addr} {xs : List V} {y : V} (h : H l = some (.lst xs)) (z : xs[xs.length - 1]? = some y) (q : Q y (upd H l (.lst xs.dropLast))) : rPop (.ref l) [] H Q := ⟨l, xs, y, rfl, rfl, h, z, q⟩
theorem w_popA {l : Addr} {xs : List V} {y : V} (h : H l = some (.lst (xs ++ [y]))) (q : Q y (upd H l (.lst xs))) : rPop (.ref l) [] H Q :=
  ⟨l, xs ++ [y], y, rfl, rfl, h, by simp, by rw [List.dropLast_concat]; exact q⟩
theorem w_sadd {w : World} {a : Addr} {k : Int} {S : Int → Bool} {n : Nat} (h : H a = some (SetO w a S n)) (r : n + 1 < 4096) (q : Q .non (upd H a (SetO w a (fun j => S j || decide (j = k)) (if S k = true then n else n + 1)))) : rSAdd w (.ref a) [.int k] H Q := ⟨a, k, S, n, rfl, rfl, h, r, q⟩
theorem w_tsadd {w : World} (h : ta σ H fun x H1 => (∃ a S n, x = V.ref a ∧ H1 a = some (SetO w a S n)) ∧ tA σ H1 fun xs H2 => rSAdd w x xs H2 Q) : tSAdd w ta tA σ H Q := h
theorem w_tsadd1 {w : World} {a : Addr} {S : Int → Bool} {n : Nat} {B : Prop} (h : H a = some (SetO w a S n)) (q : B) : (∃ b S' n', V.ref a = V.ref b ∧ H b = some (SetO w b S' n')) ∧ B := ⟨⟨a, S, n, rfl, h⟩, q⟩
theorem w_ext {l b : Addr} {xs zs : List V} (h : H l = some (.lst xs)) (h2 : H b = some (.lst zs)) (z : xs.length + zs.length ≤ sizeLine) (q : Q .non (upd H l (.lst (xs ++ zs)))) : rExtend (.ref l) [.ref b] H Q := ⟨l, b, xs, zs, rfl, rfl, h, h2, z, q⟩
theorem w_ixL {p : Addr} {xs : List V} {i : Int} {v : V} (h : SqL K H p xs) (a : atI xs i = some v) (q : Q v H) : rIxL K (.ref p) (.int i) H Q := ⟨p, xs, i, v, rfl, rfl, h, a, q⟩
theorem w_ixT {p : Addr} {xs : List V} {i : Int} {v : V} (h : SqT K H p xs) (a : atI xs i = some v) (q : Q v H) : rIxT K (.ref p) (.int i) H Q := ⟨p, xs, i, v, rfl, rfl, h, a, q⟩
theorem w_cat {a b : Addr} {xs ys : List V} (h : H a = some (.lst xs)) (h2 : H b = some (.lst ys)) (z : xs.length + ys.length ≤ sizeLine) (q : ∀ p, H p = none → Q (.ref p) (upd H p (.lst (xs ++ ys)))) : rCat (.ref a) (.ref b) H Q := ⟨a, b, xs, ys, rfl, rfl, h, h2, z, q⟩
theorem w_test {R : Bool → Hp → Prop} (h : te σ H fun x H1 => ∃ k, x = .bl k ∧ R k H1) : tTest te σ H R := h
theorem w_tB {R : Bool → Hp → Prop} (h : te σ H fun x H1 => ∃ k, x = .bl k ∧ R k H1) : tB te σ H R := h
theorem w_bl {A : Bool → Prop} {k : Bool} (h : A k) : ∃ c, V.bl k = .bl c ∧ A c := ⟨k, rfl, h⟩
theorem w_and {R : Bool → Hp → Prop} (h : t σ H fun c H1 => if c = true then u σ H1 R else R false H1) : tAnd t u σ H R := h
theorem w_or {R : Bool → Hp → Prop} (h : t σ H fun c H1 => if c = true then R true H1 else u σ H1 R) : tOr t u σ H R := h
theorem w_not {R : Bool → Hp → Prop} (h : t σ H fun c H1 => R (!c) H1) : tNot t σ H R := h
theorem w_andV (h : ta σ H fun x H1 => ∃ c, x = .bl c ∧ if c = true then tb σ H1 Q else Q (.bl false) H1) : tAndV ta tb σ H Q := h
theorem w_orV (h : ta σ H fun x H1 => ∃ c, x = .bl c ∧ if c = true then Q (.bl true) H1 else tb σ H1 Q) : tOrV ta tb σ H Q := h
theorem w_notV (h : ta σ H fun x H1 => ∃ c, x = .bl c ∧ Q (.bl (!c)) H1) : tNotV ta σ H Q := h
theorem w_ifE (h : t σ H fun c H1 => if c = true then ta σ H1 Q else tb σ H1 Q) : tIf t ta tb σ H Q := h
theorem w_ch {r r' : R2} (h : ta σ H fun x H1 => tb σ H1 fun y H2 => r x y H2 fun z H3 => ∃ k, z = .bl k ∧ (if k = true then tc σ H3 fun w' H4 => r' y w' H4 Q else Q (.bl false) H3)) : tChain r r' ta tb tc σ H Q := h
-- statements
theorem sl_of {t : TS} {D : Ends} {σ σ2 : L2.St} {H : Hp} (e : σ = σ2) (h : t D σ2 H) : t D σ H := by
  rw [e]
  exact h
theorem w_seq (h : s1 { D with nx := s2 D } σ H) : tSeq s1 s2 D σ H := h
theorem w_cut {M : L2.St → Hp → Prop} (h : s1 { D with nx := M } σ H) (q : ∀ σ' H', M σ' H' → s2 D σ' H') : tCut s1 s2 D σ H := ⟨M, h, q⟩
theorem w_while (W : Nat → L2.St → Hp → Prop) (m0 : Nat) (h0 : W m0 σ H) (hs : ∀ m σ H, W m σ H → t σ H fun b H1 => if b = true then ∃ N : L2.St → Hp → Prop, (∀ σ' H', N σ' H' → ∃ m', m' < m ∧ W m' σ' H') ∧ s1 { D with nx := N, ct := N, bk := D.nx } σ H1 else D.nx σ H1) : tWhile t s1 D σ H := ⟨W, ⟨m0, h0⟩, hs⟩
theorem w_truL {l : Addr} {xs : List V} {A : Bool → Prop} (h : SqL K H l xs) (q : A (!xs.isEmpty)) : ∃ k, TruV K (.ref l) H k ∧ A k := ⟨_, .inl ⟨xs, h, rfl⟩, q⟩
theorem w_next (h : D.nx σ H) : tNext D σ H := h
theorem w_drop (h : te σ H fun _ H1 => D.nx σ H1) : tDrop te D σ H := h
theorem w_ret (h : te σ H D.rt) : tRet te D σ H := h
theorem w_asg (h : te σ H fun x H1 => g x σ H1 D.nx) : tAsg te g D σ H := h
theorem w_if (h : t σ H fun b H1 => if b = true then s1 D σ H1 else s2 D σ H1) : tIfS t s1 s2 D σ H := h
theorem w_name {v : V} {i : Nat} {R : L2.St → Hp → Prop} (h : R (σ.set i (some v)) H) : gName i v σ H R := h
theorem w_sub {v : V} {st : TSet} {R : L2.St → Hp → Prop} (h : ta σ H fun o H1 => tb σ H1 fun i H2 => st o i v H2 fun H3 => R σ H3) : gSub ta tb st v σ H R := h
theorem w_setL {R : Hp → Prop} {p : Addr} {xs : List V} {k : Int} {j : Nat} {v : V} (h : H p = some (.lst xs)) (a : ixN xs.length k = some j) (q : R (upd H p (.lst (xs.set j v)))) : rSetL (.ref p) (.int k) v H R := ⟨p, xs, k, j, rfl, rfl, h, a, q⟩
theorem w_aug {i : Nat} {x : V} {ti : TIp} (h : σ[i]? = some (some x)) (q : te σ H fun y H1 => ti x y H1 fun z H2 => D.nx (σ.set i (some z)) H2) : tAug i te ti D σ H := ⟨x, h, q⟩
theorem w_ipI {f : Int → Int → Int} {i j : Int} (q : Q (.int (f i j)) H) : ipI f (.int i) (.int j) H Q := ⟨i, j, rfl, rfl, q⟩
end

/-! ### what a for walks -/
def ForB (J : It) (g : TG) (tb : TS) (D : Ends) (σ : L2.St) (H1 : Hp) : Prop := ∃ W : Nat → Nat → L2.St → Hp → Prop, (∃ m, W 0 m σ H1) ∧ ∀ i m σ H, W i m σ H →
  (J.stop i H ∧ D.nx σ H) ∨ (J.go i H ∧ ∃ N : L2.St → Hp → Prop, (∀ σ' H', N σ' H' → ∃ m', m' < m ∧ W (i + 1) m' σ' H') ∧ ∀ x H', J.yld i H x H' → g x σ H' fun σ2 H2 => tb { D with nx := N, ct := N, bk := D.nx } σ2 H2)
def LcB (J : It) (g : TG) (tt : TT) (te : TE) (vs : List Nat) (Q : VK) (σ : L2.St) (H1 : Hp) (Dl : Addr) : Prop := ∃ W : Nat → Nat → Hp → Prop, (∃ m, W 0 m (upd H1 Dl (.lst []))) ∧ ∀ i m H, W i m H →
  (J.stop i H ∧ Q (.ref Dl) H) ∨ (J.go i H ∧ ∃ Nx : Hp → Prop, (∀ H', Nx H' → ∃ m', m' < m ∧ W (i + 1) m' H') ∧ ∀ x H', J.yld i H x H' → g x (wipe σ vs) H' fun σ2 H2 => wipe σ2 vs = wipe σ vs ∧ tt σ2 H2 fun b H3 =>
    if b = true then te σ2 H3 fun y H4 => ∃ acc, H4 Dl = some (.lst acc) ∧ acc.length < sizeLine ∧ Nx (upd H4 Dl (.lst (acc ++ [y]))) else Nx H3)
section
variable {K : PySem.W.Frag} {σ : L2.St} {H : Hp} {D : Ends} {ta tb : TE} {tA : TA} {g : TG} {s1 : TS} {wi : TI} {R : It → Hp → Prop}
theorem w_for (h : wi σ H fun J H1 => ForB J g s1 D σ H1) : tFor wi g s1 D σ H := h
theorem w_iL (h : ta σ H fun x H1 => ∃ a, x = .ref a ∧ (∃ xs, SqL K H1 a xs) ∧ R (Itl K a) H1) : iList K ta σ H R := h
theorem w_iL1 {a : Addr} {xs : List V} {B : Addr → Prop} (h : SqL K H a xs) (q : B a) : ∃ b, V.ref a = .ref b ∧ (∃ ys, SqL K H b ys) ∧ B b := ⟨a, rfl, ⟨xs, h⟩, q⟩
theorem w_iT (h : ta σ H fun x H1 => ∃ a, x = .ref a ∧ (∃ xs, SqT K H1 a xs) ∧ R (Itt K a) H1) : iTup K ta σ H R := h
theorem w_iT1 {a : Addr} {xs : List V} {B : Addr → Prop} (h : SqT K H a xs) (q : B a) : ∃ b, V.ref a = .ref b ∧ (∃ ys, SqT K H b ys) ∧ B b := ⟨a, rfl, ⟨xs, h⟩, q⟩
theorem w_iR (h : tA σ H fun vs H1 => ∃ j : Int, vs = [.int j] ∧ -(2 ^ 62) ≤ j ∧ j < 2 ^ 62 ∧ R (Itr 0 j.toNat) H1) : iRng1 tA σ H R := h
theorem w_iR1 {j : Int} {B : Int → Prop} (h1 : -(2 ^ 62) ≤ j) (h2 : j < 2 ^ 62) (q : B j) : ∃ k, [V.int j] = [V.int k] ∧ -(2 ^ 62) ≤ k ∧ k < 2 ^ 62 ∧ B k := ⟨j, rfl, h1, h2, q⟩
theorem w_yes {R : Bool → Hp → Prop} (h : R true H) : tYes σ H R := h
theorem w_wipe {σ2 : L2.St} {vs : List Nat} {B : Prop} (e : wipe σ2 vs = wipe σ vs) (q : B) : wipe σ2 vs = wipe σ vs ∧ B := ⟨e, q⟩
theorem w_lc {tt : TT} {te : TE} {vs : List Nat} {Q : VK} (h : wi σ H fun J H1 => ∀ Dl, H1 Dl = none → LcB J g tt te vs Q σ H1 Dl) : tLc wi g tt te vs σ H Q := h
end

/-! ### frames: all that H knows, but the object at s -/
def Fr (s : Addr) (H H' : Hp) : Prop := ∀ a o, a ≠ s → H a = some o → H' a = some o
section
variable {K : PySem.W.Frag} {H H' H0 H1 H2 : Hp} {a p s : Addr} {o : HO} {xs ys : List V}
theorem Fr.refl (s : Addr) (H : Hp) : Fr s H H := fun _ _ _ h => h
theorem Fr.ex (e : Ex H H') : Fr s H H' := fun a o _ h => e a o h
theorem Fr.trans (a : Fr s H H1) (b : Fr s H1 H2) : Fr s H H2 := fun x o n h => b x o n (a x o n h)
theorem Fr.new (e : Fr s H H') (h : H' p = none) : Fr s H (upd H' p o) := fun x u n ha => by
  have q := e x u n ha
  rw [upd_ne (ne_of_none q h)]
  exact q
theorem Fr.mut (e : Fr s H H') (h : H p = none) : Fr s H (upd H' p o) := fun x u n ha => by
  rw [upd_ne (ne_of_none ha h)]
  exact e x u n ha
theorem Fr.own (e : Fr s H H') : Fr s H (upd H' s o) := fun x u n ha => by
  rw [upd_ne n]
  exact e x u n ha
theorem Fr.free (e : Fr s H H') (hs : H s = some o) (h : H' p = none) (h2 : p ≠ s) : H p = none := by
  cases q : H p with
  | none => rfl
  | some u =>
    rw [e p u h2 q] at h
    cases h
theorem fr_t (e : Fr s H H') (hs : H s = some (.lst ys)) (h : SqT K H a xs) : SqT K H' a xs := by
  rcases h with (h | ⟨ob, h⟩) | h
  · exact .inl (.inl (e a _ (fun z => by rw [z, hs] at h; cases h) h))
  · exact .inl (.inr ⟨ob, e a _ (fun z => by rw [z, hs] at h; cases h) h⟩)
  · exact .inr h
theorem ex_upd (e : Ex H H') (h : H p = none) : Ex H (upd H' p o) := e.mut h
theorem ex_new (e : Ex H H') (h : H' p = none) : Ex H (upd H' p o) := e.trans (Ex.new h)
theorem ly_at (e : Ex H H') (h : H a = some o) : H' a = some o := e a o h
theorem ly_atF (e : Fr s H H') (n : a ≠ s) (h : H a = some o) : H' a = some o := e a o n h
theorem ly_mulL {i j : Int} (h1 : -(2 ^ 64) < i) (h2 : i < 2 ^ 64) : CMul i j := .inl ⟨h1, h2⟩
theorem ly_mulR {i j : Int} (h1 : -(2 ^ 64) < j) (h2 : j < 2 ^ 64) : CMul i j := .inr ⟨h1, h2⟩
end
/-! ### built-in calls -/
section
variable {K : PySem.W.Frag} {H : Hp} {Q : VK} {p : Addr} {xs : List V}
theorem w_int {i : Int} {A : Int → Prop} {B : Prop} (q : A i) : (∃ j, [V.int i] = [V.int j] ∧ A j) ∨ B := .inl ⟨i, rfl, q⟩
theorem w_intB {k : Bool} {A : Prop} {B : Bool → Prop} (q : B k) : A ∨ ∃ c, [V.bl k] = [V.bl c] ∧ B c := .inr ⟨k, rfl, q⟩
theorem w_abs {i : Int} {A : Int → Prop} (q : A i) : ∃ j, [V.int i] = [V.int j] ∧ A j := ⟨i, rfl, q⟩
theorem w_lenL {A : Addr → List V → Prop} (h : SqL K H p xs) (q : A p xs) : ∃ a ys, [V.ref p] = [V.ref a] ∧ (SqL K H a ys ∨ SqT K H a ys) ∧ A a ys := ⟨p, xs, rfl, .inl h, q⟩
theorem w_lenT {A : Addr → List V → Prop} (h : SqT K H p xs) (q : A p xs) : ∃ a ys, [V.ref p] = [V.ref a] ∧ (SqL K H a ys ∨ SqT K H a ys) ∧ A a ys := ⟨p, xs, rfl, .inr h, q⟩
theorem w_tupL {A B : Addr → List V → Prop} (h : SqL K H p xs) (q : A p xs) : ∃ a ys, [V.ref p] = [V.ref a] ∧ ((SqL K H a ys ∧ A a ys) ∨ (SqT K H a ys ∧ B a ys)) := ⟨p, xs, rfl, .inl ⟨h, q⟩⟩
theorem w_tupT {A B : Addr → List V → Prop} (h : SqT K H p xs) (q : B p xs) : ∃ a ys, [V.ref p] = [V.ref a] ∧ ((SqL K H a ys ∧ A a ys) ∨ (SqT K H a ys ∧ B a ys)) := ⟨p, xs, rfl, .inr ⟨h, q⟩⟩
theorem w_nT {A B : Prop} (h : B) : if (!true) = true then A else B := iteF h
theorem w_nF {A B : Prop} (h : A) : if (!false) = true then A else B := iteT h
theorem w_br {c A B : Prop} [Decidable c] (h1 : c → A) (h2 : ¬ c → B) : if decide c = true then A else B := ite2 (fun h => h1 (of_decide_eq_true h)) (fun h => h2 (fun z => h (decide_eq_true z)))
theorem w_deIS {i : Int} {x : Str} {A B : Prop} (h : B) : if decide (V.int i = V.str x) = true then A else B := iteF h
theorem w_deSI {i : Int} {x : Str} {A B : Prop} (h : B) : if decide (V.str x = V.int i) = true then A else B := iteF h
theorem w_deST {x y : Str} {A B : Prop} (e : x = y) (h : A) : if decide (V.str x = V.str y) = true then A else B := by
  rw [decide_eq_true (by rw [e])]
  exact iteT h
theorem w_deSF {x y : Str} {A B : Prop} (e : x ≠ y) (h : B) : if decide (V.str x = V.str y) = true then A else B := by
  rw [decide_eq_false (fun z => e (V.str.inj z))]
  exact iteF h
theorem w_deISn {i : Int} {x : Str} {A B : Prop} (h : A) : if (!decide (V.int i = V.str x)) = true then A else B := iteT h
theorem w_deSTn {x y : Str} {A B : Prop} (e : x = y) (h : B) : if (!decide (V.str x = V.str y)) = true then A else B := by
  rw [decide_eq_true (by rw [e])]
  exact iteF h
theorem w_deSFn {x y : Str} {A B : Prop} (e : x ≠ y) (h : A) : if (!decide (V.str x = V.str y)) = true then A else B := by
  rw [decide_eq_false (fun z => e (V.str.inj z))]
  exact iteT h
theorem w_neS {x : V} {A B : Prop} (h : B) : if (!decide (x = x)) = true then A else B := by
  rw [decide_eq_true rfl]
  exact iteF h
theorem w_eqS {x : V} {A B : Prop} (h : A) : if decide (x = x) = true then A else B := by
  rw [decide_eq_true rfl]
  exact iteT h
theorem w_neSb {x : Bool} {A B : Prop} (h : B) : if (!decide (x = x)) = true then A else B := by
  rw [decide_eq_true rfl]
  exact iteF h
theorem w_eqSb {x : Bool} {A B : Prop} (h : A) : if decide (x = x) = true then A else B := by
  rw [decide_eq_true rfl]
  exact iteT h
theorem w_neG {α : Type} {x : α} [Decidable (x = x)] {A B : Prop} (h : B) : if (!decide (x = x)) = true then A else B := by
  rw [decide_eq_true rfl]
  exact iteF h
theorem w_eqG {α : Type} {x : α} [Decidable (x = x)] {A B : Prop} (h : A) : if decide (x = x) = true then A else B := by
  rw [decide_eq_true rfl]
  exact iteT h
theorem w_nn {B : Prop} (q : B) : V.non = V.non ∧ B := ⟨rfl, q⟩
theorem w_nnT {A B : Prop} (h : B) : if (!decide (V.non = V.non)) = true then A else B := iteF h
theorem w_nnR {a : Addr} {A B : Prop} (h : A) : if (!decide (V.ref a = V.non)) = true then A else B := iteT h
theorem w_brI {i j : Int} {A B : Prop} (h1 : i = j → A) (h2 : i ≠ j → B) : if decide (V.int i = V.int j) = true then A else B := w_br (fun h => h1 (V.int.inj h)) (fun h => h2 (fun z => h (by rw [z])))
theorem w_brS {i j : Str} {A B : Prop} (h1 : i = j → A) (h2 : i ≠ j → B) : if decide (V.str i = V.str j) = true then A else B := w_br (fun h => h1 (V.str.inj h)) (fun h => h2 (fun z => h (by rw [z])))
theorem w_brIn {i j : Int} {A B : Prop} (h1 : i ≠ j → A) (h2 : i = j → B) : if (!decide (V.int i = V.int j)) = true then A else B := by
  by_cases e : i = j
  · rw [e, decide_eq_true rfl]
    exact iteF (h2 e)
  · rw [decide_eq_false (fun z => e (V.int.inj z))]
    exact iteT (h1 e)
theorem w_brSn {i j : Str} {A B : Prop} (h1 : i ≠ j → A) (h2 : i = j → B) : if (!decide (V.str i = V.str j)) = true then A else B := by
  by_cases e : i = j
  · rw [e, decide_eq_true rfl]
    exact iteF (h2 e)
  · rw [decide_eq_false (fun z => e (V.str.inj z))]
    exact iteT (h1 e)
theorem w_disp {R : Addr → Prop} (z : xs.length ≤ sizeLine) (q : ∀ p, H p = none → R p) : xs.length ≤ sizeLine ∧ ∀ p, H p = none → R p := ⟨z, q⟩
theorem w_tyL {R : Prop} (h : SqL K H p xs) (q : R) : tyV K "list" (.ref p) H ∧ R := ⟨.inl ⟨rfl, xs, h⟩, q⟩
end
/-! ### errors -/
theorem kcls_mk {K : PySem.W.Frag} {t : Value} {C : Addr} {r : Bool} (d : PySem.W.hasDictIn K C = true) (ty : PySem.W.typeIn K (.ref C) = some (.type "type")) (s : PySem.W.subIn K t (.ref C) = some r) : PySem.W.kitCls K t (.ref C) = some r := by
  have h : ((PySem.W.clsIn K C).isSome && PySem.W.typeIn K (.ref C) == some (.type "type")) = true := by
    obtain ⟨cd, hc, _⟩ := PySem.W.any_some d
    rw [hc, ty]
    simp
  show (if ((PySem.W.clsIn K C).isSome && PySem.W.typeIn K (.ref C) == some (.type "type")) = true then PySem.W.subIn K t (.ref C) else none) = some r
  rw [if_pos h, s]
theorem kitOne_mk {K : PySem.W.Frag} {t : Value} {C : Addr} (d : PySem.W.hasDictIn K C = true) (ty : PySem.W.typeIn K (.ref C) = some (.type "type")) (s : PySem.W.subIn K t (.ref C) = some true) : PySem.W.kitOne K t (.ref C) = some true := by
  unfold PySem.W.kitOne
  split
  · rfl
  · exact kcls_mk d ty s
theorem kitVE {K : PySem.W.Frag} {C : Addr} (s : PySem.W.subIn K (.ref C) (.type "ValueError") = some true) : PySem.W.kitOne K (.ref C) (.type "ValueError") = some true := by
  have m : PySem.W.kitMeta "ValueError" = true := by decide +kernel
  show (if (Value.ref C == Value.type "ValueError") = true then some true else if PySem.W.kitMeta "ValueError" = true then PySem.W.subIn K (.ref C) (.type "ValueError") else none) = some true
  rw [if_pos m, s]
  split <;> rfl
theorem exm_mk {K : PySem.W.Frag} {t : Value} {C : Addr} {r : Bool} (b : PySem.W.subIn K (.ref C) (.type "BaseException") = some true) (d : PySem.W.hasDictIn K C = true) (ty : PySem.W.typeIn K (.ref C) = some (.type "type")) (s : PySem.W.subIn K t (.ref C) = some r) : PySem.W.exmOne K t (.ref C) = some r := by
  unfold PySem.W.exmOne
  rw [b]
  simp [kcls_mk d ty s]
theorem call_isEa {X : Cx} {a : Addr} {oe : Obj} {cls : Value} {d : Option Addr} {pn : List (Addr × Obj)} (hz : Zc cls d oe) (hf : ∃ vs, oe.data = .fields vs) :
    CallR (X.suite a ((a, oe) :: pn)) (.builtin "isinstance") (fun xs H Q => ∃ D, cls = .ref D ∧ d = none ∧ ExcC X.K D ∧ rIsE X.K D a xs H Q) := by
  intro pins s σ H xs us Q I r ⟨D, e1, e2, C, h⟩
  subst e1 e2
  exact call_isE C hz hf pins s σ H xs us Q I r h
section
variable {K : PySem.W.Frag} {σ : L2.St} {H : Hp} {Q : VK} {te : TE} {tA : TA}
theorem w_js {ts : List TE} {acc : Str} {R : Str → Hp → Prop} (h : te σ H fun x H1 => ∃ y : Str, x = .str y ∧ (acc ++ y).length ≤ sizeLine ∧ tJs ts (acc ++ y) σ H1 R) : tJs (te :: ts) acc σ H R := h
theorem w_jsn {acc : Str} {R : Str → Hp → Prop} (h : R acc H) : tJs [] acc σ H R := h
theorem w_js1 {z acc : Str} {A : Str → Prop} (hl : (acc ++ z).length ≤ sizeLine) (q : A z) : ∃ y : Str, V.str z = .str y ∧ (acc ++ y).length ≤ sizeLine ∧ A y := ⟨z, rfl, hl, q⟩
theorem w_fmt (h : te σ H fun x H1 => (∃ y : Str, x = .str y ∧ y.length ≤ sizeLine ∧ Q (.str y) H1) ∨ ∃ i : Int, x = .int i ∧ i.natAbs.log2 < 1920 ∧ Q (.str (toString i)) H1) : tFmt te σ H Q := h
theorem w_fmt1 {i : Int} {A : Prop} {B : Int → Prop} (hl : i.natAbs.log2 < 1920) (q : B i) : A ∨ ∃ j : Int, V.int i = .int j ∧ j.natAbs.log2 < 1920 ∧ B j := .inr ⟨i, rfl, hl, q⟩
theorem w_callS {sp : Sp} {E : L2.St → XK} (h : tA σ H fun vs H1 => sp vs H1 Q (E σ)) : tCallS sp E tA σ H Q := h
end
/-! ### tuples that come: some tuple of these items -/
section
variable {K : PySem.W.Frag} {H H' : Hp} {Q : VK} {a b p : Addr} {xs ys : List V}
theorem w_catA (h : SqT K H a xs) (h2 : SqT K H b ys) (z : xs.length + ys.length ≤ sizeLine) (q : ∀ p H', Ex H H' → SqT K H' p (xs ++ ys) → Q (.ref p) H') : rCatA K (.ref a) (.ref b) H Q :=
  ⟨a, b, xs, ys, rfl, rfl, h, h2, z, fun e => q b H (Ex.refl H) (by rw [e]; exact h2), fun _ e => q a H (Ex.refl H) (by rw [e, List.append_nil]; exact h), fun _ _ p hp => q p _ (Ex.new hp) (SqT.of upd_same)⟩
theorem w_slA {lo hi : Option Int} (h : SqT K H a xs) (q : ∀ p H', Ex H H' → SqT K H' p (cutV xs lo hi) → Q (.ref p) H') : rSlA K (.ref a) lo hi H Q := by
  refine ⟨a, xs, rfl, h, fun e => q a H (Ex.refl H) ?_, fun _ p hp => q p _ (Ex.new hp) (SqT.of upd_same)⟩
  unfold cutV
  rw [e.1, e.2]
  simpa using h
theorem tyx_t (h : SqT K H a xs) : TyX K H (.ref a) (.type "tuple") := by
  rcases h with (h | ⟨o, h⟩) | ⟨o, _, _, h, c, _⟩
  · exact .base (.tup h)
  · exact .fTuple h
  · exact .kTuple h c
theorem tyx_l (h : SqL K H a xs) : TyX K H (.ref a) (.type "list") := by
  rcases h with (h | ⟨o, h⟩) | ⟨o, _, _, h, c, _⟩
  · exact .base (.lst h)
  · exact .base (.frz h)
  · exact .kList h c
end
/-! ### tuple * int -/
set_option maxHeartbeats 4000000 in
theorem mul_one_meets (l : Addr) (items : Array Value) (n : Nat) (di : Option Addr) (ss : Array (Option Value)) (u : Tok) :
    Meets (Builtin.«tuple.__mul__» ⟨[.ref l, .int 1 u], []⟩) (fun _ R s => s.heap.get? l = some { cls := .type "tuple", dict := di, data := .seq items n, slots := ss } ∧ R (.ok (.ret (Value.ref l))) s) :=
  .of_wp fun prog w A R s ⟨hl, h⟩ => by
    obtain ⟨hp, g, d, tk, os⟩ := s
    have idx := AutoSeq1.idx_int
    have c1 : (items.isEmpty || (1 : Int) == 1) = true := by simp
    have c0 : (decide ((1 : Int) < -(2 ^ 63)) || decide ((1 : Int) ≥ 2 ^ 63)) = false := by decide
    wp_walk using wpAny_loadPart' hl
    repeat (first
      | (refine wpAny_ite_false (decide_eq_false (fun z => by rw [c0] at z; cases z)) ?_; wp_walk using wpAny_loadPart' hl)
      | (refine wpAny_ite_true (decide_eq_true (by simp)) ?_; wp_walk using wpAny_loadPart' hl))
    exact ⟨_, rfl, h⟩
set_option maxHeartbeats 4000000 in
theorem mul_zero_meets (l : Addr) (items : Array Value) (n : Nat) (di : Option Addr) (ss : Array (Option Value)) (u : Tok) (em : items.isEmpty = false) :
    Meets (Builtin.«tuple.__mul__» ⟨[.ref l, .int 0 u], []⟩) (fun _ R s => s.heap.get? l = some { cls := .type "tuple", dict := di, data := .seq items n, slots := ss } ∧
      R (.ok (.ret (Value.ref s.heap.objs.size))) { s with heap := s.heap.push { cls := Value.type "tuple", data := Data.seq #[] }, toks := s.toks }) :=
  .of_wp fun prog w A R s ⟨hl, h⟩ => by
    obtain ⟨hp, g, d, tk, os⟩ := s
    have idx := AutoSeq1.idx_int
    have c1 : (items.isEmpty || (0 : Int) == 1) = false := by rw [em]; rfl
    have c2 : (decide ((0 : Int) ≤ 0) || items.isEmpty) = true := by simp
    have c0 : (decide ((0 : Int) < -(2 ^ 63)) || decide ((0 : Int) ≥ 2 ^ 63)) = false := by decide
    wp_walk using wpAny_loadPart' hl
    repeat (first
      | (refine wpAny_ite_false (decide_eq_false (fun z => by rw [c0] at z; cases z)) ?_; wp_walk using wpAny_loadPart' hl)
      | (refine wpAny_ite_false (decide_eq_false (fun z => by rw [c1] at z; cases z)) ?_; wp_walk using wpAny_loadPart' hl)
      | (refine wpAny_ite_true (decide_eq_true c2) ?_; wp_walk using wpAny_loadPart' hl))
    exact ⟨_, rfl, h⟩
def rRepB (K : PySem.W.Frag) : R2 := fun x y H Q => ∃ (l : Addr) (k : Int) (xs : List V), x = .ref l ∧ y = .int k ∧ SqT K H l xs ∧ xs ≠ [] ∧ 0 ≤ k ∧ k ≤ 3000 ∧ xs.length ≤ 1000 ∧ (k = 1 → Q (.ref l) H) ∧ (k ≠ 1 → ∀ p, H p = none → Q (.ref p) (upd H p (.tup (List.replicate k.toNat xs).flatten)))
theorem op_repB {X : Cx} : OpR X (binaryOp .Mult) (rRepB X.K) := by
  intro pins s σ H x y v u Q I rx ry ⟨l, k, xs, ex, ey, hT, hne, k0, k3, hz, q1, q⟩
  subst ex ey
  cases rx
  obtain ⟨tt, eu⟩ := ry
  subst eu
  obtain ⟨its, r, ⟨⟨cl, di, da, ss⟩, hob, hcl, n, hda⟩, _⟩ := I.tuple hT
  simp only at hcl hda
  subst hcl hda
  have el : its.length = xs.length := r.length.symm
  have es : its.toArray.size = xs.length := by rw [List.size_toArray, el]
  have pos : 0 < xs.length := List.length_pos_iff.mpr hne
  have em : its.toArray.isEmpty = false := by
    rw [Array.isEmpty_eq_false_iff_exists_mem]
    obtain ⟨a0, ha0⟩ := List.exists_mem_of_length_pos (l := its) (by omega)
    exact ⟨a0, by simpa using ha0⟩
  have big : k.toNat * xs.length ≤ 3000 * 1000 := Nat.mul_le_mul (by omega) hz
  have prod : ((its.toArray.size : Nat) : Int) * k = ((k.toNat * xs.length : Nat) : Int) := by
    rw [es, Int.natCast_mul, Int.toNat_of_nonneg (by omega), Int.mul_comm]
  have fl : (List.replicate k.toNat its).flatten.length = k.toNat * xs.length := by rw [PyProof.Rows.lm_len_rep_flat, el]
  have sl := sizeLine_eq
  have d0 : (decide (k < -(2 ^ 63)) || decide (k ≥ 2 ^ 63)) = false := by simp; omega
  refine wpAny_binaryOp_repeat_ref (T := "tuple") (U := "int") (by decide) ⟨_, hob, rfl⟩ (fun z => typeIs_int z k tt) noFill_tuple_mul F.fills_int_mul F.slot_int_rmul repeat_tuple F.slot_int_index.lookup (call_meets F.slot_int_rmul (typeIs_int s k tt) F.entry_int_rmul (F.args_int_rmul_2 _ _)
    (int_rmul_tuple k tt l its.toArray n di ss) ⟨hob, rfl, ⟨_, hob, rfl⟩, ?_⟩)
  have made : ∀ (xs2 : List V) (us : List Value), Vals xs2 us → xs2.length ≤ 3000000 → (∀ p, H p = none → Q (.ref p) (upd H p (.tup xs2))) → EP X pins σ Q (.ref s.heap.objs.size) { s with heap := s.heap.push { cls := Value.type "tuple", data := Data.seq us.toArray }, toks := s.toks } := fun xs2 us rv hlen q2 =>
    ⟨.ref s.heap.objs.size, _, I.laid (t' := s.toks) (o := .tup xs2) (fun _ _ z => Heap.get?_push_of_some _ z) (Nat.le_refl _) ⟨by omega, _, rv, IsTup.new _ _⟩, rfl, q2 _ (I.hok.fresh (Nat.le_refl _))⟩
  by_cases h1 : k = 1
  · subst h1
    exact call_meets F.slot_tuple_mul ⟨_, hob, rfl⟩ F.entry_tuple_mul (F.args_tuple_mul_2 _ _) (mul_one_meets l its.toArray n di ss tt) ⟨hob, .ref l, H, I, rfl, q1 rfl⟩
  · by_cases h2 : k = 0
    · subst h2
      exact call_meets F.slot_tuple_mul ⟨_, hob, rfl⟩ F.entry_tuple_mul (F.args_tuple_mul_2 _ _) (mul_zero_meets l its.toArray n di ss tt em) ⟨hob, made [] [] .nil (by simp) (q h1)⟩
    · have d1 : (its.toArray.isEmpty || k == 1) = false := by rw [em]; simp; omega
      have d2 : (decide (k ≤ 0) || its.toArray.isEmpty) = false := by rw [em]; simp; omega
      have d4 : Builtin.Tuple.tupleTooMany (((its.toArray.size : Nat) : Int) * k) = false := by
        rw [prod]
        unfold Builtin.Tuple.tupleTooMany
        exact decide_eq_false (by omega)
      have tm : Meets _ _ := tuple_mulW l its.toArray n di ss k tt d0 d1 d2 (by rw [prod]; omega) d4 (by rw [size_rep, List.size_toArray, fl]; omega)
      refine call_meets F.slot_tuple_mul ⟨_, hob, rfl⟩ F.entry_tuple_mul (F.args_tuple_mul_2 _ _) tm ⟨hob, ?_⟩
      rw [size_rep]
      exact made _ _ (r.rep k.toNat) (by rw [PyProof.Rows.lm_len_rep_flat]; omega) (q h1)
theorem w_repB {K : PySem.W.Frag} {H : Hp} {Q : VK} {l : Addr} {k : Int} {xs : List V} (h : SqT K H l xs) (hne : xs ≠ []) (h2 : 0 ≤ k) (h3 : k ≤ 3000) (hz : xs.length ≤ 1000) (q : ∀ p H', Ex H H' → SqT K H' p (List.replicate k.toNat xs).flatten → Q (.ref p) H') : rRepB K (.ref l) (.int k) H Q := by
  refine ⟨l, k, xs, rfl, rfl, h, hne, h2, h3, hz, fun e => q l H (Ex.refl H) ?_, fun _ p hp => q p _ (Ex.new hp) (SqT.of upd_same)⟩
  subst e
  simpa using h
/-! ### the rules with the written part given -/
section
variable {X : Cx} {K : PySem.W.Frag}
theorem ix_listK (e : X.K = K) : IxR X (rIxL K) := by
  rw [← e]
  exact ix_list
theorem ix_tupK (e : X.K = K) : IxR X (rIxT K) := by
  rw [← e]
  exact ix_tup
theorem call_len_seqK (e : X.K = K) : CallR X (.builtin "len") (fun xs H Q => ∃ p ys, xs = [.ref p] ∧ (SqL K H p ys ∨ SqT K H p ys) ∧ Q (.int ys.length) H) := by
  rw [← e]
  exact call_len_seq
theorem op_catAK (e : X.K = K) : OpR X (binaryOp .Add) (rCatA K) := by
  rw [← e]
  exact op_catA
theorem op_repBK (e : X.K = K) : OpR X (binaryOp .Mult) (rRepB K) := by
  rw [← e]
  exact op_repB
theorem sl_tupAK (e : X.K = K) : SlR X (rSlA K) := by
  rw [← e]
  exact sl_tupA
end
/-! ### kinds that stay: lists stay lists, tuples stay what they are -/
def Kp (H H' : Hp) : Prop := (∀ a xs, H a = some (.lst xs) → ∃ ys, H' a = some (.lst ys)) ∧ ∀ a xs, H a = some (.tup xs) → H' a = some (.tup xs)
section
variable {K : PySem.W.Frag} {H H' H1 : Hp} {a s l : Addr} {xs ys : List V}
theorem Kp.refl (H : Hp) : Kp H H := ⟨fun _ xs h => ⟨xs, h⟩, fun _ _ h => h⟩
theorem Kp.trans (e : Kp H H1) (f : Kp H1 H') : Kp H H' := ⟨fun a xs h => by
  obtain ⟨ys, h1⟩ := e.1 a xs h
  exact f.1 a ys h1, fun a xs h => f.2 a xs (e.2 a xs h)⟩
theorem Kp.ex (e : Ex H H') : Kp H H' := ⟨fun a xs h => ⟨xs, e a _ h⟩, fun a xs h => e a _ h⟩
theorem Kp.fr (e : Fr s H H') (h : H s = some (.lst xs)) (h2 : H' s = some (.lst ys)) : Kp H H' := ⟨fun a zs q => by
  by_cases z : a = s
  · rw [z]
    exact ⟨_, h2⟩
  · exact ⟨_, e a _ z q⟩, fun a zs q => e a _ (fun z => by rw [z, h] at q; cases q) q⟩
theorem Kp.put (h : H l = some (.lst xs)) : Kp H (upd H l (.lst ys)) := ⟨fun a zs q => by
  by_cases z : a = l
  · rw [z]
    exact ⟨_, upd_same⟩
  · exact ⟨zs, by rw [upd_ne z]; exact q⟩, fun a zs q => by
  rw [upd_ne (fun z => by rw [z, h] at q; cases q)]
  exact q⟩
/-- the values of the law that asks is_term -/
inductive Kd (H : Hp) : V → Prop
  | int (i : Int) : Kd H (.int i)
  | str (x : Str) : Kd H (.str x)
  | bl (b : Bool) : Kd H (.bl b)
  | non : Kd H .non
  | lst {a : Addr} {xs : List V} (h : H a = some (.lst xs)) : Kd H (.ref a)
  | tup {a : Addr} {xs : List V} (h : H a = some (.tup xs)) : Kd H (.ref a)
theorem Kd.mono {v : V} (h : Kd H v) (e : Kp H H') : Kd H' v := by
  cases h with
  | int i => exact .int i
  | str x => exact .str x
  | bl b => exact .bl b
  | non => exact .non
  | lst h =>
    obtain ⟨ys, h⟩ := e.1 _ _ h
    exact .lst h
  | tup h => exact .tup (e.2 _ _ h)
end
theorem Kd.ty {H : Hp} {v : V} (h : Kd H v) (K : PySem.W.Frag) : ∃ n, TyX K H v (.type n) ∧ n = (match v with | .int _ => "int" | .str _ => "str" | .bl _ => "bool" | .non => "NoneType" | _ => n) := by
  cases h with
  | int i => exact ⟨_, .base (.int i), rfl⟩
  | str i => exact ⟨_, .base (.str i), rfl⟩
  | bl i => exact ⟨_, .base (.bl i), rfl⟩
  | non => exact ⟨_, .base .non, rfl⟩
  | lst h => exact ⟨_, .base (.lst h), rfl⟩
  | tup h => exact ⟨_, .base (.tup h), rfl⟩
theorem qeq {Q : VK} {H : Hp} {b c : Bool} (q : Q (.bl b) H) (e : b = c) : Q (.bl c) H := by
  rw [← e]
  exact q
theorem all_nil {H : Hp} : ∀ x ∈ ([] : List V), Kd H x := fun x h => absurd h (by simp)
theorem all_cons {H : Hp} {v : V} {xs : List V} (h : Kd H v) (t : ∀ x ∈ xs, Kd H x) : ∀ x ∈ v :: xs, Kd H x := fun x hx => by
  rcases List.mem_cons.mp hx with e | e
  · rw [e]
    exact h
  · exact t x e
theorem all_app {H : Hp} {xs ys : List V} (h : ∀ x ∈ xs, Kd H x) (t : ∀ x ∈ ys, Kd H x) : ∀ x ∈ xs ++ ys, Kd H x := fun x hx => by
  rcases List.mem_append.mp hx with e | e
  · exact h x e
  · exact t x e
theorem all_kp {H H' : Hp} {xs : List V} (h : ∀ x ∈ xs, Kd H x) (e : Kp H H') : ∀ x ∈ xs, Kd H' x := fun x hx => (h x hx).mono e
theorem at_in {xs : List V} {i : Int} (h0 : 0 ≤ i) (h1 : i < xs.length) : ∃ v, atI xs i = some v ∧ v ∈ xs := by
  have h2 : i.toNat < xs.length := by omega
  refine ⟨xs[i.toNat], at_of (j := i.toNat) (by omega) (List.getElem?_eq_getElem h2), List.getElem_mem h2⟩
/-! ### isinstance of built-in values -/
section
variable {K : PySem.W.Frag}
theorem kit_int_int : PySem.W.kitOne K (.type "int") (.type "int") = some true := kit_ty (by decide +kernel)
theorem kit_int_str : PySem.W.kitOne K (.type "int") (.type "str") = some false := kit_ty (by decide +kernel)
theorem kit_int_bool : PySem.W.kitOne K (.type "int") (.type "bool") = some false := kit_ty (by decide +kernel)
theorem kit_int_tuple : PySem.W.kitOne K (.type "int") (.type "tuple") = some false := kit_ty (by decide +kernel)
theorem kit_int_list : PySem.W.kitOne K (.type "int") (.type "list") = some false := kit_ty (by decide +kernel)
theorem kit_str_int : PySem.W.kitOne K (.type "str") (.type "int") = some false := kit_ty (by decide +kernel)
theorem kit_str_str : PySem.W.kitOne K (.type "str") (.type "str") = some true := kit_ty (by decide +kernel)
theorem kit_str_bool : PySem.W.kitOne K (.type "str") (.type "bool") = some false := kit_ty (by decide +kernel)
theorem kit_str_tuple : PySem.W.kitOne K (.type "str") (.type "tuple") = some false := kit_ty (by decide +kernel)
theorem kit_str_list : PySem.W.kitOne K (.type "str") (.type "list") = some false := kit_ty (by decide +kernel)
theorem kit_bool_int : PySem.W.kitOne K (.type "bool") (.type "int") = some true := kit_ty (by decide +kernel)
theorem kit_bool_str : PySem.W.kitOne K (.type "bool") (.type "str") = some false := kit_ty (by decide +kernel)
theorem kit_bool_bool : PySem.W.kitOne K (.type "bool") (.type "bool") = some true := kit_ty (by decide +kernel)
theorem kit_bool_tuple : PySem.W.kitOne K (.type "bool") (.type "tuple") = some false := kit_ty (by decide +kernel)
theorem kit_bool_list : PySem.W.kitOne K (.type "bool") (.type "list") = some false := kit_ty (by decide +kernel)
theorem kit_NoneType_int : PySem.W.kitOne K (.type "NoneType") (.type "int") = some false := kit_ty (by decide +kernel)
theorem kit_NoneType_str : PySem.W.kitOne K (.type "NoneType") (.type "str") = some false := kit_ty (by decide +kernel)
theorem kit_NoneType_bool : PySem.W.kitOne K (.type "NoneType") (.type "bool") = some false := kit_ty (by decide +kernel)
theorem kit_NoneType_tuple : PySem.W.kitOne K (.type "NoneType") (.type "tuple") = some false := kit_ty (by decide +kernel)
theorem kit_NoneType_list : PySem.W.kitOne K (.type "NoneType") (.type "list") = some false := kit_ty (by decide +kernel)
theorem kit_list_int : PySem.W.kitOne K (.type "list") (.type "int") = some false := kit_ty (by decide +kernel)
theorem kit_list_str : PySem.W.kitOne K (.type "list") (.type "str") = some false := kit_ty (by decide +kernel)
theorem kit_list_bool : PySem.W.kitOne K (.type "list") (.type "bool") = some false := kit_ty (by decide +kernel)
theorem kit_list_tuple : PySem.W.kitOne K (.type "list") (.type "tuple") = some false := kit_ty (by decide +kernel)
theorem kit_list_list : PySem.W.kitOne K (.type "list") (.type "list") = some true := kit_ty (by decide +kernel)
theorem kit_tuple_int : PySem.W.kitOne K (.type "tuple") (.type "int") = some false := kit_ty (by decide +kernel)
theorem kit_tuple_str : PySem.W.kitOne K (.type "tuple") (.type "str") = some false := kit_ty (by decide +kernel)
theorem kit_tuple_bool : PySem.W.kitOne K (.type "tuple") (.type "bool") = some false := kit_ty (by decide +kernel)
theorem kit_tuple_tuple : PySem.W.kitOne K (.type "tuple") (.type "tuple") = some true := kit_ty (by decide +kernel)
theorem kit_tuple_list : PySem.W.kitOne K (.type "tuple") (.type "list") = some false := kit_ty (by decide +kernel)
end
/-- a def that may be called by its name -/
def Def (P : Program) (w : World) (K : PySem.W.Frag) (mg : Str → Option Value) (base : Heap) (CX : CXT) (k : Nat) (x : Str) (ps : List Str) (sp : Sp) : Prop :=
  ∃ (f : Addr) (fd : FuncData), mg x = some (.ref f) ∧ PySem.W.keepIn K (.ref f) = true ∧ Binds K fd ps [] ∧ FnOk P w K mg base CX k f fd ps sp
theorem Def.of {P : Program} {w : World} {K : PySem.W.Frag} {mg : Str → Option Value} {base : Heap} {CX : CXT} {k : Nat} {x : Str} {ps : List Str} {sp : Sp} {f : Addr} {fd : FuncData} (g : mg x = some (.ref f)) (kp : PySem.W.keepIn K (.ref f) = true) (b : Binds K fd ps []) (G : FnOk P w K mg base CX k f fd ps sp) : Def P w K mg base CX k x ps sp := ⟨f, fd, g, kp, b, G⟩
theorem drop_at {α : Type} {xs : List α} {i : Nat} {x : α} (h : xs[i]? = some x) : xs.drop i = x :: xs.drop (i + 1) := by
  obtain ⟨h1, rfl⟩ := List.getElem?_eq_some_iff.mp h
  exact List.drop_eq_getElem_cons h1
/-! ### nodes and terms, as values -/
def isVarV : V → Bool
  | .int i => decide (0 ≤ i) && decide (i ≤ 1000000)
  | _ => false
def isNodeV : V → Bool
  | .str x => decide (x = "lam") || decide (x = "app")
  | v => isVarV v
def pcV (v : V) : Int := if v = .str "app" then 2 else if v = .str "lam" then 1 else 0
def scanV : Int → List V → Bool
  | m, [] => decide (m = 0)
  | m, v :: r => if m = 0 ∨ isNodeV v = false then false else scanV (m + (pcV v - 1)) r
def isTermV (xs : List V) : Bool := decide (xs.length ≤ 1000) && scanV 1 xs
/-! ### terms -/
inductive Tm where
  | var (n : Nat)
  | lam (b : Tm)
  | app (f a : Tm)
def Tm.enc : Tm → List V
  | .var n => [.int n]
  | .lam b => .str "lam" :: b.enc
  | .app f a => .str "app" :: (f.enc ++ a.enc)
/-- its free variables are below d -/
def Tm.wf : Nat → Tm → Prop
  | d, .var n => n < d
  | d, .lam b => b.wf (d + 1)
  | d, .app f a => f.wf d ∧ a.wf d
def encs (ts : List Tm) : List V := (ts.map Tm.enc).flatten
/-- whatever terms stand for what waits (the last one first), the whole is a term -/
def Comp (loose : Nat) (nodes : List V) (wait : List Nat) : Prop := ∀ ts : List Tm, ts.length = wait.length → (∀ p ∈ ts.zip wait.reverse, p.1.wf (p.2 + loose)) → ∃ t : Tm, t.wf loose ∧ t.enc = nodes ++ encs ts
theorem Comp.start (loose : Nat) : Comp loose [] [0] := fun ts hl hw => by
  match ts, hl with
  | [t], _ =>
    refine ⟨t, ?_, by simp [encs]⟩
    have := hw (t, 0) (by simp)
    simpa using this
theorem Comp.done {loose : Nat} {nodes : List V} (h : Comp loose nodes []) : ∃ t : Tm, t.wf loose ∧ t.enc = nodes := by
  obtain ⟨t, h1, h2⟩ := h [] rfl (by simp)
  exact ⟨t, h1, by rw [h2]; simp [encs]⟩
theorem Comp.var {loose : Nat} {nodes : List V} {wait : List Nat} {d n : Nat} (h : Comp loose nodes (wait ++ [d])) (hn : n < d + loose) : Comp loose (nodes ++ [.int n]) wait := fun ts hl hw => by
  obtain ⟨t, h1, h2⟩ := h (.var n :: ts) (by simp [hl]) (fun p hp => by
    rw [List.reverse_append] at hp
    rcases List.mem_cons.mp hp with e | e
    · subst e
      exact hn
    · exact hw p e)
  exact ⟨t, h1, by rw [h2]; simp [encs, Tm.enc]⟩
theorem Comp.lam {loose : Nat} {nodes : List V} {wait : List Nat} {d : Nat} (h : Comp loose nodes (wait ++ [d])) : Comp loose (nodes ++ [.str "lam"]) (wait ++ [d + 1]) := fun ts hl hw => by
  match ts, hl with
  | [], hl => simp at hl
  | b :: r, hl =>
    rw [List.reverse_append] at hw
    obtain ⟨t, h1, h2⟩ := h (.lam b :: r) (by simpa using hl) (fun p hp => by
      rw [List.reverse_append] at hp
      rcases List.mem_cons.mp hp with e | e
      · subst e
        have := hw (b, d + 1) (by simp)
        show b.wf (d + loose + 1)
        have e2 : d + loose + 1 = d + 1 + loose := by omega
        rw [e2]
        exact this
      · exact hw p (List.mem_cons_of_mem _ e))
    exact ⟨t, h1, by rw [h2]; simp [encs, Tm.enc]⟩
theorem Comp.app {loose : Nat} {nodes : List V} {wait : List Nat} {d : Nat} (h : Comp loose nodes (wait ++ [d])) : Comp loose (nodes ++ [.str "app"]) (wait ++ [d] ++ [d]) := fun ts hl hw => by
  match ts, hl with
  | [], hl => simp at hl
  | [_], hl => simp at hl
  | f :: a :: r, hl =>
    rw [List.reverse_append, List.reverse_append] at hw
    obtain ⟨t, h1, h2⟩ := h (.app f a :: r) (by simpa using hl) (fun p hp => by
      rw [List.reverse_append] at hp
      rcases List.mem_cons.mp hp with e | e
      · subst e
        exact ⟨hw (f, d) (by simp), hw (a, d) (by simp)⟩
      · exact hw p (List.mem_cons_of_mem _ (List.mem_cons_of_mem _ e)))
    exact ⟨t, h1, by rw [h2]; simp [encs, Tm.enc]⟩
def Flat (xs : List V) : Prop := ∀ x ∈ xs, (∃ i, x = .int i) ∨ ∃ s, x = .str s
theorem Flat.kd {xs : List V} (h : Flat xs) (H : Hp) : ∀ x ∈ xs, Kd H x := fun x hx => by
  rcases h x hx with ⟨i, rfl⟩ | ⟨s, rfl⟩
  · exact .int i
  · exact .str s
theorem Flat.app {xs ys : List V} (h : Flat xs) (t : Flat ys) : Flat (xs ++ ys) := fun x hx => by
  rcases List.mem_append.mp hx with e | e
  · exact h x e
  · exact t x e
theorem Flat.rep {xs : List V} (h : Flat xs) (n : Nat) : Flat (List.replicate n xs).flatten := fun x hx => by
  obtain ⟨l, h1, h2⟩ := List.mem_flatten.mp hx
  rw [(List.mem_replicate.mp h1).2] at h2
  exact h x h2
theorem Flat.one (x : V) (h : (∃ i, x = .int i) ∨ ∃ s, x = .str s) : Flat [x] := fun y hy => by
  rw [List.mem_singleton.mp hy]
  exact h
theorem Flat.two (x z : V) (h : (∃ i, x = .int i) ∨ ∃ s, x = .str s) (h2 : (∃ i, z = .int i) ∨ ∃ s, z = .str s) : Flat [x, z] := fun y hy => by
  rcases List.mem_cons.mp hy with e | e
  · rw [e]
    exact h
  · rw [List.mem_singleton.mp e]
    exact h2
theorem Flat.cons {x : V} {xs : List V} (h : (∃ i, x = .int i) ∨ ∃ s, x = .str s) (t : Flat xs) : Flat (x :: xs) := fun y hy => by
  rcases List.mem_cons.mp hy with e | e
  · rw [e]
    exact h
  · exact t y e
theorem Flat.nil : Flat [] := fun x h => absurd h (by simp)
theorem Tm.flat : ∀ t : Tm, Flat t.enc
  | .var n => Flat.one _ (.inl ⟨_, rfl⟩)
  | .lam b => Flat.cons (.inr ⟨_, rfl⟩) b.flat
  | .app f a => Flat.cons (.inr ⟨_, rfl⟩) (f.flat.app a.flat)
/-- no variable too great -/
def okV : V → Bool
  | .int i => decide (i ≤ 1000000)
  | _ => true
def fitsV (xs : List V) : Bool := decide (xs.length ≤ 1000) && xs.all okV
/-! ### nodes compared -/
def Nds (xs : List V) : Prop := ∀ x ∈ xs, (∃ i, x = .int i) ∨ x = .str "lam" ∨ x = .str "app"
theorem Nds.flat {xs : List V} (h : Nds xs) : Flat xs := fun x hx => by
  rcases h x hx with e | e | e
  · exact .inl e
  · exact .inr ⟨_, e⟩
  · exact .inr ⟨_, e⟩
theorem Nds.nil : Nds [] := fun x h => absurd h (by simp)
theorem Nds.app {xs ys : List V} (h : Nds xs) (t : Nds ys) : Nds (xs ++ ys) := fun x hx => by
  rcases List.mem_append.mp hx with e | e
  · exact h x e
  · exact t x e
theorem Nds.cons {x : V} {xs : List V} (h : (∃ i, x = .int i) ∨ x = .str "lam" ∨ x = .str "app") (t : Nds xs) : Nds (x :: xs) := fun y hy => by
  rcases List.mem_cons.mp hy with e | e
  · rw [e]
    exact h
  · exact t y e
theorem Nds.rep {xs : List V} (h : Nds xs) (n : Nat) : Nds (List.replicate n xs).flatten := fun x hx => by
  obtain ⟨l, h1, h2⟩ := List.mem_flatten.mp hx
  rw [(List.mem_replicate.mp h1).2] at h2
  exact h x h2
theorem Nds.tail {x : V} {xs : List V} (h : Nds (x :: xs)) : Nds xs := fun y hy => h y (List.mem_cons_of_mem _ hy)
theorem Nds.take {xs : List V} (h : Nds xs) (n : Nat) : Nds (xs.take n) := fun x hx => h x (List.mem_of_mem_take hx)
theorem Nds.drop {xs : List V} (h : Nds xs) (n : Nat) : Nds (xs.drop n) := fun x hx => h x (List.mem_of_mem_drop hx)
theorem Nds.I (i : Int) : (∃ j, V.int i = .int j) ∨ V.int i = .str "lam" ∨ V.int i = .str "app" := .inl ⟨i, rfl⟩
theorem Nds.L : (∃ j, V.str "lam" = .int j) ∨ V.str "lam" = .str "lam" ∨ V.str "lam" = .str "app" := .inr (.inl rfl)
theorem Nds.A : (∃ j, V.str "app" = .int j) ∨ V.str "app" = .str "lam" ∨ V.str "app" = .str "app" := .inr (.inr rfl)
theorem Tm.nds : ∀ t : Tm, Nds t.enc
  | .var n => Nds.cons (Nds.I _) Nds.nil
  | .lam b => Nds.cons Nds.L b.nds
  | .app f a => Nds.cons Nds.A (f.nds.app a.nds)
def dv : V → PyData
  | .int i => .int i
  | .str x => .str x
  | _ => .none
theorem eqv_nodes : ∀ {xs ys : List V}, Nds xs → Nds ys → PyData.eqvAll (xs.map dv) (ys.map dv) = decide (xs = ys)
  | [], [], _, _ => by simp [PyData.eqvAll]
  | [], _ :: _, _, _ => by simp [PyData.eqvAll]
  | _ :: _, [], _, _ => by simp [PyData.eqvAll]
  | x :: xs, y :: ys, h, k => by
    have ih := eqv_nodes h.tail k.tail
    have hxy : PyData.eqv (dv x) (dv y) = decide (x = y) := by
      rcases h x List.mem_cons_self with ⟨i, rfl⟩ | rfl | rfl <;> rcases k y List.mem_cons_self with ⟨j, rfl⟩ | rfl | rfl <;> simp [dv, PyData.eqv] <;> first | (rw [Bool.eq_iff_iff]; simp) | decide +kernel
    rw [List.map_cons, List.map_cons, PyData.eqvAll, ih, hxy]
    simp
theorem lay_nodes : ∀ {xs : List V}, Nds xs → PyData.canLayAll0 (xs.map dv) = true
  | [], _ => rfl
  | x :: xs, h => by
    have ih := lay_nodes h.tail
    have hx : (dv x).canLay0 = true := by
      rcases h x List.mem_cons_self with ⟨i, rfl⟩ | rfl | rfl
      · rfl
      · decide +kernel
      · decide +kernel
    rw [List.map_cons, PyData.canLayAll0, hx, ih]
    rfl
theorem dp_nodes {K : PySem.W.Frag} {H : Hp} : ∀ {xs : List V}, Nds xs → DpAll K H xs (xs.map dv)
  | [], _ => .nil
  | x :: xs, h => by
    refine .cons ?_ (dp_nodes h.tail)
    rcases h x List.mem_cons_self with ⟨i, rfl⟩ | rfl | rfl
    · exact .int i
    · exact .str _
    · exact .str _
theorem depth_atom (x : V) : (dv x).depth ≤ 1 := by
  cases x <;> simp [dv, PyData.depth]
theorem depth_all : ∀ xs : List V, PyData.depthAll (xs.map dv) ≤ 1
  | [] => by simp [PyData.depthAll]
  | x :: xs => by
    have h1 := depth_atom x
    have h2 := depth_all xs
    simp only [List.map_cons, PyData.depthAll]
    omega
theorem depth_nodes {xs : List V} : (PyData.tuple (xs.map dv)).depth ≤ 2 := by
  have h := depth_all xs
  simp only [PyData.depth]
  omega
theorem shaped_nodes {xs : List V} (h : Nds xs) : SeqAt.shaped (.tuple (xs.map dv)) = true := by
  have h1 : (PyData.tuple (xs.map dv)).canLay0 = true := lay_nodes h
  have h2 := depth_nodes (xs := xs)
  unfold SeqAt.shaped
  rw [h1, Bool.true_and]
  exact decide_eq_true (by omega)
section
variable {K : PySem.W.Frag} {H : Hp} {Q : VK} {a b : Addr} {xs ys : List V}
theorem w_eqN (h : SqT K H a xs) (k : SqT K H b ys) (n : Nds xs) (m : Nds ys) (q : Q (.bl (decide (xs = ys))) H) : rEqD K (.ref a) (.ref b) H Q :=
  ⟨_, _, .tup h (dp_nodes n), .tup k (dp_nodes m), shaped_nodes n, shaped_nodes m, by rw [PyData.eqv, eqv_nodes n m]; exact q⟩
theorem w_neN (h : SqT K H a xs) (k : SqT K H b ys) (n : Nds xs) (m : Nds ys) (q : Q (.bl (!decide (xs = ys))) H) : rNeD K (.ref a) (.ref b) H Q :=
  ⟨_, _, .tup h (dp_nodes n), .tup k (dp_nodes m), shaped_nodes n, shaped_nodes m, by rw [PyData.eqv, eqv_nodes n m]; exact q⟩
theorem w_neNon (k : SqT K H b ys) (m : Nds ys) (q : Q (.bl true) H) : rNeD K .non (.ref b) H Q :=
  ⟨_, _, .non, .tup k (dp_nodes m), by decide, shaped_nodes m, q⟩
theorem w_eqNon (k : SqT K H b ys) (m : Nds ys) (q : Q (.bl false) H) : rEqD K .non (.ref b) H Q :=
  ⟨_, _, .non, .tup k (dp_nodes m), by decide, shaped_nodes m, q⟩
end
theorem ly_lt {n : Nat} (h : n < 15000000) : n < sizeLine := by
  rw [sizeLine_eq]
  omega
theorem ly_sz {n : Nat} (h : n ≤ 16000000) : n ≤ sizeLine := by
  rw [sizeLine_eq]
  omega
def Tm.lamN : Nat → Tm → Tm
  | 0, t => t
  | n + 1, t => .lam (Tm.lamN n t)
def Tm.rowN (c : Nat) : Nat → Tm → Tm
  | 0, t => t
  | n + 1, t => .app (.var c) (Tm.rowN c n t)
theorem Tm.enc_lamN (n : Nat) (t : Tm) : (Tm.lamN n t).enc = (List.replicate n [V.str "lam"]).flatten ++ t.enc := by
  induction n with
  | zero => rfl
  | succ n ih =>
    show V.str "lam" :: (Tm.lamN n t).enc = _
    rw [ih, List.replicate_succ]
    rfl
theorem Tm.enc_rowN (c n : Nat) (t : Tm) : (Tm.rowN c n t).enc = (List.replicate n [V.str "app", V.int c]).flatten ++ t.enc := by
  induction n with
  | zero => rfl
  | succ n ih =>
    show V.str "app" :: ([V.int c] ++ (Tm.rowN c n t).enc) = _
    rw [ih, List.replicate_succ]
    rfl
/-- the greatest variable is at most M -/
def Tm.vars (M : Nat) : Tm → Prop
  | .var n => n ≤ M
  | .lam b => b.vars M
  | .app f a => f.vars M ∧ a.vars M
theorem Tm.vars_lamN {M n : Nat} {t : Tm} (h : t.vars M) : (Tm.lamN n t).vars M := by
  induction n with
  | zero => exact h
  | succ n ih => exact ih
theorem Tm.vars_rowN {M c n : Nat} {t : Tm} (hc : c ≤ M) (h : t.vars M) : (Tm.rowN c n t).vars M := by
  induction n with
  | zero => exact h
  | succ n ih => exact ⟨hc, ih⟩
theorem Tm.vars_mono {M N : Nat} (hm : M ≤ N) : ∀ {t : Tm}, t.vars M → t.vars N
  | .var n, h => Nat.le_trans h hm
  | .lam b, h => Tm.vars_mono hm (t := b) h
  | .app f a, h => ⟨Tm.vars_mono hm (t := f) h.1, Tm.vars_mono hm (t := a) h.2⟩
theorem Tm.vars_wf : ∀ {t : Tm} {d : Nat}, t.wf d → t.vars (d + t.enc.length)
  | .var n, d, h => by
    show n ≤ d + 1
    have : n < d := h
    omega
  | .lam b, d, h => by
    have := Tm.vars_wf (t := b) (d := d + 1) h
    exact Tm.vars_mono (by simp [Tm.enc]; omega) this
  | .app f a, d, h => by
    have h1 := Tm.vars_wf (t := f) h.1
    have h2 := Tm.vars_wf (t := a) h.2
    exact ⟨Tm.vars_mono (by simp [Tm.enc]; omega) h1, Tm.vars_mono (by simp [Tm.enc]; omega) h2⟩
theorem pcV_lam : pcV (.str "lam") = 1 := by decide +kernel
theorem pcV_app : pcV (.str "app") = 2 := by decide +kernel
theorem pcV_int (i : Int) : pcV (.int i) = 0 := rfl
theorem node_lam : isNodeV (.str "lam") = true := by decide +kernel
theorem node_app : isNodeV (.str "app") = true := by decide +kernel
theorem node_int {i : Int} (h : 0 ≤ i) (h2 : i ≤ 1000000) : isNodeV (.int i) = true := by simp [isNodeV, isVarV, h, h2]
theorem scan_enc : ∀ (t : Tm), t.vars 1000000 → ∀ (k : Int) (r : List V), 0 ≤ k → scanV (k + 1) (t.enc ++ r) = scanV k r
  | .var n, h, k, r, hk => by
    have h : n ≤ 1000000 := h
    show scanV (k + 1) (V.int n :: r) = _
    have e : k + 1 + (0 - 1) = k := by omega
    rw [scanV, if_neg (by rw [node_int (by omega) (by omega)]; simp; omega), pcV_int, e]
  | .lam b, h, k, r, hk => by
    show scanV (k + 1) (V.str "lam" :: (b.enc ++ r)) = _
    have e : k + 1 + (1 - 1) = k + 1 := by omega
    rw [scanV, if_neg (by rw [node_lam]; simp; omega), pcV_lam, e]
    exact scan_enc b h k r hk
  | .app f a, h, k, r, hk => by
    show scanV (k + 1) (V.str "app" :: (f.enc ++ a.enc ++ r)) = _
    have e : k + 1 + (2 - 1) = k + 1 + 1 := by omega
    rw [scanV, if_neg (by rw [node_app]; simp; omega), pcV_app, e, List.append_assoc, scan_enc f h.1 (k + 1) _ (by omega)]
    exact scan_enc a h.2 k r hk
theorem scan_tm {t : Tm} (h : t.vars 1000000) : scanV 1 t.enc = true := by
  have := scan_enc t h 0 [] (by omega)
  rw [List.append_nil] at this
  rw [show (1 : Int) = 0 + 1 from rfl, this]
  rfl
theorem ok_vars : ∀ {t : Tm}, t.vars 1000000 → t.enc.all okV = true
  | .var n, h => by
    have h : n ≤ 1000000 := h
    simp [Tm.enc, okV]
    omega
  | .lam b, h => by
    have := ok_vars (t := b) h
    simp only [Tm.enc, List.all_cons, this]
    rfl
  | .app f a, h => by
    have h1 := ok_vars (t := f) h.1
    have h2 := ok_vars (t := a) h.2
    simp only [Tm.enc, List.all_cons, List.all_append, h1, h2]
    rfl
/-! ### the depths of a term's places -/
def Tm.deps : Nat → Tm → List Nat
  | d, .var _ => [d]
  | d, .lam b => d :: b.deps (d + 1)
  | d, .app f a => d :: (f.deps d ++ a.deps d)
theorem Tm.deps_len : ∀ (t : Tm) (d : Nat), (t.deps d).length = t.enc.length
  | .var _, _ => rfl
  | .lam b, d => by simp [Tm.deps, Tm.enc, Tm.deps_len b]
  | .app f a, d => by simp [Tm.deps, Tm.enc, Tm.deps_len f, Tm.deps_len a]
theorem Tm.enc_ne : ∀ t : Tm, t.enc ≠ []
  | .var _ => by simp [Tm.enc]
  | .lam _ => by simp [Tm.enc]
  | .app _ _ => by simp [Tm.enc]
def depss : List Tm → List Nat → List Nat
  | t :: ts, d :: ds => t.deps d ++ depss ts ds
  | _, _ => []
theorem encs_cons (t : Tm) (ts : List Tm) : encs (t :: ts) = t.enc ++ encs ts := by simp [encs]
theorem encs_nil {ts : List Tm} (h : encs ts = []) : ts = [] := by
  cases ts with
  | nil => rfl
  | cons t r =>
    rw [encs_cons] at h
    exact absurd (List.append_eq_nil_iff.mp h).1 t.enc_ne
/-- in the midst of a walk over a term's nodes: what is left are the terms ts, whose depths wait (the last one first) -/
def DInv (t : Tm) (i : Nat) (found ds : List Nat) : Prop := ∃ ts : List Tm, t.enc.drop i = encs ts ∧ ts.length = ds.length ∧ t.deps 0 = found ++ depss ts ds.reverse
theorem DInv.start (t : Tm) : DInv t 0 [] [0] := ⟨[t], by simp [encs], rfl, by simp [depss]⟩
theorem DInv.done {t : Tm} {found ds : List Nat} (h : DInv t t.enc.length found ds) : found = t.deps 0 := by
  obtain ⟨ts, h1, h2, h3⟩ := h
  rw [List.drop_length] at h1
  have e := encs_nil h1.symm
  subst e
  rw [h3]
  simp [depss]
theorem DInv.step {t : Tm} {i : Nat} {found ds : List Nat} {v : V} (h : DInv t i found ds) (hv : t.enc[i]? = some v) : ∃ r d, ds = r ++ [d] ∧
    ((∃ n : Nat, v = .int n ∧ DInv t (i + 1) (found ++ [d]) r) ∨ (v = .str "lam" ∧ DInv t (i + 1) (found ++ [d]) (r ++ [d + 1])) ∨ (v = .str "app" ∧ DInv t (i + 1) (found ++ [d]) (r ++ [d] ++ [d]))) := by
  obtain ⟨ts, h1, h2, h3⟩ := h
  rw [drop_at hv] at h1
  match ts, h1, h2, h3 with
  | [], h1, _, _ => cases h1
  | t1 :: r1, h1, h2, h3 =>
    have hne : ds ≠ [] := fun e => by
      rw [e] at h2
      cases h2
    refine ⟨ds.dropLast, ds.getLast hne, (List.dropLast_concat_getLast hne).symm, ?_⟩
    generalize hr : ds.dropLast = r at *
    generalize hd : ds.getLast hne = d at *
    have hds : ds = r ++ [d] := by rw [← hr, ← hd]; exact (List.dropLast_concat_getLast hne).symm
    subst hds
    rw [List.reverse_append] at h3
    have h3 : t.deps 0 = found ++ (t1.deps d ++ depss r1 r.reverse) := h3
    have hl : r1.length = r.length := by simpa using h2
    rw [encs_cons] at h1
    cases t1 with
    | var n =>
      have h1 : v :: t.enc.drop (i + 1) = V.int n :: encs r1 := h1
      injection h1 with e1 e2
      exact .inl ⟨n, e1, r1, e2, hl, by rw [h3]; simp [Tm.deps]⟩
    | lam b =>
      have h1 : v :: t.enc.drop (i + 1) = V.str "lam" :: (b.enc ++ encs r1) := h1
      injection h1 with e1 e2
      exact .inr (.inl ⟨e1, b :: r1, by rw [e2, encs_cons], by simp [hl], by rw [h3, List.reverse_append]; simp [Tm.deps, depss]⟩)
    | app f a =>
      have h1 : v :: t.enc.drop (i + 1) = V.str "app" :: (f.enc ++ a.enc ++ encs r1) := h1
      injection h1 with e1 e2
      exact .inr (.inr ⟨e1, f :: a :: r1, by rw [e2, encs_cons, encs_cons, List.append_assoc], by simp [hl], by rw [h3, List.reverse_append, List.reverse_append]; simp [Tm.deps, depss]⟩)
/-! ### a term's variables changed place by place -/
def Tm.vmap (g : Nat → Nat → Nat) : Nat → Tm → Tm
  | d, .var n => .var (g d n)
  | d, .lam b => .lam (b.vmap g (d + 1))
  | d, .app f a => .app (f.vmap g d) (a.vmap g d)
def vm (g : Nat → Nat → Nat) (v : V) (d : Nat) : V := match v with
  | .int n => .int (g d n.toNat)
  | v => v
theorem Tm.deps_vmap (g : Nat → Nat → Nat) : ∀ (t : Tm) (d : Nat), (t.vmap g d).deps d = t.deps d
  | .var _, _ => rfl
  | .lam b, d => by simp [Tm.vmap, Tm.deps, Tm.deps_vmap g b]
  | .app f a, d => by simp [Tm.vmap, Tm.deps, Tm.deps_vmap g f, Tm.deps_vmap g a]
theorem Tm.enc_vmap (g : Nat → Nat → Nat) : ∀ (t : Tm) (d : Nat), (t.vmap g d).enc = List.zipWith (vm g) t.enc (t.deps d)
  | .var _, _ => rfl
  | .lam b, d => by simp [Tm.vmap, Tm.deps, Tm.enc, Tm.enc_vmap g b, vm]
  | .app f a, d => by
    have hl : f.enc.length = (f.deps d).length := (Tm.deps_len f d).symm
    simp only [Tm.vmap, Tm.deps, Tm.enc, List.zipWith_cons_cons, Tm.enc_vmap g f, Tm.enc_vmap g a, List.zipWith_append hl]
    rfl
theorem zip_take {α β γ : Type} {f : α → β → γ} {xs : List α} {ys : List β} {i : Nat} {x : α} {y : β} (hx : xs[i]? = some x) (hy : ys[i]? = some y) : (List.zipWith f xs ys).take (i + 1) = (List.zipWith f xs ys).take i ++ [f x y] := by
  rw [List.take_add_one, List.getElem?_zipWith, hx, hy]
  rfl
/-- the free variables, place by place -/
def frv (v : V) (d : Nat) : List Int := match v with
  | .int n => if (d : Int) ≤ n then [n - d] else []
  | _ => []
def frs (xs : List V) (ds : List Nat) : List Int := (List.zipWith frv xs ds).flatten
theorem Tm.int_nat : ∀ {t : Tm} {v : V}, v ∈ t.enc → (∃ n : Nat, v = .int n) ∨ v = .str "lam" ∨ v = .str "app"
  | .var n, v, h => .inl ⟨n, by simpa [Tm.enc] using h⟩
  | .lam b, v, h => by
    rcases List.mem_cons.mp h with e | e
    · exact .inr (.inl e)
    · exact Tm.int_nat (t := b) e
  | .app f a, v, h => by
    rcases List.mem_cons.mp h with e | e
    · exact .inr (.inr e)
    · rcases List.mem_append.mp e with e | e
      · exact Tm.int_nat (t := f) e
      · exact Tm.int_nat (t := a) e
theorem sorted_one : ∀ {ns ms : List Int}, ns.Pairwise (· < ·) → ms.Pairwise (· < ·) → (∀ j, j ∈ ns ↔ j ∈ ms) → ns = ms
  | [], [], _, _, _ => rfl
  | [], m :: ms, _, _, h => absurd ((h m).mpr List.mem_cons_self) (by simp)
  | n :: ns, [], _, _, h => absurd ((h n).mp List.mem_cons_self) (by simp)
  | n :: ns, m :: ms, h1, h2, h => by
    obtain ⟨a1, b1⟩ := List.pairwise_cons.mp h1
    obtain ⟨a2, b2⟩ := List.pairwise_cons.mp h2
    have e : n = m := by
      rcases List.mem_cons.mp ((h n).mp List.mem_cons_self) with q | q
      · exact q
      · rcases List.mem_cons.mp ((h m).mpr List.mem_cons_self) with p | p
        · exact p.symm
        · have l1 := a1 m p
          have l2 := a2 n q
          omega
    subst e
    rw [sorted_one b1 b2 fun j => ?_]
    constructor
    · intro hj
      rcases List.mem_cons.mp ((h j).mp (List.mem_cons_of_mem _ hj)) with q | q
      · have := a1 j hj
        omega
      · exact q
    · intro hj
      rcases List.mem_cons.mp ((h j).mpr (List.mem_cons_of_mem _ hj)) with q | q
      · have := a2 j hj
        omega
      · exact q
theorem le_lt {ns : List Int} (h : ns.Pairwise (· ≤ ·)) (n : ns.Nodup) : ns.Pairwise (· < ·) := by
  induction ns with
  | nil => exact .nil
  | cons a r ih =>
    obtain ⟨h1, h2⟩ := List.pairwise_cons.mp h
    obtain ⟨n1, n2⟩ := List.nodup_cons.mp n
    refine List.pairwise_cons.mpr ⟨fun b hb => ?_, ih h2 n2⟩
    have l := h1 b hb
    have ne : a ≠ b := fun e => n1 (by rw [e]; exact hb)
    omega
section
variable {K : PySem.W.Frag} {H : Hp} {Q : VK} {a b : Addr} {xs ys : List V}
theorem shapedL_nodes {xs : List V} (h : Nds xs) : SeqAt.shaped (.list (xs.map dv)) = true := by
  have h1 : (PyData.list (xs.map dv)).canLay0 = true := lay_nodes h
  have h2 : (PyData.list (xs.map dv)).depth ≤ 2 := by
    have h := depth_all xs
    simp only [PyData.depth]
    omega
  unfold SeqAt.shaped
  rw [h1, Bool.true_and]
  exact decide_eq_true (by omega)
theorem w_eqL (h : SqL K H a xs) (k : SqL K H b ys) (n : Nds xs) (m : Nds ys) (q : Q (.bl (decide (xs = ys))) H) : rEqD K (.ref a) (.ref b) H Q :=
  ⟨_, _, .lst h (dp_nodes n), .lst k (dp_nodes m), shapedL_nodes n, shapedL_nodes m, by rw [PyData.eqv, eqv_nodes n m]; exact q⟩
theorem w_neL (h : SqL K H a xs) (k : SqL K H b ys) (n : Nds xs) (m : Nds ys) (q : Q (.bl (!decide (xs = ys))) H) : rNeD K (.ref a) (.ref b) H Q :=
  ⟨_, _, .lst h (dp_nodes n), .lst k (dp_nodes m), shapedL_nodes n, shapedL_nodes m, by rw [PyData.eqv, eqv_nodes n m]; exact q⟩
theorem Nds.ofInts (ns : List Int) : Nds (ns.map V.int) := fun x hx => by
  obtain ⟨i, _, e⟩ := List.mem_map.mp hx
  exact .inl ⟨i, e.symm⟩
theorem inV_ints (z : Int) : ∀ ms : List Int, inV (.int z) (ms.map V.int) = decide (z ∈ ms)
  | [] => by simp [inV]
  | m :: ms => by
    have ih := inV_ints z ms
    unfold inV at ih ⊢
    rw [List.map_cons, List.any_cons, ih]
    have e : eqV (.int m) (.int z) = (m == z) := rfl
    rw [e]
    by_cases h : m = z
    · subst h
      simp
    · have h2 : z ≠ m := fun e => h e.symm
      simp [h, h2]
theorem flat_ints : ∀ ms : List Int, (ms.map V.int).all flatV = true
  | [] => rfl
  | m :: ms => by
    rw [List.map_cons, List.all_cons, flat_ints ms]
    rfl
theorem w_nin {p : Addr} {ms : List Int} {z : Int} (h : SqL K H p (ms.map V.int)) (q : Q (.bl (!decide (z ∈ ms))) H) : rIn K true (.int z) (.ref p) H Q :=
  ⟨p, _, rfl, .inl h, rfl, flat_ints ms, by rw [inV_ints]; exact q⟩
theorem w_sorted {p : Addr} {ms : List Int} (h : SqL K H p (ms.map V.int)) (q : ∀ (ns : List Int) (l : Addr), ns.Perm ms → ns.Pairwise (· ≤ ·) → H l = none → Q (.ref l) (upd H l (.lst (ns.map V.int)))) : rSortedI K [.ref p] H Q := ⟨p, ms, rfl, h, q⟩
theorem map_int_inj {ns ms : List Int} (h : ns.map V.int = ms.map V.int) : ns = ms := by
  have := congrArg (List.map fun v => match v with | V.int i => i | _ => 0) h
  simpa [List.map_map, Function.comp_def] using this
end
/-! ### the law's stream of numbers -/
structure Stm where
  home : Addr
  cells : List Int
  cur : Int
  pos : Nat
  mix : Int
def Stm.take (m : Stm) : Stm := if m.cur = 0 ∧ m.pos < m.cells.length then { m with cur := (if m.cells.getD m.pos 0 < 0 then -(m.cells.getD m.pos 0) else m.cells.getD m.pos 0), pos := m.pos + 1 } else m
def Stm.turn (m : Stm) : Stm := { m with mix := (m.mix * 48271 + 11).fmod 2147483647 }
def Stm.next (m : Stm) (n : Int) : Stm := if m.take.cur = 0 then m.take.turn else { m.take with cur := m.take.cur.fdiv n }
def Stm.val (m : Stm) (n : Int) : Int := if m.take.cur = 0 then (m.take.turn.mix.fdiv 97).fmod n else m.take.cur.fmod n
theorem fmod_lt {a n : Int} (h : 0 < n) : 0 ≤ a.fmod n ∧ a.fmod n < n := ⟨Int.fmod_nonneg_of_pos a h, Int.fmod_lt_of_pos a h⟩
theorem Stm.val_lt (m : Stm) {n : Int} (h : 0 < n) : 0 ≤ m.val n ∧ m.val n < n := by
  unfold Stm.val
  split
  · exact fmod_lt h
  · exact fmod_lt h
def mixOf (ns : List Int) : Int := ns.foldl (fun m c => (m * 48271 + c.fmod 65521 + 1).fmod 2147483647) 17
theorem mixOf_take {ns : List Int} {i : Nat} {z : Int} (h : ns[i]? = some z) : mixOf (ns.take (i + 1)) = (mixOf (ns.take i) * 48271 + z.fmod 65521 + 1).fmod 2147483647 := by
  rw [List.take_add_one, h]
  unfold mixOf
  rw [List.foldl_append]
  rfl
theorem get_int {ns : List Int} {i : Nat} {x : V} (h : (ns.map V.int)[i]? = some x) : ∃ z, ns[i]? = some z ∧ x = .int z := by
  rw [List.getElem?_map] at h
  cases e : ns[i]? with
  | none => rw [e] at h; cases h
  | some z => rw [e] at h; exact ⟨z, rfl, (Option.some.inj h).symm⟩
theorem at_map {ns : List Int} {j : Nat} (h : j < ns.length) : atI (ns.map V.int) (j : Int) = some (.int (ns.getD j 0)) := by
  refine atI_nat ?_
  rw [List.getElem?_map, List.getElem?_eq_getElem h, List.getD_eq_getElem?_getD, List.getElem?_eq_getElem h]
  rfl
theorem Stm.take_cells (m : Stm) : m.take.cells = m.cells := by
  unfold Stm.take
  split <;> rfl
theorem Stm.take_home (m : Stm) : m.take.home = m.home := by
  unfold Stm.take
  split <;> rfl
/-- the stream goes on: the same list of numbers at the same place -/
def Fol (m m' : Stm) : Prop := m'.home = m.home ∧ m'.cells = m.cells
theorem Fol.refl (m : Stm) : Fol m m := ⟨rfl, rfl⟩
theorem Fol.trans {m m1 m2 : Stm} (h : Fol m m1) (k : Fol m1 m2) : Fol m m2 := ⟨k.1.trans h.1, k.2.trans h.2⟩
theorem Fol.next (m : Stm) (n : Int) : Fol m (m.next n) := by
  unfold Stm.next
  split
  · exact ⟨m.take_home, m.take_cells⟩
  · exact ⟨m.take_home, m.take_cells⟩
theorem Fol.step {m m1 : Stm} (h : Fol m m1) (n : Int) : Fol m (m1.next n) := h.trans (Fol.next m1 n)
def StAt (H : Hp) (s : Addr) (m : Stm) : Prop := m.home ≠ s ∧ H s = some (.lst [.ref m.home, .int m.cur, .int m.pos, .int m.mix]) ∧ H m.home = some (.lst (m.cells.map V.int))
theorem StAt.ex {H H' : Hp} {s : Addr} {m : Stm} (h : StAt H s m) (e : Ex H H') : StAt H' s m := ⟨h.1, e _ _ h.2.1, e _ _ h.2.2⟩
theorem StAt.is {H : Hp} {s : Addr} {m : Stm} (h : StAt H s m) : ∃ ys, H s = some (.lst ys) := ⟨_, h.2.1⟩
theorem StAt.put {H : Hp} {s r : Addr} {m : Stm} {o : HO} (h : StAt H s m) (hs : r ≠ s) (hl : r ≠ m.home) : StAt (upd H r o) s m :=
  ⟨h.1, by rw [upd_ne hs.symm]; exact h.2.1, by rw [upd_ne hl.symm]; exact h.2.2⟩
theorem StAt.new {H : Hp} {s r : Addr} {m : Stm} {o : HO} (h : StAt H s m) (hr : H r = none) : StAt (upd H r o) s m := h.ex (Ex.new hr)
theorem StAt.ne {H : Hp} {s r : Addr} {m : Stm} (h : StAt H s m) (hr : H r = none) : r ≠ s ∧ r ≠ m.home := ⟨(ne_of_none h.2.1 hr).symm, (ne_of_none h.2.2 hr).symm⟩
theorem Kp.st {H H' : Hp} {s : Addr} {m m' : Stm} (e : Fr s H H') (h : StAt H s m) (h' : StAt H' s m') : Kp H H' := by
  obtain ⟨ys, h⟩ := h.is
  obtain ⟨zs, h'⟩ := h'.is
  exact Kp.fr e h h'
end Ly
set_option Elab.async false
set_option linter.all false
set_option maxRecDepth 100000
set_option maxHeartbeats 4000000
/-! zip of two sources of any kind, in a for -/
namespace Ly
open PySem PySem.Spec PyProof.Rows L2 Evl
/-- what one source of a zip gives: C tells its items by the abstract heap -/
structure ZSrc (P : Program) (w : World) (K : PySem.W.Frag) (C : Hp → List V → Prop) (it : Addr) (fp : List Addr) (st : Nat → Heap → Prop) : Prop where
  obj : ∀ i h, st i h → ∃ o, h.get? it = some o ∧ ∀ v, o.data ≠ .cell v
  keep : ∀ i h h', st i h → (∀ o, h.get? it = some o → h'.get? it = some o) → st i h'
  inj : ∀ (X : Cx), X.prog = P → X.w = w → X.K = K → ∀ (pins : List (Addr × Obj)) (σ : L2.St) (H : Hp) (s : Shared) (xs ys : List V), Inv X pins σ H s → C H xs → C H ys → xs = ys
  draws : ∀ (X : Cx), X.prog = P → X.w = w → X.K = K → X.A.handled = none → ∀ (pins : List (Addr × Obj)) (σ : L2.St) (H : Hp) (s : Shared) (xs : List V), Inv X pins σ H s → C H xs →
    ∃ (Pr : Nat → Value → Prop) (CT : Heap → Prop), Draws P w X.A.in1 it fp xs.length Pr (fun i h => st i h ∧ CT h) ∧ CT s.heap ∧ ∀ i u, Pr i u → ∃ v, xs[i]? = some v ∧ RelV v u
def ItzC (C1 C2 : Hp → List V → Prop) : It :=
  ⟨fun i H => ∃ (xs ys : List V) (x y : V), C1 H xs ∧ C2 H ys ∧ xs[i]? = some x ∧ ys[i]? = some y,
    fun i H v H' => ∃ (T : Addr) (x y : V), v = .ref T ∧ H T = none ∧ H' = upd H T (.tup [x, y]) ∧ (∀ xs, C1 H xs → xs[i]? = some x) ∧ ∀ ys, C2 H ys → ys[i]? = some y,
    fun i H => ∃ xs ys : List V, C1 H xs ∧ C2 H ys ∧ i ≤ xs.length ∧ i ≤ ys.length ∧ (i = xs.length ∨ i = ys.length)⟩
theorem five {α : Type} {c a1 a2 a3 a4 a5 : α} (h : c ∈ [a1, a2, a3, a4, a5]) : c = a1 ∨ c = a2 ∨ c = a3 ∨ c = a4 ∨ c = a5 := by simpa using h
theorem turn_zipC {P : Program} {w : World} {K : PySem.W.Frag} {elts : List Expr} {kk : Nat} {tpos : Pos} {C1 C2 : Hp → List V → Prop} {z TI TO i1 i2 : Addr} {fp1 fp2 : List Addr} {st1 st2 : Nat → Heap → Prop}
    (S : ZipSep2 z TI TO i1 i2 fp1 fp2) (Z1 : ZSrc P w K C1 i1 fp1 st1) (Z2 : ZSrc P w K C2 i2 fp2 st2) :
    Turn P w K (.Tuple elts kk tpos) (ItzC C1 C2) [z, TI, TO, i1, i2] z (fun i h => IsZip h z TI TO .none ∧ IsTupOf2 h TI (.ref i1) (.ref i2) ∧ (∃ x y, IsTupOf2 h TO x y) ∧ st1 i h ∧ st2 i h) where
  mem := List.mem_cons_self
  obj := fun i h ⟨hz, hI, ⟨_, _, hO⟩, q1, q2⟩ c hc => by
    rcases five hc with rfl | rfl | rfl | rfl | rfl
    · exact ⟨_, hz, fun _ q => nomatch q⟩
    · exact ⟨_, hI, fun _ q => nomatch q⟩
    · exact ⟨_, hO, fun _ q => nomatch q⟩
    · exact Z1.obj i h q1
    · exact Z2.obj i h q2
  keep := fun i h h' ⟨hz, hI, ⟨x, y, hO⟩, q1, q2⟩ k =>
    ⟨k z (by simp) _ hz, k TI (by simp) _ hI, ⟨x, y, k TO (by simp) _ hO⟩, Z1.keep i h h' q1 (fun o e => k i1 (by simp) o e), Z2.keep i h h' q2 (fun o e => k i2 (by simp) o e)⟩
  item := fun X hP hw hK hc i pins s σ H E I hf st hg => by
    obtain ⟨hz, hI, ⟨x0, y0, hO⟩, q1, q2⟩ := st
    obtain ⟨xs, ys, x, y, c1, c2, hx, hy⟩ := hg
    obtain ⟨Pr1, CT1, D1, t1, r1⟩ := Z1.draws X hP hw hK (I.ok.hd hc) pins σ H s xs I c1
    obtain ⟨Pr2, CT2, D2, t2, r2⟩ := Z2.draws X hP hw hK (I.ok.hd hc) pins σ H s ys I c2
    have l1 : i < xs.length := (List.getElem?_eq_some_iff.mp hx).1
    have l2 : i < ys.length := (List.getElem?_eq_some_iff.mp hy).1
    have zl : z < s.heap.objs.size := Heap.lt_size hz
    refine wpAny_pyNext_zipD2_item S D1 D2 hz hI hO ⟨q1, t1⟩ ⟨q2, t2⟩ l1 l2 fun u1 u2 h' tk p1 p2 z' O' n1 n2 hT hsz hk => ?_
    obtain ⟨v1, e1, rv1⟩ := r1 i u1 p1
    obtain ⟨v2, e2, rv2⟩ := r2 i u2 p2
    have ev1 : v1 = x := Option.some.inj (e1.symm.trans hx)
    have ev2 : v2 = y := Option.some.inj (e2.symm.trans hy)
    subst ev1 ev2
    refine ⟨_, rfl, wpAny_letOwnedTupleGo_zip (s := { s with heap := h', toks := tk }) z' fun h2 z2 sb => ?_⟩
    have stay : ∀ c o, c ≠ z → c ≠ TO → c ≠ i1 → c ≠ i2 → s.heap.get? c = some o → h2.get? c = some o := fun c o k1 k2 k3 k4 e => (sb.2 c k1).trans (hk c o k1 k2 k3 k4 e)
    have made : ObjOk X.prog X.w (upd H s.heap.objs.size (.tup [v1, v2])) h2 s.heap.objs.size (.tup [v1, v2]) :=
      ⟨sz_of (Nat.le_of_ble_eq_true rfl), [u1, u2], .cons rv1 (.cons rv2 .nil), ⟨_, (sb.2 _ (Nat.ne_of_gt zl)).trans hT, rfl, _, rfl⟩⟩
    have J := I.turnedNew (t' := tk) (ch := [z, TI, TO, i1, i2]) (h' := h2) (fun c o hb e => stay c o (fun q => hb (by simp [q])) (fun q => hb (by simp [q])) (fun q => hb (by simp [q])) (fun q => hb (by simp [q])) e) hf (Nat.le_refl _) made
    refine ⟨.ref s.heap.objs.size, _, J, rfl, ⟨_, v1, v2, rfl, I.hok.fresh (Nat.le_refl _), rfl, fun l hl => ?_, fun l hl => ?_⟩, ⟨z2, ?_, ⟨u1, u2, ?_⟩, ?_, ?_⟩, fun c hcm => ?_⟩
    · rw [Z1.inj X hP hw hK pins σ H s l xs I hl c1]
      exact hx
    · rw [Z2.inj X hP hw hK pins σ H s l ys I hl c2]
      exact hy
    · exact stay _ _ S.TIz S.TITO S.TIi1 S.TIi2 hI
    · exact (sb.2 _ S.TOz).trans O'
    · exact Z1.keep _ _ _ n1.1 fun o e => (sb.2 _ (Ne.symm S.zi1)).trans e
    · exact Z2.keep _ _ _ n2.1 fun o e => (sb.2 _ (Ne.symm S.zi2)).trans e
    · have lt : c < s.heap.objs.size := by
        rcases five hcm with q | q | q | q | q
        · rw [q]; exact zl
        · rw [q]; exact Heap.lt_size hI
        · rw [q]; exact Heap.lt_size hO
        · rw [q]; obtain ⟨_, e, _⟩ := Z1.obj _ _ q1; exact Heap.lt_size e
        · rw [q]; obtain ⟨_, e, _⟩ := Z2.obj _ _ q2; exact Heap.lt_size e
      rw [upd_ne (Nat.ne_of_lt lt)]
      exact (hf c hcm).1
  done := fun X hP hw hK hc i pins s σ H E I hf st hg => by
    obtain ⟨hz, hI, ⟨x0, y0, hO⟩, q1, q2⟩ := st
    obtain ⟨xs, ys, c1, c2, l1, l2, hend⟩ := hg
    obtain ⟨Pr1, CT1, D1, t1, r1⟩ := Z1.draws X hP hw hK (I.ok.hd hc) pins σ H s xs I c1
    obtain ⟨Pr2, CT2, D2, t2, r2⟩ := Z2.draws X hP hw hK (I.ok.hd hc) pins σ H s ys I c2
    exact wpAny_pyNext_zipD2_end S D1 D2 hz hI hO ⟨q1, t1⟩ ⟨q2, t2⟩ l1 l2 hend fun h' tk hk => ⟨rfl, I.turnedL (t' := tk) (ch := [z, TI, TO, i1, i2]) (fun c o hb e =>
      hk c o (fun q => hb (by simp [q])) (fun q => hb (by simp [q])) (fun q => hb (by simp [q])) (fun q => hb (by simp [q])) e) hf⟩
  self := fun A i s Q E ⟨hz, _⟩ h => wpAny_pyIter_zip hz h
/-- the sources -/
theorem src_tup {P : Program} {w : World} {K : PySem.W.Frag} {a it : Addr} (hne : a ≠ it) : ZSrc P w K (fun H xs => SqT K H a xs) it [it, a] (fun i h => h.IsTupleIter it a i) where
  obj := fun i h st => by
    obtain ⟨o, e, _, d⟩ := st
    exact ⟨o, e, fun v z => by rw [d] at z; cases z⟩
  keep := fun i h h' st k => st.at fun o e => k o e
  inj := fun X hP hw hK pins σ H s xs ys I h1 h2 => by
    subst hP hw hK
    exact I.tuple_inj h1 h2
  draws := fun X hP hw hK hh pins σ H s xs I h => by
    subst hP hw hK
    obtain ⟨its, rv, p, _⟩ := I.tuple h
    have el : xs.length = its.toArray.size := by rw [List.size_toArray]; exact rv.length
    rw [el]
    refine ⟨fun i v => its.toArray[i]? = some v, fun h => h.IsTuple a its.toArray, Draws.tuple (A := X.A.in1) (show X.A.in1.handled = none from hh) it a hne its.toArray, p, fun i u hu => ?_⟩
    have hu2 : its[i]? = some u := by simpa using hu
    obtain ⟨hl, hg⟩ := List.getElem?_eq_some_iff.mp hu2
    have hl2 : i < xs.length := by rw [rv.length]; exact hl
    obtain ⟨u2, g2, rr⟩ := rv.get (List.getElem?_eq_getElem hl2)
    rw [hu2] at g2
    cases g2
    exact ⟨_, List.getElem?_eq_getElem hl2, rr⟩
theorem src_lst {P : Program} {w : World} {K : PySem.W.Frag} {a it : Addr} (hne : a ≠ it) : ZSrc P w K (fun H xs => SqL K H a xs) it [it, a] (fun i h => h.IsListIter it a i) where
  obj := fun i h st => by
    obtain ⟨o, e, _, d⟩ := st
    exact ⟨o, e, fun v z => by rw [d] at z; cases z⟩
  keep := fun i h h' st k => st.at fun o e => k o e
  inj := fun X hP hw hK pins σ H s xs ys I h1 h2 => by
    subst hP hw hK
    exact I.list_inj h1 h2
  draws := fun X hP hw hK hh pins σ H s xs I h => by
    subst hP hw hK
    obtain ⟨its, rv, p, _⟩ := I.list h
    have el : xs.length = its.toArray.size := by rw [List.size_toArray]; exact rv.length
    rw [el]
    refine ⟨fun i v => its.toArray[i]? = some v, fun h => h.IsList a its.toArray, Draws.list (A := X.A.in1) (show X.A.in1.handled = none from hh) it a hne its.toArray, p.isList, fun i u hu => ?_⟩
    have hu2 : its[i]? = some u := by simpa using hu
    obtain ⟨hl, hg⟩ := List.getElem?_eq_some_iff.mp hu2
    have hl2 : i < xs.length := by rw [rv.length]; exact hl
    obtain ⟨u2, g2, rr⟩ := rv.get (List.getElem?_eq_getElem hl2)
    rw [hu2] at g2
    cases g2
    exact ⟨_, List.getElem?_eq_getElem hl2, rr⟩
def signs (z : Str) : List V := z.cps.toList.map fun c => V.str ⟨#[c]⟩
theorem src_str {P : Program} {w : World} {K : PySem.W.Frag} {z : Str} {t : Tok} {it : Addr} : ZSrc P w K (fun _ xs => xs = signs z) it [it] (fun i h => h.IsStrIter it (strIterType z) z t i) where
  obj := fun i h st => by
    obtain ⟨o, e, _, d⟩ := st
    exact ⟨o, e, fun v z => by rw [d] at z; cases z⟩
  keep := fun i h h' st k => by
    obtain ⟨o, e, d⟩ := st
    exact ⟨o, k o e, d⟩
  inj := fun X hP hw hK pins σ H s xs ys I h1 h2 => h1.trans h2.symm
  draws := fun X hP hw hK hh pins σ H s xs I h => by
    subst h hP hw hK
    have D := Draws.text (prog := X.prog) (w := X.w) (A := X.A.in1) (show X.A.in1.handled = none from hh) it z t
    have el : (signs z).length = z.cps.size := by simp [signs]
    rw [el]
    refine ⟨fun i v => ∃ c u, z.cps[i]? = some c ∧ v = .str ⟨#[c]⟩ u, fun _ => True, ⟨fun i h st => D.live i h st.1, fun i h h' st k => ⟨D.frame i h h' st.1 k, trivial⟩, fun i s Q E hi st hQ => D.item i s Q E hi st.1 fun x h' tk p q r => hQ x h' tk p ⟨q, trivial⟩ r, fun s Q E st hE => D.done s Q E st.1 hE⟩, trivial, fun i u hu => ?_⟩
    obtain ⟨c, tk, hc, rfl⟩ := hu
    refine ⟨.str ⟨#[c]⟩, ?_, tk, rfl⟩
    unfold signs
    rw [List.getElem?_map, Array.getElem?_toList, hc]
    rfl
def iZipTL (K : PySem.W.Frag) (ta : TA) : TI := fun σ H R => ta σ H fun vs H1 => ∃ a b xs ys, vs = [.ref a, .ref b] ∧ SqT K H1 a xs ∧ SqL K H1 b ys ∧ R (ItzC (fun H xs => SqT K H a xs) (fun H ys => SqL K H b ys)) H1
def iZipSS (ta : TA) : TI := fun σ H R => ta σ H fun vs H1 => ∃ z u, vs = [.str z, .str u] ∧ R (ItzC (fun _ xs => xs = signs z) (fun _ ys => ys = signs u)) H1
theorem fresh_cells {X : Cx} {pins : List (Addr × Obj)} {σ : L2.St} {H : Hp} {s : Shared} (I : Inv X pins σ H s) : ∀ c ∈ [s.heap.objs.size + 4, s.heap.objs.size + 2, s.heap.objs.size + 3, s.heap.objs.size, s.heap.objs.size + 1], FpOk X pins H c := fun c hc => by
  have le : s.heap.objs.size ≤ c := by
    rcases five hc with q | q | q | q | q <;> omega
  exact I.fpOk le (I.hok.fresh le)
theorem pi_zipM {X : Cx} {e e2 : Expr} {ta : TA} {p pos tpos : Pos} {elts : List Expr} {kk : Nat} (hg : Gl X "zip") (hm : X.mg "zip" = none) (ha : PA X [e, e2] ta)
    (hs : starEach [e, e2] X.env = (false, eval e X.env) :: starEach [e2] X.env := by rfl) (hpl : (backTo pos (starEach [e2] X.env)).any (·.1) = false := by rfl) :
    PI X (.Tuple elts kk tpos) (.Call (.Name "zip" p) [e, e2] [] pos) (iZipTL X.K ta) := ⟨fun pins s σ H R I h =>
  Call_ (ld_blt I hg hm PyProof.Rows.boot_zip (PyProof.Rows.callWith_type1 (thn (ha.run pos pins s σ H _ I h) fun us s1 ⟨vs, H1, J, rv, q⟩ => by
    obtain ⟨a, b, xs, ys, ev, hx, hy, q⟩ := q
    subst ev
    obtain ⟨u1, us1, e1, r1, rv1⟩ : ∃ u1 us1, us = u1 :: us1 ∧ RelV (.ref a) u1 ∧ Vals [.ref b] us1 := by
      cases rv with
      | cons r rr => exact ⟨_, _, rfl, r, rr⟩
    obtain ⟨u2, e2', r2⟩ := vals1 rv1
    subst e1 e2'
    cases r1
    cases r2
    obtain ⟨its, _, p1, _⟩ := J.tuple hx
    obtain ⟨its2, _, p2, _⟩ := J.list hy
    refine zip_begins2 (begins_tuple a its.toArray) (begins_list b its2.toArray) p1 p2.isList fun h' hz hI hO g1 g2 hsz hk => wpAny_pyIter_zip hz ?_
    have la : a < s1.heap.objs.size := by
      obtain ⟨_, z, _⟩ := id p1
      exact Heap.lt_size z
    have lb := p2.lt
    refine ⟨s1.heap.objs.size + 4, _, _, _, H1, rfl, J.kept (t' := s1.toks) hk, turn_zipC (zip_sep2 (N := s1.heap.objs.size) (fp1 := [a]) (fp2 := [b]) ?_ ?_) (src_tup (Nat.ne_of_lt la)) (src_lst (Nat.ne_of_lt (Nat.lt_succ_of_lt lb))), ⟨hz, hI, ⟨_, _, hO⟩, ⟨_, g1, rfl, rfl⟩, ⟨_, g2, rfl, rfl⟩⟩, fresh_cells J, q⟩
    · intro c hc
      rw [List.mem_singleton.mp hc]
      exact la
    · intro c hc
      rw [List.mem_singleton.mp hc]
      exact lb) hs hpl))⟩
theorem pi_zipS {X : Cx} {e e2 : Expr} {ta : TA} {p pos tpos : Pos} {elts : List Expr} {kk : Nat} (hg : Gl X "zip") (hm : X.mg "zip" = none) (ha : PA X [e, e2] ta)
    (hs : starEach [e, e2] X.env = (false, eval e X.env) :: starEach [e2] X.env := by rfl) (hpl : (backTo pos (starEach [e2] X.env)).any (·.1) = false := by rfl) :
    PI X (.Tuple elts kk tpos) (.Call (.Name "zip" p) [e, e2] [] pos) (iZipSS ta) := ⟨fun pins s σ H R I h =>
  Call_ (ld_blt I hg hm PyProof.Rows.boot_zip (PyProof.Rows.callWith_type1 (thn (ha.run pos pins s σ H _ I h) fun us s1 ⟨vs, H1, J, rv, q⟩ => by
    obtain ⟨z, y, ev, q⟩ := q
    subst ev
    obtain ⟨u1, us1, e1, r1, rv1⟩ : ∃ u1 us1, us = u1 :: us1 ∧ RelV (.str z) u1 ∧ Vals [.str y] us1 := by
      cases rv with
      | cons r rr => exact ⟨_, _, rfl, r, rr⟩
    obtain ⟨u2, e2', r2⟩ := vals1 rv1
    subst e1 e2'
    obtain ⟨t1, r1⟩ := r1
    obtain ⟨t2, r2⟩ := r2
    subst r1 r2
    refine zip_begins2 (begins_text z t1) (begins_text y t2) trivial trivial fun h' hz hI hO g1 g2 hsz hk => wpAny_pyIter_zip hz ?_
    refine ⟨s1.heap.objs.size + 4, _, _, _, H1, rfl, J.kept (t' := s1.toks) hk, turn_zipC (zip_sep2 (N := s1.heap.objs.size) (fp1 := []) (fp2 := []) (by simp) (by simp)) (src_str (z := z) (t := t1)) (src_str (z := y) (t := t2)), ⟨hz, hI, ⟨_, _, hO⟩, ⟨_, g1, rfl, rfl⟩, ⟨_, g2, rfl, rfl⟩⟩, fresh_cells J, q⟩) hs hpl))⟩
/-- a for over such a zip: n turns -/
theorem for_zipC {C1 C2 : Hp → List V → Prop} {xs ys : List V} {n : Nat} (hn : n = min xs.length ys.length) {g : TG} {tb : TS} {D : Ends} {σ : L2.St} {H : Hp} (Pv : Nat → L2.St → Hp → Prop) (h0 : Pv 0 σ H) (hC : ∀ i σ H, Pv i σ H → C1 H xs ∧ C2 H ys)
    (hs : ∀ (i : Nat) (x y : V) (T : Addr) (σ : L2.St) (H : Hp), xs[i]? = some x → ys[i]? = some y → Pv i σ H → H T = none → g (.ref T) σ (upd H T (.tup [x, y])) fun σ2 H2 => tb { D with nx := Pv (i + 1), ct := Pv (i + 1), bk := D.nx } σ2 H2)
    (hd : ∀ σ H, Pv n σ H → D.nx σ H) : ForB (ItzC C1 C2) g tb D σ H := by
  refine ⟨fun i m σ H => m = n - i ∧ i ≤ n ∧ Pv i σ H, ⟨n, rfl, Nat.zero_le _, h0⟩, fun i m σ H hW => ?_⟩
  obtain ⟨hm, hi, pv⟩ := hW
  obtain ⟨k1, k2⟩ := hC i σ H pv
  by_cases lt : i < n
  · have l1 : i < xs.length := by omega
    have l2 : i < ys.length := by omega
    refine .inr ⟨⟨xs, ys, xs[i], ys[i], k1, k2, List.getElem?_eq_getElem l1, List.getElem?_eq_getElem l2⟩, Pv (i + 1), fun σ' H' p' => ⟨n - (i + 1), by omega, rfl, lt, p'⟩, fun v H' hy => ?_⟩
    obtain ⟨T, x, y, e1, e2, e3, g1, g2⟩ := hy
    subst e1 e3
    exact hs i x y T σ H (g1 xs k1) (g2 ys k2) pv e2
  · have e : i = n := by omega
    subst e
    exact .inl ⟨⟨xs, ys, k1, k2, by omega, by omega, by omega⟩, hd σ H pv⟩
section
variable {K : PySem.W.Frag} {σ : L2.St} {H : Hp} {tA : TA} {R : It → Hp → Prop}
theorem w_iZ (h : tA σ H fun vs H1 => ∃ a b xs ys, vs = [.ref a, .ref b] ∧ SqT K H1 a xs ∧ SqL K H1 b ys ∧ R (ItzC (fun H xs => SqT K H a xs) (fun H ys => SqL K H b ys)) H1) : iZipTL K tA σ H R := h
theorem w_iZ1 {a b : Addr} {xs ys : List V} {B : Addr → Addr → Prop} (h : SqT K H a xs) (h2 : SqL K H b ys) (q : B a b) : ∃ a' b' us vs, [V.ref a, V.ref b] = [.ref a', .ref b'] ∧ SqT K H a' us ∧ SqL K H b' vs ∧ B a' b' := ⟨a, b, xs, ys, rfl, h, h2, q⟩
theorem w_iS (h : tA σ H fun vs H1 => ∃ z u, vs = [.str z, .str u] ∧ R (ItzC (fun _ xs => xs = signs z) (fun _ ys => ys = signs u)) H1) : iZipSS tA σ H R := h
theorem w_iS1 {z u : Str} {B : Str → Str → Prop} (q : B z u) : ∃ a b, [V.str z, V.str u] = [.str a, .str b] ∧ B a b := ⟨z, u, rfl, q⟩
theorem w_gtup {t : TGs} {a : Addr} {xs : List V} {n : Nat} {Rs : L2.St → Hp → Prop} (h : SqT K H a xs) (hn : xs.length = n) (q : t xs σ H Rs) : gTup K n t (.ref a) σ H Rs := ⟨a, xs, rfl, h, hn, q⟩
theorem w_gcons {t : TG} {u : TGs} {v : V} {r : List V} {Rs : L2.St → Hp → Prop} (q : t v σ H fun σ' H' => u r σ' H' Rs) : gCons t u (v :: r) σ H Rs := ⟨v, r, rfl, q⟩
theorem w_gnil {Rs : L2.St → Hp → Prop} (q : Rs σ H) : gNil [] σ H Rs := ⟨rfl, q⟩
end
end Ly
set_option Elab.async false
set_option linter.all false
set_option maxRecDepth 100000
set_option maxHeartbeats 2000000
/-! for x in reversed(a text) -/
namespace Ly
open PySem PySem.Spec PyProof.Rows L2 Evl
theorem sNoRev : typeLookup (.type "str") "__reversed__" = pure none := by
  rw [typeLookup_type, builtinLookup_eq_fast]
  kernel_rfl
theorem sGet : typeLookup (.type "str") "__getitem__" = pure (some (.builtin "str.__getitem__")) := by
  rw [typeLookup_type, builtinLookup_eq_fast]
  kernel_rfl
/-- the walker at it: what it walks over, the place that comes next -/
def RevAt (h : Heap) (it : Addr) (z : Str) (t : Tok) (i : Int) : Prop := ∃ o, h.get? it = some o ∧ o.cls = .type "reversed" ∧ o.data = .fields #[.str z t, rawInt i]
theorem RevAt.kind {s : Shared} {it : Addr} {z : Str} {t : Tok} {i : Int} (r : RevAt s.heap it z t i) : s.TypeIs (.ref it) "reversed" := by
  obtain ⟨o, e, c, _⟩ := r
  exact ⟨o, e, c⟩
section
variable {prog : Program} {w : World} {A : Around} {E : Value → Shared → Prop} {s : Shared} {z : Str} {t : Tok}
theorem rev_make {Q : Value → Shared → Prop} (hz : z.length ≤ sizeLine)
    (q : Q (.ref s.heap.objs.size) { s with heap := s.heap.push { cls := .type "reversed", data := .fields #[.str z t, rawInt ((z.length : Int) - 1)] }, toks := s.toks + 1 + 1 }) : wpAny (model prog w) A (call (.type "reversed") [.str z t]) Q E s := by
  have hT := typeIs_str s z t
  have l63 := line63
  refine callType_codes (Q₁ := fun v s1 => s1.TypeIs v "reversed" ∧ Q v s1) RT.called_rt (F.typeCall_reversed_1 _) F.entry_object_init (codeAny_of_tree ?_) fun v s1 h1 => ⟨h1.1, F.args_object_init_2 v _, object_init_meets RT.called_rt.init.lookup RT.called_rt.made (by decide) prog w A.in1 _ s1 ⟨h1.1, rfl, h1.2⟩⟩
  show wpAny _ A.in1.in1 (do checkBuiltinCall "reversed.__new__" ⟨[.type "reversed", .str z t], []⟩; again (.builtin "reversed.__new__" ⟨[.type "reversed", .str z t], []⟩)) _ _ s
  (refine wpAny_bind (wpAny_of_eq (F.newCall_reversed_1 _) (wpAny_pure ⟨plainId_quiet F.plain_reversed_new _, codeAny_builtin F.entry_reversed_new ?_⟩)); try dsimp only)
  rw [Around.under_plainId F.plain_reversed_new _]
  delta Builtin.«reversed.__new__»
  (refine wpAny_bind (wpAny_of_eq (newClass_reversed _) ?_); try dsimp only)
  (refine wpAny_bind (wpAny_of_eq (a := ()) rfl ?_); try dsimp only)
  (refine wpAny_bind (wpAny_of_eq (a := ()) rfl ?_); try dsimp only)
  (refine wpAny_bind (wpAny_specialOf hT sNoRev ?_); try dsimp only)
  refine wpAny_bind ?_
  wp_delta
  (refine wpAny_bind (wpAny_isInstance (T := "str") (U := "dict") (b := false) hT F.sub_str_dict ?_); try dsimp only)
  try rw [if_neg Bool.false_ne_true]
  try dsimp only
  (refine wpAny_bind (wpAny_specialOf hT sGet ?_); try dsimp only)
  try rw [if_pos (by decide +kernel)]
  refine wpAny_pure ?_
  try dsimp only
  try rw [if_neg (by decide)]
  try dsimp only
  refine wpAny_bind (P.len_str (by omega) ?_)
  (refine wpAny_bind (wpAny_of_eq (a := some ((z.length : Nat) : Int)) rfl ?_); try dsimp only)
  refine wpAny_bind ?_
  show wpAny _ _ (newObj (.type "reversed") (.fields #[.str z t, rawInt ((z.length : Int) - 1)])) _ _ _
  exact wpAny_newObj_type (wpAny_pure ⟨⟨_, Heap.get?_push_size _ rfl, rfl⟩, q⟩)
theorem rev_self {it : Addr} {i : Int} {Q : Value → Shared → Prop} (r : RevAt s.heap it z t i) (q : Q (.ref it) s) : wpAny (model prog w) A (pyIter (.ref it)) Q E s :=
  wpAny_pyIter_slot r.kind RT.slot_rt_iter (wpAny_call_entry RT.slot_rt_iter r.kind RT.entry_rt_iter (show wpAny _ _ (ret (.ref it)) _ _ s from wpAny_pure ⟨_, rfl, "reversed", _, r.kind, RT.slot_rt_next.lookup, q⟩) (RT.args_rt_iter _))
theorem rev_item {it : Addr} {i c : Nat} {Q : Option Value → Shared → Prop} (r : RevAt s.heap it z t (i : Int)) (hc : z.cps[i]? = some c) (hz : z.length ≤ sizeLine)
    (q : ∀ h', RevAt h' it z t ((i : Int) - 1) → Heap.SameBut it s.heap h' → Q (some (.str ⟨#[c]⟩ (s.toks + 1))) { s with heap := h', toks := s.toks + 1 + 1 }) : wpAny (model prog w) A (pyNext (.ref it)) Q E s := by
  have r0 := r
  obtain ⟨o, e, hcl, d⟩ := r
  have l63 := line63
  have hi : i < z.cps.size := (Array.getElem?_eq_some_iff.mp hc).1
  have hT := typeIs_str s z t
  have hl : z.length = z.cps.size := rfl
  delta pyNext
  refine wpAny_bind (wpAny_attempt (wpAny_callSpecial?_slot r0.kind RT.slot_rt_next (wpAny_call_entry RT.slot_rt_next r0.kind RT.entry_rt_next ?_ (RT.args_rt_next _))))
  delta Builtin.«reversed.__next__»
  (refine wpAny_bind (wpAny_of_eq (a := (Value.ref it, [])) rfl ?_); try dsimp only)
  (refine wpAny_bind (wpAny_field e d (x := .str z t) rfl ?_); try dsimp only)
  (refine wpAny_bind (wpAny_field e d (x := rawInt (i : Int)) rfl ?_); try dsimp only)
  show wpAny _ _ (if (i : Int) < 0 then _ else _) _ _ s
  rw [if_neg (by omega)]
  try dsimp only
  (refine wpAny_bind (wpAny_specialOf hT sGet ?_); try dsimp only)
  try rw [if_neg (by decide)]
  try dsimp only
  refine wpAny_bind (wpAny_mkInt ?_)
  refine wpAny_bind (wpAny_attempt ?_)
  have at1 : seqIndex? (i : Int) z.length = some i := seqIndex_of (by omega) (by omega)
  refine P.getItem_str (c := c) (by rw [decide_eq_false (show ¬ (i : Int) < -(2 ^ 63) by omega), decide_eq_false (show ¬ (i : Int) ≥ 2 ^ 63 by omega)]; rfl) (by rw [at1]; exact hc) ?_
  try dsimp only
  (refine wpAny_bind (wpAny_field (s := { s with toks := s.toks + 1 + 1 }) e d (x := rawInt (i : Int)) rfl ?_); try dsimp only)
  (refine wpAny_bind (wpAny_setField (s := { s with toks := s.toks + 1 + 1 }) e d (by simp) ?_); try dsimp only)
  have fin : RevAt (s.heap.update it (Obj.mapFields (·.setIfInBounds 1 (rawInt ((i : Int) - 1))))) it z t ((i : Int) - 1) :=
    ⟨_, Heap.get?_update_self _ e (Obj.isFreed_of_fields (Obj.data_mapFields d _)), (Obj.cls_mapFields ..).trans hcl, by rw [Obj.data_mapFields d]; simp⟩
  first
  | exact wpAny_pure ⟨_, rfl, wpAny_pure (q _ fin (Heap.SameBut.update ..))⟩
  | exact wpAny_bind (wpAny_pure (wpAny_pure ⟨_, rfl, wpAny_pure (q _ fin (Heap.SameBut.update ..))⟩))
/-- the exception that ends an iteration, when none is handled: two new objects, no more -/
theorem stop_made {α : Type} {Q : α → Shared → Prop} (hh : A.handled = none) (q : ∀ (h' : Heap) (e : Addr), (∀ b ob, s.heap.get? b = some ob → h'.get? b = some ob) → Shared.TypeIs { s with heap := h' } (.ref e) "StopIteration" → E (.ref e) { s with heap := h' }) :
    wpAny (model prog w) A (Builtin.SmallTypes.stopIteration : Sem α) Q E s := by
  delta Builtin.SmallTypes.stopIteration
  refine wpAny_bind ?_
  simp only [newExc, newTuple, raiseNew]
  (refine wpAny_bind (wpAny_newObj_type ?_ (by size_fits)); try dsimp only)
  (refine wpAny_bind (wpAny_of_eq (a := Value.none) rfl ?_); try dsimp only)
  refine wpAny_newObj_type (wpAny_bind (wpAny_handled ?_)) (by size_fits)
  rw [hh]
  exact wpAny_bind (wpAny_pure (wpAny_throw (q _ _ (fun b ob k => Heap.get?_push_of_some _ (Heap.get?_push_of_some _ k)) ⟨_, Heap.get?_push_size _ rfl, rfl⟩)))
theorem rev_end {it : Addr} {Q : Option Value → Shared → Prop} (hh : A.handled = none) (r : RevAt s.heap it z t (-1)) (q : ∀ h', Heap.ExtBut it s.heap h' → Q none { s with heap := h' }) : wpAny (model prog w) A (pyNext (.ref it)) Q E s := by
  have r0 := r
  obtain ⟨o, e, hcl, d⟩ := r
  delta pyNext
  refine wpAny_bind (wpAny_attempt (wpAny_callSpecial?_slot r0.kind RT.slot_rt_next (wpAny_call_entry RT.slot_rt_next r0.kind RT.entry_rt_next ?_ (RT.args_rt_next _))))
  delta Builtin.«reversed.__next__»
  (refine wpAny_bind (wpAny_of_eq (a := (Value.ref it, [])) rfl ?_); try dsimp only)
  (refine wpAny_bind (wpAny_field e d (x := .str z t) rfl ?_); try dsimp only)
  (refine wpAny_bind (wpAny_field e d (x := rawInt (-1)) rfl ?_); try dsimp only)
  show wpAny _ _ (if (-1 : Int) < 0 then _ else _) _ _ s
  rw [if_pos (by decide)]
  try dsimp only
  (refine wpAny_bind (wpAny_rule ?_); try dsimp only)
  refine wpAny_bind ?_
  wp_delta
  refine wpAny_bind (wpAny_setField e d (by simp) ?_)
  have e2 := Heap.get?_update_self (Obj.mapFields (·.setIfInBounds 1 (rawInt (-1)))) e (Obj.isFreed_of_fields (Obj.data_mapFields d _))
  refine wpAny_setField (s := { s with heap := s.heap.update it (Obj.mapFields (·.setIfInBounds 1 (rawInt (-1)))) }) e2 (Obj.data_mapFields d _) (by simp) ?_
  try dsimp only
  refine wpAny_bind (stop_made (A := A.in1) hh fun h' x k te => ?_)
  refine wpAny_bind (wpAny_isInstance te isSubtype_stop (wpAny_pure (q h' fun b ob hb kb => k b ob ?_)))
  exact (Heap.get?_update_other _ _ hb.symm).trans ((Heap.get?_update_other _ _ hb.symm).trans kb)
end
/-- the turns: the signs from the last to the first -/
def ItvS (z : Str) : It := ⟨fun i _ => i < z.cps.size, fun i H v H' => H' = H ∧ ∃ c, z.cps[z.cps.size - 1 - i]? = some c ∧ v = .str ⟨#[c]⟩, fun i _ => z.cps.size ≤ i⟩
theorem turn_revS {P : Program} {w : World} {K : PySem.W.Frag} {tg : Expr} {z : Str} {t : Tok} {it : Addr} (hz : z.length ≤ sizeLine) : Turn P w K tg (ItvS z) [it] it (fun i h => i ≤ z.cps.size ∧ RevAt h it z t ((z.cps.size : Int) - 1 - (i : Nat))) where
  mem := List.mem_cons_self
  obj := fun i h ⟨_, o, e, _, d⟩ b hb => by
    rw [List.mem_singleton.mp hb]
    exact ⟨o, e, fun v q => by rw [d] at q; cases q⟩
  keep := fun i h h' ⟨l, o, e, r⟩ k => ⟨l, o, k it List.mem_cons_self _ e, r⟩
  item := fun X hP hw hK hc i pins s σ H E I hf ⟨_, st⟩ hg => by
    subst hP hw hK
    have lt : i < z.cps.size := hg
    obtain ⟨g0, g1, g2, g3, g4, g5⟩ := hf it List.mem_cons_self
    have ix : (z.cps.size : Int) - 1 - (i : Nat) = ((z.cps.size - 1 - i : Nat) : Int) := by omega
    rw [ix] at st
    obtain ⟨c, ec⟩ : ∃ c, z.cps[z.cps.size - 1 - i]? = some c := ⟨_, Array.getElem?_eq_getElem (by omega)⟩
    refine rev_item st ec hz fun h' st' sb => ?_
    have ix2 : ((z.cps.size - 1 - i : Nat) : Int) - 1 = (z.cps.size : Int) - 1 - ((i + 1 : Nat) : Int) := by omega
    rw [ix2] at st'
    have J : Inv X pins σ H { s with heap := h', toks := s.toks + 1 + 1 } := I.turned (fun b o hb k => (sb.2 b hb).trans k) g0 g1 g3 g4 g5
    have st2 := st'
    obtain ⟨o, eo, co, d⟩ := st2
    exact ⟨_, rfl, go_of (s := { s with heap := h', toks := s.toks + 1 + 1 }) eo co d (by decide) ⟨.str ⟨#[c]⟩, H, J, ⟨_, rfl⟩, ⟨rfl, c, ec, rfl⟩, ⟨lt, st'⟩, fun b hb => (hf b hb).1⟩⟩
  done := fun X hP hw hK hc i pins s σ H E I hf ⟨_, st⟩ hg => by
    subst hP hw hK
    have ge : z.cps.size ≤ i := hg
    obtain ⟨g0, g1, g2, g3, g4, g5⟩ := hf it List.mem_cons_self
    have ix : (z.cps.size : Int) - 1 - (i : Nat) = -1 := by omega
    rw [ix] at st
    exact rev_end (I.ok.hd hc) st fun h' k => ⟨rfl, I.turned (t' := s.toks) (fun b o hb e => k b o hb e) g0 g1 g3 g4 g5⟩
  self := fun A i s Q E st q => rev_self st.2 q
def iRevS (te : TE) : TI := fun σ H R => te σ H fun v H1 => ∃ z, v = .str z ∧ z.length ≤ sizeLine ∧ R (ItvS z) H1
theorem pi_revS {X : Cx} {tg e : Expr} {te : TE} {p pos : Pos} (hg : Gl X "reversed") (hm : X.mg "reversed" = none) (he : PE X e te) (hs : starEach [e] X.env = (false, eval e X.env) :: starEach [] X.env := by rfl) :
    PI X tg (.Call (.Name "reversed" p) [e] [] pos) (iRevS te) := ⟨fun pins s σ H R I h =>
  Call_ (ld_blt I hg hm PyProof.Rows.boot_reversed (PyProof.Rows.callWith_type1 (args_cons (thn (he.run pins s σ H _ I h) fun u s1 ⟨v, H1, J, rv, z, ev, hz, q⟩ => args_nil (by
    subst ev
    obtain ⟨t, rfl⟩ := rv
    refine rev_make hz (rev_self (z := z) (t := t) (i := (z.length : Int) - 1) ⟨_, Heap.get?_push_size _ rfl, rfl, rfl⟩ ?_)
    refine pi_one (tk := s1.toks + 1 + 1) J _ (turn_revS (t := t) hz) ⟨Nat.zero_le _, ?_⟩ q
    have ix : (z.cps.size : Int) - 1 - ((0 : Nat) : Int) = (z.length : Int) - 1 := by
      show _ = (z.cps.size : Int) - 1
      omega
    rw [ix]
    exact ⟨_, Heap.get?_push_size _ rfl, rfl, rfl⟩)) hs) hs rfl))⟩
theorem for_revS {z : Str} {g : TG} {tb : TS} {D : Ends} {σ : L2.St} {H : Hp} (Pv : Nat → L2.St → Hp → Prop) (h0 : Pv 0 σ H)
    (hs : ∀ i c σ H, z.cps[z.cps.size - 1 - i]? = some c → i < z.cps.size → Pv i σ H → g (.str ⟨#[c]⟩) σ H fun σ2 H2 => tb { D with nx := Pv (i + 1), ct := Pv (i + 1), bk := D.nx } σ2 H2) (hd : ∀ σ H, Pv z.cps.size σ H → D.nx σ H) : ForB (ItvS z) g tb D σ H := by
  refine ⟨fun i m σ H => m = z.cps.size - i ∧ i ≤ z.cps.size ∧ Pv i σ H, ⟨_, rfl, Nat.zero_le _, h0⟩, ?_⟩
  rintro i m σ H ⟨rfl, hi, p⟩
  by_cases hlt : i < z.cps.size
  · refine .inr ⟨hlt, Pv (i + 1), fun σ' H' p' => ⟨z.cps.size - (i + 1), by omega, rfl, hlt, p'⟩, fun x H' y => ?_⟩
    obtain ⟨e, c, hc, ex⟩ := y
    subst e ex
    exact hs i c σ _ hc hlt p
  · have e : i = z.cps.size := by omega
    subst e
    exact .inl ⟨Nat.le_refl _, hd σ H p⟩
end Ly
set_option Elab.async false
set_option linter.all false
set_option maxRecDepth 100000
set_option maxHeartbeats 2000000
/-! Ly: terms, places, parts, lifting, putting (no text's own) -/
namespace Ly
open PySem PySem.Spec PyProof.Rows L2 Evl
abbrev nums (ds : List Nat) : List V := ds.map fun (d : Nat) => V.int d
/-! ### lifting -/
def lif (c d n : Nat) : Nat := if d ≤ n then n + c else n
theorem Tm.vmap_vmap (g h : Nat → Nat → Nat) : ∀ (t : Tm) (d : Nat), (t.vmap g d).vmap h d = t.vmap (fun d n => h d (g d n)) d
  | .var _, _ => rfl
  | .lam b, d => by simp [Tm.vmap, Tm.vmap_vmap g h b]
  | .app f a, d => by simp [Tm.vmap, Tm.vmap_vmap g h f, Tm.vmap_vmap g h a]
theorem Tm.vmap_id {g : Nat → Nat → Nat} (hg : ∀ d n, g d n = n) : ∀ (t : Tm) (d : Nat), t.vmap g d = t
  | .var _, _ => by simp [Tm.vmap, hg]
  | .lam b, d => by simp [Tm.vmap, Tm.vmap_id hg b]
  | .app f a, d => by simp [Tm.vmap, Tm.vmap_id hg f, Tm.vmap_id hg a]
theorem Tm.vmap_len (g : Nat → Nat → Nat) (t : Tm) (d : Nat) : (t.vmap g d).enc.length = t.enc.length := by
  rw [← Tm.deps_len _ d, Tm.deps_vmap, Tm.deps_len]
theorem lif_lif (c m : Nat) : (fun d n => lif m d (lif c d n)) = lif (c + m) := by
  funext d n
  by_cases h : d ≤ n
  · have e1 : lif c d n = n + c := if_pos h
    have e2 : lif m d (n + c) = n + c + m := if_pos (by omega)
    have e3 : lif (c + m) d n = n + (c + m) := if_pos h
    rw [e1, e2, e3]
    omega
  · have e1 : ∀ k, lif k d n = n := fun k => if_neg h
    rw [e1, e1, e1]
theorem Tm.lif_lif (c m : Nat) (t : Tm) (d : Nat) : (t.vmap (lif c) d).vmap (lif m) d = t.vmap (lif (c + m)) d := by
  rw [Tm.vmap_vmap, Ly.lif_lif]
theorem Tm.lif_zero (t : Tm) (d : Nat) : t.vmap (lif 0) d = t := Tm.vmap_id (fun d n => by simp [lif]) t d
theorem nums_at {ds : List Nat} {i : Nat} {y : V} (h : (nums ds)[i]? = some y) : ∃ d, ds[i]? = some d ∧ y = .int (d : Int) := by
  rw [List.getElem?_map] at h
  cases e : ds[i]? with
  | none => rw [e] at h; cases h
  | some d => rw [e] at h; exact ⟨d, rfl, (Option.some.inj h).symm⟩
/-! ### putting -/
def Tm.put (u : Tm) : Nat → Tm → Tm
  | d, .var n => if n < d then .var n else if n = d then u.vmap (lif d) 0 else .var (n - 1)
  | d, .lam b => .lam (Tm.put u (d + 1) b)
  | d, .app f a => .app (Tm.put u d f) (Tm.put u d a)
def pvs (u : Tm) (v : V) (d : Nat) : List V := match v with
  | .int n => (Tm.put u d (.var n.toNat)).enc
  | v => [v]
theorem Tm.enc_put (u : Tm) : ∀ (t : Tm) (d : Nat), (Tm.put u d t).enc = (List.zipWith (pvs u) t.enc (t.deps d)).flatten
  | .var n, d => by simp [Tm.deps, Tm.enc, pvs]
  | .lam b, d => by simp [Tm.put, Tm.deps, Tm.enc, Tm.enc_put u b, pvs]
  | .app f a, d => by
    have hl : f.enc.length = (f.deps d).length := (Tm.deps_len f d).symm
    simp only [Tm.put, Tm.deps, Tm.enc, List.zipWith_cons_cons, Tm.enc_put u f, Tm.enc_put u a, List.zipWith_append hl, List.flatten_cons, List.flatten_append]
    rfl
theorem pvs_low {u : Tm} {n d : Nat} (h : n < d) : pvs u (.int n) d = [.int n] := by
  simp only [pvs, Tm.put, Int.toNat_natCast]
  rw [if_pos h]
  rfl
theorem pvs_at {u : Tm} {d : Nat} : pvs u (.int (d : Int)) d = (u.vmap (lif d) 0).enc := by
  simp only [pvs, Tm.put, Int.toNat_natCast]
  rw [if_neg (Nat.lt_irrefl d)]
  rfl
theorem pvs_high {u : Tm} {n d : Nat} (h : d < n) : pvs u (.int n) d = [.int ((n : Int) - 1)] := by
  simp only [pvs, Tm.put, Int.toNat_natCast]
  rw [if_neg (by omega), if_neg (by omega)]
  have e : ((n - 1 : Nat) : Int) = (n : Int) - 1 := by omega
  show [V.int ((n - 1 : Nat) : Int)] = _
  rw [e]
theorem pvs_len (u : Tm) (v : V) (d : Nat) : (pvs u v d).length ≤ u.enc.length := by
  have pos := List.length_pos_iff.mpr u.enc_ne
  unfold pvs
  split
  · simp only [Tm.put]
    split
    · exact pos
    · split
      · rw [Tm.vmap_len]
        exact Nat.le_refl _
      · exact pos
  · exact pos
theorem flat_len {α : Type} {M : Nat} : ∀ {xs : List (List α)}, (∀ x ∈ xs, x.length ≤ M) → xs.flatten.length ≤ xs.length * M
  | [], _ => by simp
  | x :: xs, h => by
    have h1 := h x List.mem_cons_self
    have h2 := flat_len (xs := xs) fun y hy => h y (List.mem_cons_of_mem _ hy)
    simp only [List.flatten_cons, List.length_append, List.length_cons, Nat.succ_mul]
    omega
theorem zip_mem_len {u : Tm} : ∀ {xs : List V} {ds : List Nat}, ∀ x ∈ List.zipWith (pvs u) xs ds, x.length ≤ u.enc.length
  | [], _, x, h => by simp at h
  | _ :: _, [], x, h => by simp at h
  | a :: xs, d :: ds, x, h => by
    rw [List.zipWith_cons_cons] at h
    rcases List.mem_cons.mp h with e | h
    · rw [e]
      exact pvs_len u a d
    · exact zip_mem_len x h
theorem pre_len {u : Tm} {xs : List V} {ds : List Nat} (i : Nat) : ((List.zipWith (pvs u) xs ds).take i).flatten.length ≤ i * u.enc.length := by
  refine Nat.le_trans (flat_len fun x hx => zip_mem_len x (List.mem_of_mem_take hx)) (Nat.mul_le_mul_right _ ?_)
  rw [List.length_take]
  omega
theorem flat_take_le {α : Type} (xs : List (List α)) (i : Nat) : (xs.take i).flatten.length ≤ xs.flatten.length := by
  have e : xs.flatten = (xs.take i).flatten ++ (xs.drop i).flatten := by rw [← List.flatten_append, List.take_append_drop]
  rw [e, List.length_append]
  omega
theorem Tm.put_len (u t : Tm) (d : Nat) : (Tm.put u d t).enc.length ≤ t.enc.length * u.enc.length := by
  rw [Tm.enc_put]
  refine Nat.le_trans (flat_len zip_mem_len) (Nat.mul_le_mul_right _ ?_)
  rw [List.length_zipWith]
  omega
/-! ### putting and lifting: how they pass each other -/
theorem Tm.lif_then (j k : Nat) : ∀ (v : Tm) (d : Nat), (v.vmap (lif j) d).vmap (lif k) (d + j) = v.vmap (lif (j + k)) d
  | .var n, d => by
    simp only [Tm.vmap, lif]
    congr 1
    split <;> split <;> omega
  | .lam b, d => by
    have h := Tm.lif_then j k b (d + 1)
    simp only [Tm.vmap]
    rw [show d + j + 1 = d + 1 + j by omega, h]
  | .app f a, d => by simp only [Tm.vmap, Tm.lif_then j k f, Tm.lif_then j k a]
theorem Tm.put_lif (w : Tm) (k : Nat) : ∀ (v : Tm) (j : Nat), Tm.put w (j + k) (v.vmap (lif (k + 1)) j) = v.vmap (lif k) j
  | .var n, j => by
    simp only [Tm.vmap, lif]
    by_cases h : j ≤ n
    · rw [if_pos h, if_pos h]
      simp only [Tm.put]
      rw [if_neg (by omega), if_neg (by omega)]
      congr 1
    · rw [if_neg h, if_neg h]
      simp only [Tm.put]
      rw [if_pos (by omega)]
  | .lam b, j => by
    have h := Tm.put_lif w k b (j + 1)
    simp only [Tm.vmap, Tm.put]
    rw [show j + k + 1 = j + 1 + k by omega, h]
  | .app f a, j => by simp only [Tm.vmap, Tm.put, Tm.put_lif w k f, Tm.put_lif w k a]
theorem Tm.put_lift (w t : Tm) : Tm.put w 0 (t.vmap (lif 1) 0) = t := by
  have h := Tm.put_lif w 0 t 0
  rw [Tm.lif_zero] at h
  exact h
theorem Tm.put_up (v : Tm) (k : Nat) : ∀ (u : Tm) (j : Nat), Tm.put v (j + k) (u.vmap (lif k) j) = (Tm.put v j u).vmap (lif k) j
  | .var n, j => by
    simp only [Tm.vmap, lif]
    rcases Nat.lt_trichotomy n j with h | h | h
    · rw [if_neg (by omega)]
      simp only [Tm.put]
      rw [if_pos (by omega), if_pos h]
      simp only [Tm.vmap, lif]
      rw [if_neg (by omega)]
    · subst h
      rw [if_pos (Nat.le_refl n)]
      simp only [Tm.put]
      rw [if_neg (by omega), if_pos trivial, if_neg (by omega), if_pos trivial]
      have e := Tm.lif_then n k v 0
      rw [Nat.zero_add] at e
      exact e.symm
    · rw [if_pos (by omega)]
      simp only [Tm.put]
      rw [if_neg (by omega), if_neg (by omega), if_neg (by omega), if_neg (by omega)]
      simp only [Tm.vmap, lif]
      rw [if_pos (by omega)]
      congr 1
      omega
  | .lam b, j => by
    have h := Tm.put_up v k b (j + 1)
    simp only [Tm.vmap, Tm.put]
    rw [show j + k + 1 = j + 1 + k by omega, h]
  | .app f a, j => by simp only [Tm.vmap, Tm.put, Tm.put_up v k f, Tm.put_up v k a]
/-- putting u, then v, is putting v below one abstraction, then u with v put into it -/
theorem Tm.put_put (u v : Tm) : ∀ (t : Tm) (k : Nat), Tm.put v k (Tm.put u k t) = Tm.put (Tm.put v 0 u) k (Tm.put v (k + 1) t)
  | .var n, k => by
    rcases Nat.lt_trichotomy n k with h | h | h
    · simp only [Tm.put]
      rw [if_pos h, if_pos (by omega)]
      simp only [Tm.put]
      rw [if_pos h, if_pos h]
    · subst h
      simp only [Tm.put]
      rw [if_neg (by omega), if_pos trivial, if_pos (by omega)]
      simp only [Tm.put]
      rw [if_neg (by omega), if_pos trivial]
      have e := Tm.put_up v n u 0
      rw [Nat.zero_add] at e
      exact e
    · by_cases h2 : n = k + 1
      · subst h2
        simp only [Tm.put]
        rw [if_neg (by omega), if_neg (by omega), if_neg (by omega), if_pos trivial]
        simp only [Tm.put]
        rw [if_neg (by omega), if_pos (by omega)]
        have e := Tm.put_lif (Tm.put v 0 u) k v 0
        rw [Nat.zero_add] at e
        rw [e]
      · simp only [Tm.put]
        rw [if_neg (by omega), if_neg (by omega), if_neg (by omega), if_neg (by omega)]
        simp only [Tm.put]
        rw [if_neg (by omega), if_neg (by omega), if_neg (by omega), if_neg (by omega)]
  | .lam b, k => by simp only [Tm.put, Tm.put_put u v b]
  | .app f a, k => by simp only [Tm.put, Tm.put_put u v f, Tm.put_put u v a]
theorem Tm.put_size (u : Tm) : ∀ (t : Tm) (d : Nat), 2 * (Tm.put u d t).enc.length ≤ 2 * t.enc.length + (t.enc.length + 1) * (u.enc.length - 1)
  | .var n, d => by
    have pos := List.length_pos_iff.mpr u.enc_ne
    simp only [Tm.put]
    split
    · simp [Tm.enc]
    · split
      · rw [Tm.vmap_len]
        simp only [Tm.enc, List.length_cons, List.length_nil]
        omega
      · simp [Tm.enc]
  | .lam b, d => by
    have h := Tm.put_size u b (d + 1)
    simp only [Tm.put, Tm.enc, List.length_cons]
    generalize u.enc.length - 1 = k at *
    rw [Nat.add_mul, Nat.add_mul]
    rw [Nat.add_mul] at h
    omega
  | .app f a, d => by
    have h1 := Tm.put_size u f d
    have h2 := Tm.put_size u a d
    simp only [Tm.put, Tm.enc, List.length_cons, List.length_append]
    generalize u.enc.length - 1 = k at *
    rw [Nat.add_mul] at h1 h2
    rw [Nat.add_mul, Nat.add_mul, Nat.add_mul]
    omega
theorem Tm.vars_lif {N c : Nat} : ∀ {u : Tm} {d : Nat}, u.vars N → (u.vmap (lif c) d).vars (N + c)
  | .var n, d, h => by
    have h : n ≤ N := h
    show lif c d n ≤ N + c
    unfold lif
    split <;> omega
  | .lam b, d, h => Tm.vars_lif (u := b) h
  | .app f a, d, h => ⟨Tm.vars_lif (u := f) h.1, Tm.vars_lif (u := a) h.2⟩
theorem Tm.vars_put {u : Tm} {M N : Nat} (hu : u.vars N) : ∀ {t : Tm} {d : Nat}, t.vars M → (Tm.put u d t).vars (M + N + d + t.enc.length)
  | .var n, d, h => by
    have h : n ≤ M := h
    simp only [Tm.put]
    split
    · show n ≤ _
      omega
    · split
      · exact Tm.vars_mono (by omega) (Tm.vars_lif (c := d) hu)
      · show n - 1 ≤ _
        omega
  | .lam b, d, h => Tm.vars_mono (by simp only [Tm.enc, List.length_cons]; omega) (Tm.vars_put hu (t := b) (d := d + 1) h)
  | .app f a, d, h => ⟨Tm.vars_mono (by simp only [Tm.enc, List.length_cons, List.length_append]; omega) (Tm.vars_put hu (t := f) (d := d) h.1), Tm.vars_mono (by simp only [Tm.enc, List.length_cons, List.length_append]; omega) (Tm.vars_put hu (t := a) (d := d) h.2)⟩
theorem fits_of {t : Tm} (h : t.vars 1000000) (l : t.enc.length ≤ 1000) : fitsV t.enc = true := by
  unfold fitsV
  rw [ok_vars h, decide_eq_true l]
  rfl
theorem Tm.vars_ok : ∀ {t : Tm}, t.enc.all okV = true → t.vars 1000000
  | .var n, h => by
    have h : (decide ((n : Int) ≤ 1000000) && true) = true := h
    have h2 : (n : Int) ≤ 1000000 := by simpa using h
    show n ≤ 1000000
    omega
  | .lam b, h => by
    have h : (true && b.enc.all okV) = true := h
    exact Tm.vars_ok (t := b) (by simpa using h)
  | .app f a, h => by
    have h : (true && (f.enc ++ a.enc).all okV) = true := h
    rw [List.all_append] at h
    have h2 : f.enc.all okV = true ∧ a.enc.all okV = true := by simpa using h
    exact ⟨Tm.vars_ok h2.1, Tm.vars_ok h2.2⟩
theorem fits_term {t : Tm} (h : fitsV t.enc = true) : isTermV t.enc = true := by
  unfold fitsV at h
  rw [Bool.and_eq_true] at h
  unfold isTermV
  rw [h.1, scan_tm (Tm.vars_ok h.2)]
  rfl
/-! ### texts as lists of signs; places -/
def rAddZ : R2 := fun x y H Q => ∃ i j, x = .str i ∧ y = .str j ∧ i.length + j.length ≤ sizeLine ∧ Q (.str (i ++ j)) H
theorem op_addZ {X : Cx} : OpR X (binaryOp .Add) rAddZ := op_add_str
def rLenZ : List V → Hp → VK → Prop := fun xs H Q => ∃ z, xs = [.str z] ∧ z.length ≤ sizeLine ∧ Q (.int z.length) H
theorem call_lenZ {X : Cx} : CallR X (.builtin "len") rLenZ := call_len_str
def pl (p : List Nat) : Str := ⟨p.toArray⟩
theorem pl_cps (p : List Nat) : (pl p).cps = p.toArray := rfl
theorem pl_len (p : List Nat) : (pl p).length = p.length := by simp [pl, Str.length]
theorem pl_app (p q : List Nat) : pl p ++ pl q = pl (p ++ q) := by
  show Str.mk (p.toArray ++ q.toArray) = ⟨(p ++ q).toArray⟩
  simp
theorem pl_b : ("b" : Str) = pl [98] := by decide +kernel
theorem pl_f : ("f" : Str) = pl [102] := by decide +kernel
theorem pl_a : ("a" : Str) = pl [97] := by decide +kernel
theorem pl_e : ("" : Str) = pl [] := by decide +kernel
theorem pl_inj {p q : List Nat} (h : pl p = pl q) : p = q := by
  have e := congrArg Str.cps h
  simpa [pl] using e
theorem signs_pl (p : List Nat) : signs (pl p) = p.map fun c => V.str (pl [c]) := by simp [signs, pl]
abbrev plcs (ps : List (List Nat)) : List V := ps.map fun p => V.str (pl p)
section
variable {H : Hp} {Q : VK}
theorem w_addZ {p q : List Nat} (z : p.length + q.length ≤ 16000000) (h : Q (.str (pl (p ++ q))) H) : rAddZ (.str (pl p)) (.str (pl q)) H Q :=
  ⟨pl p, pl q, rfl, rfl, by rw [pl_len, pl_len]; exact ly_sz z, by rw [pl_app]; exact h⟩
theorem w_addZb {p : List Nat} (z : p.length ≤ 15000000) (h : Q (.str (pl (p ++ [98]))) H) : rAddZ (.str (pl p)) (.str "b") H Q := by
  rw [pl_b]
  exact w_addZ (by simp; omega) h
theorem w_addZf {p : List Nat} (z : p.length ≤ 15000000) (h : Q (.str (pl (p ++ [102]))) H) : rAddZ (.str (pl p)) (.str "f") H Q := by
  rw [pl_f]
  exact w_addZ (by simp; omega) h
theorem w_addZa {p : List Nat} (z : p.length ≤ 15000000) (h : Q (.str (pl (p ++ [97]))) H) : rAddZ (.str (pl p)) (.str "a") H Q := by
  rw [pl_a]
  exact w_addZ (by simp; omega) h
theorem w_lenZ {p : List Nat} (z : p.length ≤ 16000000) (h : Q (.int p.length) H) : rLenZ [.str (pl p)] H Q :=
  ⟨pl p, rfl, by rw [pl_len]; exact ly_sz z, by rw [pl_len]; exact h⟩
end
/-- the letters' order: where they differ, the function comes first; else the shorter -/
def before : List Nat → List Nat → Bool
  | a :: x, b :: y => if a = b then before x y else decide (a = 102)
  | [], y => decide (0 < y.length)
  | _ :: _, [] => false
theorem before_self : ∀ x : List Nat, before x x = false
  | [] => rfl
  | a :: x => by simp [before, before_self x]
theorem before_app : ∀ (p x y : List Nat), before (p ++ x) (p ++ y) = before x y
  | [], _, _ => rfl
  | a :: p, x, y => by simp [before, before_app p x y]
def RB (x y : List Nat) : Prop := before x y = true ∧ before y x = false
theorem RB.app {p x y : List Nat} (h : RB x y) : RB (p ++ x) (p ++ y) := ⟨by rw [before_app]; exact h.1, by rw [before_app]; exact h.2⟩
theorem RB.longer {p s : List Nat} {c : Nat} : RB p (p ++ c :: s) := by
  have h : RB [] (c :: s) := ⟨by simp [before], rfl⟩
  have := RB.app (p := p) h
  rwa [List.append_nil] at this
theorem RB.fa {p s u : List Nat} : RB (p ++ 102 :: s) (p ++ 97 :: u) := RB.app ⟨rfl, rfl⟩
def Tm.pls : List Nat → Tm → List (List Nat)
  | p, .var _ => [p]
  | p, .lam b => p :: b.pls (p ++ [98])
  | p, .app f a => p :: (f.pls (p ++ [102]) ++ a.pls (p ++ [97]))
theorem Tm.pls_len : ∀ (t : Tm) (p : List Nat), (t.pls p).length = t.enc.length
  | .var _, _ => rfl
  | .lam b, p => by simp [Tm.pls, Tm.enc, Tm.pls_len b]
  | .app f a, p => by simp [Tm.pls, Tm.enc, Tm.pls_len f, Tm.pls_len a]
theorem Tm.pls_pre : ∀ (t : Tm) {p q : List Nat}, q ∈ t.pls p → ∃ s, q = p ++ s ∧ s.length < t.enc.length
  | .var _, p, q, h => ⟨[], by simpa [Tm.pls] using h, by simp [Tm.enc]⟩
  | .lam b, p, q, h => by
    rcases List.mem_cons.mp h with e | h
    · exact ⟨[], by simp [e], by simp [Tm.enc]⟩
    · obtain ⟨s, e, hl⟩ := Tm.pls_pre b h
      exact ⟨98 :: s, by rw [e]; simp, by simp [Tm.enc]; omega⟩
  | .app f a, p, q, h => by
    rcases List.mem_cons.mp h with e | h
    · exact ⟨[], by simp [e], by simp [Tm.enc]⟩
    · rcases List.mem_append.mp h with h | h
      · obtain ⟨s, e, hl⟩ := Tm.pls_pre f h
        exact ⟨102 :: s, by rw [e]; simp, by simp [Tm.enc]; omega⟩
      · obtain ⟨s, e, hl⟩ := Tm.pls_pre a h
        exact ⟨97 :: s, by rw [e]; simp, by simp [Tm.enc]; omega⟩
theorem Tm.pls_order : ∀ (t : Tm) (p : List Nat), (t.pls p).Pairwise RB
  | .var _, p => List.pairwise_singleton _ _
  | .lam b, p => List.pairwise_cons.mpr ⟨fun q h => by
      obtain ⟨s, e, _⟩ := Tm.pls_pre b h
      rw [e, List.append_assoc]
      exact RB.longer, Tm.pls_order b _⟩
  | .app f a, p => List.pairwise_cons.mpr ⟨fun q h => by
      rcases List.mem_append.mp h with h | h
      · obtain ⟨s, e, _⟩ := Tm.pls_pre f h
        rw [e, List.append_assoc]
        exact RB.longer
      · obtain ⟨s, e, _⟩ := Tm.pls_pre a h
        rw [e, List.append_assoc]
        exact RB.longer, List.pairwise_append.mpr ⟨Tm.pls_order f _, Tm.pls_order a _, fun x hx y hy => by
      obtain ⟨s, e, _⟩ := Tm.pls_pre f hx
      obtain ⟨u, e2, _⟩ := Tm.pls_pre a hy
      rw [e, e2, List.append_assoc, List.append_assoc]
      exact RB.fa⟩⟩
theorem before_at {qs : List (List Nat)} (h : qs.Pairwise RB) {i j : Nat} {x y : List Nat} (hx : qs[i]? = some x) (hy : qs[j]? = some y) : before x y = decide (i < j) := by
  obtain ⟨li, ei⟩ := List.getElem?_eq_some_iff.mp hx
  obtain ⟨lj, ej⟩ := List.getElem?_eq_some_iff.mp hy
  rcases Nat.lt_trichotomy i j with g | g | g
  · have := List.pairwise_iff_getElem.mp h i j li lj g
    rw [ei, ej] at this
    rw [this.1, decide_eq_true g]
  · subst g
    have e : x = y := by rw [← ei, ← ej]
    rw [e, before_self, decide_eq_false (by omega)]
  · have := List.pairwise_iff_getElem.mp h j i lj li g
    rw [ei, ej] at this
    rw [this.2, decide_eq_false (by omega)]
def plss : List Tm → List (List Nat) → List (List Nat)
  | t :: ts, d :: ds => t.pls d ++ plss ts ds
  | _, _ => []
/-- in the midst of a walk that finds the places: what is left are the terms ts, whose places wait (the last one first) -/
def PInv (t : Tm) (i : Nat) (found ds : List (List Nat)) : Prop := ∃ ts : List Tm, t.enc.drop i = encs ts ∧ ts.length = ds.length ∧ t.pls [] = found ++ plss ts ds.reverse
theorem PInv.start (t : Tm) : PInv t 0 [] [[]] := ⟨[t], by simp [encs], rfl, by simp [plss]⟩
theorem PInv.done {t : Tm} {found ds : List (List Nat)} (h : PInv t t.enc.length found ds) : found = t.pls [] := by
  obtain ⟨ts, h1, h2, h3⟩ := h
  rw [List.drop_length] at h1
  have e := encs_nil h1.symm
  subst e
  rw [h3]
  simp [plss]
theorem PInv.step {t : Tm} {i : Nat} {found ds : List (List Nat)} {v : V} (h : PInv t i found ds) (hv : t.enc[i]? = some v) : ∃ r d, ds = r ++ [d] ∧
    ((∃ n : Nat, v = .int n ∧ PInv t (i + 1) (found ++ [d]) r) ∨ (v = .str "lam" ∧ PInv t (i + 1) (found ++ [d]) (r ++ [d ++ [98]])) ∨ (v = .str "app" ∧ PInv t (i + 1) (found ++ [d]) (r ++ [d ++ [97]] ++ [d ++ [102]]))) := by
  obtain ⟨ts, h1, h2, h3⟩ := h
  rw [drop_at hv] at h1
  match ts, h1, h2, h3 with
  | [], h1, _, _ => cases h1
  | t1 :: r1, h1, h2, h3 =>
    have hne : ds ≠ [] := fun e => by
      rw [e] at h2
      cases h2
    refine ⟨ds.dropLast, ds.getLast hne, (List.dropLast_concat_getLast hne).symm, ?_⟩
    generalize hr : ds.dropLast = r at *
    generalize hd : ds.getLast hne = d at *
    have hds : ds = r ++ [d] := by rw [← hr, ← hd]; exact (List.dropLast_concat_getLast hne).symm
    subst hds
    rw [List.reverse_append] at h3
    have h3 : t.pls [] = found ++ (t1.pls d ++ plss r1 r.reverse) := h3
    have hl : r1.length = r.length := by simpa using h2
    rw [encs_cons] at h1
    cases t1 with
    | var n =>
      have h1 : v :: t.enc.drop (i + 1) = V.int n :: encs r1 := h1
      injection h1 with e1 e2
      exact .inl ⟨n, e1, r1, e2, hl, by rw [h3]; simp [Tm.pls]⟩
    | lam b =>
      have h1 : v :: t.enc.drop (i + 1) = V.str "lam" :: (b.enc ++ encs r1) := h1
      injection h1 with e1 e2
      exact .inr (.inl ⟨e1, b :: r1, by rw [e2, encs_cons], by simp [hl], by rw [h3, List.reverse_append]; simp [Tm.pls, plss]⟩)
    | app f a =>
      have h1 : v :: t.enc.drop (i + 1) = V.str "app" :: (f.enc ++ a.enc ++ encs r1) := h1
      injection h1 with e1 e2
      exact .inr (.inr ⟨e1, f :: a :: r1, by rw [e2, encs_cons, encs_cons, List.append_assoc], by simp [hl], by rw [h3, List.reverse_append, List.reverse_append]; simp [Tm.pls, plss]⟩)
/-! ### parts of a term -/
theorem drop_get {xs r : List V} {i : Nat} {v : V} (h : xs.drop i = v :: r) : xs[i]? = some v ∧ xs.drop (i + 1) = r := by
  have e : (xs.drop i)[0]? = some v := by rw [h]; rfl
  rw [List.getElem?_drop, Nat.add_zero] at e
  refine ⟨e, ?_⟩
  have := drop_at e
  rw [h] at this
  injection this with _ e2
  exact e2.symm
def Tm.sub : Tm → List Nat → Option (Nat × Tm)
  | t, [] => some (0, t)
  | .lam b, c :: p => if c = 98 then (b.sub p).map (fun r => (r.1 + 1, r.2)) else none
  | .app f a, c :: p => if c = 102 then (f.sub p).map (fun r => (r.1 + 1, r.2)) else if c = 97 then (a.sub p).map (fun r => (r.1 + (1 + f.enc.length), r.2)) else none
  | .var _, _ :: _ => none
theorem Tm.sub_nil (t : Tm) : t.sub [] = some (0, t) := by cases t <;> rfl
/-- a part stands in the term where sub says, and its place in the list there -/
theorem Tm.sub_at : ∀ (t : Tm) (p q : List Nat) {i : Nat} {u : Tm}, t.sub p = some (i, u) → (∃ post, t.enc.drop i = u.enc ++ post) ∧ (t.pls q)[i]? = some (q ++ p)
  | t, [], q, i, u, h => by
    rw [Tm.sub_nil] at h
    cases h
    refine ⟨⟨[], by simp⟩, ?_⟩
    cases t <;> simp [Tm.pls]
  | .lam b, c :: p, q, i, u, h => by
    by_cases hc : c = 98
    · subst hc
      simp only [Tm.sub, if_pos] at h
      obtain ⟨⟨j, u'⟩, e1, e2⟩ := Option.map_eq_some_iff.mp h
      cases e2
      obtain ⟨⟨post, hp⟩, hl⟩ := Tm.sub_at b p (q ++ [98]) e1
      refine ⟨⟨post, by simpa [Tm.enc] using hp⟩, ?_⟩
      simp only [Tm.pls, List.getElem?_cons_succ, hl]
      simp
    · simp [Tm.sub, hc] at h
  | .app f a, c :: p, q, i, u, h => by
    by_cases hc : c = 102
    · subst hc
      simp only [Tm.sub, if_pos] at h
      obtain ⟨⟨j, u'⟩, e1, e2⟩ := Option.map_eq_some_iff.mp h
      cases e2
      obtain ⟨⟨post, hp⟩, hl⟩ := Tm.sub_at f p (q ++ [102]) e1
      have lt : j < (f.pls (q ++ [102])).length := (List.getElem?_eq_some_iff.mp hl).1
      have lt2 : j < f.enc.length := by rwa [Tm.pls_len] at lt
      refine ⟨⟨post ++ a.enc, ?_⟩, ?_⟩
      · simp only [Tm.enc, List.drop_succ_cons]
        rw [List.drop_append_of_le_length (Nat.le_of_lt lt2), hp, List.append_assoc]
      · simp only [Tm.pls, List.getElem?_cons_succ]
        rw [List.getElem?_append_left lt, hl]
        simp
    · by_cases hc2 : c = 97
      · subst hc2
        simp only [Tm.sub, if_pos] at h
        obtain ⟨⟨j, u'⟩, e1, e2⟩ := Option.map_eq_some_iff.mp h
        cases e2
        obtain ⟨⟨post, hp⟩, hl⟩ := Tm.sub_at a p (q ++ [97]) e1
        refine ⟨⟨post, ?_⟩, ?_⟩
        · have e : j + (1 + f.enc.length) = (f.enc.length + j) + 1 := by omega
          simp only [Tm.enc]
          rw [e, List.drop_succ_cons, List.drop_append, List.drop_of_length_le (by omega)]
          simpa using hp
        · have e : j + (1 + f.enc.length) = (f.enc.length + j) + 1 := by omega
          simp only [Tm.pls]
          rw [e, List.getElem?_cons_succ, List.getElem?_append_right (by rw [Tm.pls_len]; omega), Tm.pls_len]
          have e2 : f.enc.length + j - f.enc.length = j := by omega
          rw [e2, hl]
          simp
      · simp [Tm.sub, hc, hc2] at h
  | .var _, c :: p, q, i, u, h => by simp [Tm.sub] at h
theorem Tm.sub_of : ∀ (t : Tm) (q : List Nat) {r : List Nat}, r ∈ t.pls q → ∃ s i u, r = q ++ s ∧ t.sub s = some (i, u)
  | .var _, q, r, h => ⟨[], 0, _, by simpa [Tm.pls] using h, Tm.sub_nil _⟩
  | .lam b, q, r, h => by
    rcases List.mem_cons.mp h with e | h
    · exact ⟨[], 0, _, by simp [e], Tm.sub_nil _⟩
    · obtain ⟨s, i, u, e, hs⟩ := Tm.sub_of b _ h
      exact ⟨98 :: s, i + 1, u, by rw [e]; simp, by simp [Tm.sub, hs]⟩
  | .app f a, q, r, h => by
    rcases List.mem_cons.mp h with e | h
    · exact ⟨[], 0, _, by simp [e], Tm.sub_nil _⟩
    · rcases List.mem_append.mp h with h | h
      · obtain ⟨s, i, u, e, hs⟩ := Tm.sub_of f _ h
        exact ⟨102 :: s, i + 1, u, by rw [e]; simp, by simp [Tm.sub, hs]⟩
      · obtain ⟨s, i, u, e, hs⟩ := Tm.sub_of a _ h
        exact ⟨97 :: s, i + (1 + f.enc.length), u, by rw [e]; simp, by simp [Tm.sub, hs]⟩
theorem Tm.sub_mem (t : Tm) (p : List Nat) : p ∈ t.pls [] ↔ t.sub p ≠ none := by
  constructor
  · intro h
    obtain ⟨s, i, u, e, hs⟩ := Tm.sub_of t [] h
    simp only [List.nil_append] at e
    rw [e, hs]
    simp
  · intro h
    obtain ⟨⟨i, u⟩, e⟩ := Option.ne_none_iff_exists'.mp h
    have := (Tm.sub_at t p [] e).2
    exact List.mem_of_getElem? this
/-- loops over a text -/
theorem for_str {z : Str} {g : TG} {tb : TS} {D : Ends} {σ : L2.St} {H : Hp} (Pv : Nat → L2.St → Hp → Prop) (h0 : Pv 0 σ H)
    (hs : ∀ i c σ H, z.cps[i]? = some c → Pv i σ H → g (.str ⟨#[c]⟩) σ H fun σ2 H2 => tb { D with nx := Pv (i + 1), ct := Pv (i + 1), bk := D.nx } σ2 H2) (hd : ∀ σ H, Pv z.cps.size σ H → D.nx σ H) : ForB (Its z) g tb D σ H := by
  refine ⟨fun i m σ H => m = z.cps.size - i ∧ i ≤ z.cps.size ∧ Pv i σ H, ⟨_, rfl, Nat.zero_le _, h0⟩, ?_⟩
  rintro i m σ H ⟨rfl, hi, p⟩
  by_cases hlt : i < z.cps.size
  · refine .inr ⟨hlt, Pv (i + 1), fun σ' H' p' => ⟨z.cps.size - (i + 1), by omega, rfl, hlt, p'⟩, fun x H' y => ?_⟩
    obtain ⟨e, c, hc, ex⟩ := y
    subst e ex
    exact hs i c σ _ hc p
  · have e : i = z.cps.size := by omega
    subst e
    exact .inl ⟨Nat.le_refl _, hd σ H p⟩
theorem w_it {te : TE} {σ : L2.St} {H : Hp} {R : It → Hp → Prop} (h : te σ H fun v H1 => ∃ x, v = .str x ∧ R (Its x) H1) : iStr te σ H R := h
theorem w_it1 {z : Str} {B : Str → Prop} (q : B z) : ∃ x, V.str z = .str x ∧ B x := ⟨z, rfl, q⟩
/-- in the midst of a walk to a part's end: the terms that are missing -/
def EInv (xs : List V) (fin e : Nat) (ts : List Tm) : Prop := ∃ post, xs.drop e = encs ts ++ post ∧ e + (encs ts).length = fin
theorem EInv.start {xs post : List V} {s : Nat} {u : Tm} (h : xs.drop s = u.enc ++ post) : EInv xs (s + u.enc.length) s [u] := ⟨post, by simpa [encs] using h, by simp [encs]⟩
theorem EInv.step {xs : List V} {fin e : Nat} {t : Tm} {ts : List Tm} (h : EInv xs fin e (t :: ts)) : e < fin ∧ ∃ v ts', xs[e]? = some v ∧ EInv xs fin (e + 1) ts' ∧
    ((∃ n : Nat, v = .int n ∧ ts'.length = ts.length) ∨ (v = .str "lam" ∧ ts'.length = ts.length + 1) ∨ (v = .str "app" ∧ ts'.length = ts.length + 2)) := by
  obtain ⟨post, h1, h2⟩ := h
  rw [encs_cons] at h1 h2
  have pos := List.length_pos_iff.mpr t.enc_ne
  rw [List.length_append] at h2
  refine ⟨by omega, ?_⟩
  cases t with
  | var n =>
    have g := drop_get (i := e) (v := .int n) (r := encs ts ++ post) (by rw [h1]; rfl)
    exact ⟨_, ts, g.1, ⟨post, g.2, by simp [Tm.enc] at h2; omega⟩, .inl ⟨n, rfl, rfl⟩⟩
  | lam b =>
    have g := drop_get (i := e) (v := .str "lam") (r := b.enc ++ encs ts ++ post) (by rw [h1]; simp [Tm.enc])
    exact ⟨_, b :: ts, g.1, ⟨post, by rw [g.2, encs_cons], by rw [encs_cons]; simp [Tm.enc] at h2 ⊢; omega⟩, .inr (.inl ⟨rfl, rfl⟩)⟩
  | app f a =>
    have g := drop_get (i := e) (v := .str "app") (r := f.enc ++ (a.enc ++ encs ts) ++ post) (by rw [h1]; simp [Tm.enc])
    exact ⟨_, f :: a :: ts, g.1, ⟨post, by rw [g.2, encs_cons, encs_cons], by rw [encs_cons, encs_cons]; simp [Tm.enc] at h2 ⊢; omega⟩, .inr (.inr ⟨rfl, rfl⟩)⟩
theorem w_sl {r : V → Option Int → Option Int → Hp → VK → Prop} {te : TE} {tl th : TO} {σ : L2.St} {H : Hp} {Q : VK} (h : te σ H fun x H1 => tl σ H1 fun l H2 => th σ H2 fun u H3 => r x l u H3 Q) : L2.tSl r te tl th σ H Q := h
theorem w_noP {σ : L2.St} {H : Hp} {Q : Option Int → Hp → Prop} (h : Q none H) : tNoPart σ H Q := h
theorem w_part {t : TE} {σ : L2.St} {H : Hp} {Q : Option Int → Hp → Prop} (h : t σ H fun x H1 => ∃ i, x = .int i ∧ Q (some i) H1) : tPart t σ H Q := h
theorem w_part1 {j : Int} {B : Int → Prop} (h : B j) : ∃ i, V.int j = .int i ∧ B i := ⟨j, rfl, h⟩
theorem cut_lo (xs : List V) (i : Nat) : cutV xs none (some (i : Int)) = xs.take i := by
  unfold cutV
  rw [HT.sIx_nat, HT.sIx_none]
  simp
theorem cut_hi (xs : List V) (i : Nat) : cutV xs (some (i : Int)) none = xs.drop i := by
  unfold cutV
  rw [HT.sIx_nat, HT.sIx_none]
  by_cases h : i ≤ xs.length
  · rw [Nat.min_eq_left h]
    exact List.take_of_length_le (by simp)
  · rw [Nat.min_eq_right (by omega), List.drop_length, List.drop_of_length_le (by omega)]
    simp
def dueV (t v : Tm) (i : Nat) (u : Tm) : List V := t.enc.take i ++ v.enc ++ t.enc.drop (i + u.enc.length)
theorem dueV_nds (t v : Tm) (i : Nat) (u : Tm) : Nds (dueV t v i u) := ((t.nds.take i).app v.nds).app (t.nds.drop _)
theorem dueV_len (t v : Tm) (i : Nat) (u : Tm) : (dueV t v i u).length ≤ t.enc.length + v.enc.length + t.enc.length := by
  simp only [dueV, List.length_append, List.length_take, List.length_drop]
  omega
theorem cut_mid {xs post : List V} {i : Nat} {u : Tm} (h : xs.drop i = u.enc ++ post) : cutV xs (some (i : Int)) (some ((i + u.enc.length : Nat) : Int)) = u.enc := by
  have hl := congrArg List.length h
  rw [List.length_drop, List.length_append] at hl
  have pos := List.length_pos_iff.mpr u.enc_ne
  unfold cutV
  rw [HT.sIx_nat, HT.sIx_nat, Nat.min_eq_left (by omega), Nat.min_eq_left (by omega), h]
  rw [List.take_append_of_le_length (by omega)]
  exact List.take_of_length_le (by omega)
def Small (qs : List (List Nat)) : Prop := ∀ q ∈ qs, ∀ c ∈ q, c < 200
theorem Tm.pls_small : ∀ (t : Tm) (p : List Nat), (∀ c ∈ p, c < 200) → Small (t.pls p)
  | .var _, p, h, q, hq => by
    have e : q = p := by simpa [Tm.pls] using hq
    rw [e]
    exact h
  | .lam b, p, h, q, hq => by
    rcases List.mem_cons.mp hq with e | hq
    · rw [e]
      exact h
    · exact Tm.pls_small b _ (fun c hc => by
        rcases List.mem_append.mp hc with hc | hc
        · exact h c hc
        · rw [List.mem_singleton.mp hc]; decide) q hq
  | .app f a, p, h, q, hq => by
    rcases List.mem_cons.mp hq with e | hq
    · rw [e]
      exact h
    · rcases List.mem_append.mp hq with hq | hq
      · exact Tm.pls_small f _ (fun c hc => by
          rcases List.mem_append.mp hc with hc | hc
          · exact h c hc
          · rw [List.mem_singleton.mp hc]; decide) q hq
      · exact Tm.pls_small a _ (fun c hc => by
          rcases List.mem_append.mp hc with hc | hc
          · exact h c hc
          · rw [List.mem_singleton.mp hc]; decide) q hq
theorem dp_pl {K : PySem.W.Frag} {H : Hp} : ∀ qs : List (List Nat), DpAll K H (plcs qs) ((plcs qs).map dv)
  | [] => .nil
  | _ :: qs => .cons (.str _) (dp_pl qs)
theorem lay_pl : ∀ {qs : List (List Nat)}, Small qs → PyData.canLayAll0 ((plcs qs).map dv) = true
  | [], _ => rfl
  | q :: qs, h => by
    have ih := lay_pl (qs := qs) fun x hx => h x (List.mem_cons_of_mem _ hx)
    have hx : (dv (V.str (pl q))).canLay0 = true := by
      show PyData.strOk (pl q) = true
      unfold PyData.strOk
      rw [Array.all_eq_true]
      intro i hi
      have hm : (pl q).cps[i] ∈ q := by
        have : (pl q).cps[i] ∈ (pl q).cps := Array.getElem_mem hi
        simpa [pl] using this
      have := h q List.mem_cons_self _ hm
      simp
      omega
    show ((dv (V.str (pl q))).canLay0 && PyData.canLayAll0 ((plcs qs).map dv)) = true
    rw [hx, ih]
    rfl
theorem eqv_pl : ∀ qs : List (List Nat), PyData.eqvAll ((plcs qs).map dv) ((plcs qs).map dv) = true
  | [] => by simp [PyData.eqvAll]
  | q :: qs => by
    have ih := eqv_pl qs
    show PyData.eqvAll (dv (V.str (pl q)) :: (plcs qs).map dv) (dv (V.str (pl q)) :: (plcs qs).map dv) = true
    rw [PyData.eqvAll, ih]
    simp [dv, PyData.eqv]
theorem shaped_pl {qs : List (List Nat)} (h : Small qs) : SeqAt.shaped (.list ((plcs qs).map dv)) = true := by
  have h1 : (PyData.list ((plcs qs).map dv)).canLay0 = true := lay_pl h
  have h2 : (PyData.list ((plcs qs).map dv)).depth ≤ 2 := by
    have h := depth_all (plcs qs)
    simp only [PyData.depth]
    omega
  unfold SeqAt.shaped
  rw [h1, Bool.true_and]
  exact decide_eq_true (by omega)
theorem w_neP {K : PySem.W.Frag} {H : Hp} {Q : VK} {a b : Addr} {qs : List (List Nat)} (h : H a = some (.lst (plcs qs))) (k : H b = some (.lst (plcs qs))) (o : Small qs) (q : Q (.bl false) H) : rNeD K (.ref a) (.ref b) H Q :=
  ⟨_, _, .lst (SqL.of h) (dp_pl qs), .lst (SqL.of k) (dp_pl qs), shaped_pl o, shaped_pl o, by rw [PyData.eqv, eqv_pl]; exact q⟩
theorem part_fits {t u : Tm} {i : Nat} {post : List V} (h1 : t.vars 1000000) (h2 : t.enc.length ≤ 1000) (h : t.enc.drop i = u.enc ++ post) : fitsV u.enc = true := by
  have a1 := List.all_eq_true.mp (ok_vars h1)
  have hl := congrArg List.length h
  rw [List.length_drop, List.length_append] at hl
  have h3 : u.enc.length ≤ 1000 := by omega
  have : u.enc.all okV = true := List.all_eq_true.mpr fun x hx => a1 x (List.mem_of_mem_drop (i := i) (by rw [h]; exact List.mem_append_left _ hx))
  rw [fitsV, this, decide_eq_true h3]
  rfl
theorem same_at {qs : List (List Nat)} (o : qs.Pairwise RB) {i j : Nat} {r : List Nat} (hi : qs[i]? = some r) (hj : qs[j]? = some r) : i = j := by
  have b := before_at o hi hj
  have b2 := before_at o hj hi
  rw [before_self] at b b2
  have g1 := of_decide_eq_false b.symm
  have g2 := of_decide_eq_false b2.symm
  omega
theorem inV_pl (p : List Nat) : ∀ qs : List (List Nat), inV (.str (pl p)) (plcs qs) = decide (p ∈ qs)
  | [] => by simp [inV]
  | q :: qs => by
    have ih := inV_pl p qs
    unfold inV at ih ⊢
    have e : eqV (.str (pl q)) (.str (pl p)) = decide (p = q) := by
      show (pl q == pl p) = _
      by_cases h : p = q
      · subst h; simp
      · rw [decide_eq_false h]
        exact beq_eq_false_iff_ne.mpr fun e => h (pl_inj e).symm
    show (eqV (.str (pl q)) (.str (pl p)) || (plcs qs).any fun y => eqV y (.str (pl p))) = _
    rw [ih, e]
    simp
theorem flat_pl (qs : List (List Nat)) : (plcs qs).all flatV = true := by
  simp [flatV]
theorem w_inS {K : PySem.W.Frag} {H : Hp} {Q : VK} {p : Addr} {r : List Nat} {qs : List (List Nat)} (h : H p = some (.lst (plcs qs))) (q : Q (.bl (decide (r ∈ qs))) H) : rIn K false (.str (pl r)) (.ref p) H Q :=
  ⟨p, _, rfl, .inl (SqL.of h), rfl, flat_pl qs, by rw [inV_pl]; exact q⟩
theorem w_indexS {K : PySem.W.Frag} {H : Hp} {Q : VK} {p : Addr} {r : List Nat} {qs : List (List Nat)} {i : Nat} (h : H p = some (.lst (plcs qs))) (o : qs.Pairwise RB) (hi : qs[i]? = some r) (q : Q (.int (i : Int)) H) : rIndex K (.ref p) [.str (pl r)] H Q := by
  refine ⟨p, _, _, i, .str (pl r), rfl, rfl, SqL.of h, rfl, flat_pl qs, by rw [List.getElem?_map, hi]; rfl, beq_self_eq_true (pl r), fun m z hm hz => ?_, q⟩
  rw [List.getElem?_map] at hz
  cases e : qs[m]? with
  | none => rw [e] at hz; cases hz
  | some r2 =>
    rw [e] at hz
    cases hz
    show (pl r2 == pl r) = false
    refine beq_eq_false_iff_ne.mpr fun e2 => ?_
    have e3 := pl_inj e2
    subst e3
    have := same_at o e hi
    omega
theorem cutS_lo (p : List Nat) (i : Nat) : cutS (pl p) none (some (i : Int)) = pl (p.take i) := by
  unfold cutS
  rw [HT.sIx_nat, HT.sIx_none, pl_len]
  show pl ((p.drop 0).take (min i p.length - 0)) = pl (p.take i)
  congr 1
  rw [List.drop_zero, Nat.sub_zero, List.take_eq_take_iff]
  omega
theorem cutS_hi (p : List Nat) (i : Nat) : cutS (pl p) (some (i : Int)) none = pl (p.drop i) := by
  unfold cutS
  rw [HT.sIx_nat, HT.sIx_none, pl_len]
  show pl ((p.drop (min i p.length)).take (p.length - min i p.length)) = pl (p.drop i)
  congr 1
  rw [List.take_of_length_le (by simp)]
  by_cases h : i ≤ p.length
  · rw [Nat.min_eq_left h]
  · rw [Nat.min_eq_right (by omega), List.drop_length, List.drop_of_length_le (by omega)]
theorem w_slS {p : List Nat} {lo hi : Option Int} {H : Hp} {Q : VK} (z : p.length ≤ 1000000) (q : Q (.str (cutS (pl p) lo hi)) H) : rSlS (.str (pl p)) lo hi H Q := ⟨pl p, rfl, by rw [pl_len]; exact ly_sz (by omega), q⟩
theorem w_slLo {p : List Nat} {i : Nat} {H : Hp} {Q : VK} (z : p.length ≤ 1000000) (q : Q (.str (pl (p.take i))) H) : rSlS (.str (pl p)) none (some (i : Int)) H Q := w_slS z (by rw [cutS_lo]; exact q)
theorem w_slHi {p : List Nat} {i : Nat} {H : Hp} {Q : VK} (z : p.length ≤ 1000000) (q : Q (.str (pl (p.drop i))) H) : rSlS (.str (pl p)) (some (i : Int)) none H Q := w_slS z (by rw [cutS_hi]; exact q)
theorem w_slHi1 {p : List Nat} {i : Nat} {H : Hp} {Q : VK} (z : p.length ≤ 1000000) (q : Q (.str (pl (p.drop (i + 1)))) H) : rSlS (.str (pl p)) (some ((i : Int) + 1)) none H Q := w_slS z (by
  have e : (i : Int) + 1 = ((i + 1 : Nat) : Int) := rfl
  rw [e, cutS_hi]
  exact q)
def Tm.tall : Tm → Nat
  | .var _ => 0
  | .lam b => b.tall + 1
  | .app f a => max f.tall a.tall + 1
theorem Tm.tall_lt : ∀ t : Tm, t.tall < t.enc.length
  | .var _ => by simp [Tm.tall, Tm.enc]
  | .lam b => by
    have := Tm.tall_lt b
    simp only [Tm.tall, Tm.enc, List.length_cons]
    omega
  | .app f a => by
    have h1 := Tm.tall_lt f
    have h2 := Tm.tall_lt a
    simp only [Tm.tall, Tm.enc, List.length_cons, List.length_append]
    omega
theorem at_drop {xs r : List V} {i : Nat} {v : V} (h : xs.drop i = v :: r) : xs[i]? = some v ∧ xs.drop (i + 1) = r := by
  constructor
  · have := congrArg (fun l => l[0]?) h
    simpa using this
  · have := congrArg List.tail h
    simpa using this
theorem cut_one {x : V} {r : List V} : cutV (x :: r) none (some 1) = [x] := by
  simp [cutV, HT.sIx]
theorem cut_rest {x : V} {r : List V} : cutV (x :: r) (some 1) none = r := by
  simp [cutV, HT.sIx]
end Ly
set_option Elab.async false
set_option linter.all false
set_option maxRecDepth 100000
set_option maxHeartbeats 2000000
/-! Ly: redexes and steps of terms -/
namespace Ly
open PySem PySem.Spec PyProof.Rows L2 Evl
/-- the term with v in place of the part at p -/
def Tm.rep (v : Tm) : Tm → List Nat → Tm
  | _, [] => v
  | .lam b, c :: p => if c = 98 then .lam (Tm.rep v b p) else .lam b
  | .app f a, c :: p => if c = 102 then .app (Tm.rep v f p) a else if c = 97 then .app f (Tm.rep v a p) else .app f a
  | .var n, _ :: _ => .var n
theorem Tm.rep_nil (v t : Tm) : Tm.rep v t [] = v := by cases t <;> rfl
theorem Tm.sub_lt {t : Tm} {p : List Nat} {i : Nat} {u : Tm} (h : t.sub p = some (i, u)) : i + u.enc.length ≤ t.enc.length := by
  obtain ⟨⟨post, e⟩, _⟩ := Tm.sub_at t p [] h
  have hl := congrArg List.length e
  rw [List.length_drop, List.length_append] at hl
  have pos := List.length_pos_iff.mpr u.enc_ne
  omega
theorem Tm.rep_enc (v : Tm) : ∀ (t : Tm) (p : List Nat) {i : Nat} {u : Tm}, t.sub p = some (i, u) → (Tm.rep v t p).enc = dueV t v i u
  | t, [], i, u, h => by
    rw [Tm.sub_nil] at h
    cases h
    rw [Tm.rep_nil]
    simp [dueV]
  | .lam b, c :: p, i, u, h => by
    by_cases hc : c = 98
    · subst hc
      simp only [Tm.sub, if_pos] at h
      obtain ⟨⟨j, u'⟩, e1, e2⟩ := Option.map_eq_some_iff.mp h
      cases e2
      have ih := Tm.rep_enc v b p e1
      simp only [Tm.rep, if_pos, Tm.enc, ih, dueV]
      have e : j + 1 + u'.enc.length = j + u'.enc.length + 1 := by omega
      rw [e, List.take_succ_cons, List.drop_succ_cons]
      simp
    · simp [Tm.sub, hc] at h
  | .app f a, c :: p, i, u, h => by
    by_cases hc : c = 102
    · subst hc
      simp only [Tm.sub, if_pos] at h
      obtain ⟨⟨j, u'⟩, e1, e2⟩ := Option.map_eq_some_iff.mp h
      cases e2
      have ih := Tm.rep_enc v f p e1
      have lt := Tm.sub_lt e1
      simp only [Tm.rep, if_pos, Tm.enc, ih, dueV]
      have e : j + 1 + u'.enc.length = j + u'.enc.length + 1 := by omega
      rw [e, List.take_succ_cons, List.drop_succ_cons, List.take_append_of_le_length (by omega), List.drop_append_of_le_length (by omega)]
      simp
    · by_cases hc2 : c = 97
      · subst hc2
        simp only [Tm.sub, if_pos] at h
        obtain ⟨⟨j, u'⟩, e1, e2⟩ := Option.map_eq_some_iff.mp h
        cases e2
        have ih := Tm.rep_enc v a p e1
        simp only [Tm.rep, Tm.enc, dueV]
        rw [if_neg (by decide), if_pos trivial]
        simp only [Tm.enc, ih, dueV]
        have e : j + (1 + f.enc.length) = (f.enc.length + j) + 1 := by omega
        have e3 : j + (1 + f.enc.length) + u'.enc.length = (f.enc.length + (j + u'.enc.length)) + 1 := by omega
        rw [e3, e, List.take_succ_cons, List.drop_succ_cons, List.take_length_add_append, List.drop_length_add_append]
        simp
      · simp [Tm.sub, hc, hc2] at h
  | .var _, c :: p, i, u, h => by simp [Tm.sub] at h
theorem Tm.rep_len {v t u : Tm} {p : List Nat} {i : Nat} (h : t.sub p = some (i, u)) : (Tm.rep v t p).enc.length + u.enc.length = t.enc.length + v.enc.length := by
  have lt := Tm.sub_lt h
  rw [Tm.rep_enc v t p h, dueV]
  simp only [List.length_append, List.length_take, List.length_drop]
  omega
def Tm.isLam : Tm → Bool
  | .lam _ => true
  | _ => false
/-- the redexes, in order; p: the place of the term itself -/
def Tm.reds : List Nat → Tm → List (List Nat)
  | _, .var _ => []
  | p, .lam b => b.reds (p ++ [98])
  | p, .app f a => (if f.isLam then [p] else []) ++ (f.reds (p ++ [102]) ++ a.reds (p ++ [97]))
/-- the same off the list of nodes and the list of places -/
def redL : List V → List (List Nat) → List (List Nat)
  | v :: xs, q :: qs => (if v = .str "app" ∧ xs[0]? = some (.str "lam") then [q] else []) ++ redL xs qs
  | _, _ => []
theorem str_ne1 : ¬ (("lam" : Str) = "app") := by decide +kernel
theorem str_ne2 : ¬ (("app" : Str) = "lam") := by decide +kernel
theorem Tm.head_lam (t : Tm) (post : List V) : ((t.enc ++ post)[0]? = some (.str "lam")) ↔ t.isLam = true := by
  cases t with
  | var n => simp [Tm.enc, Tm.isLam]
  | lam b => simp [Tm.enc, Tm.isLam]
  | app f a => simp [Tm.enc, Tm.isLam, str_ne2]
theorem redL_enc : ∀ (t : Tm) (p : List Nat) (post : List V) (qs : List (List Nat)), redL (t.enc ++ post) (t.pls p ++ qs) = t.reds p ++ redL post qs
  | .var n, p, post, qs => by simp [Tm.enc, Tm.pls, Tm.reds, redL]
  | .lam b, p, post, qs => by
    have ih := redL_enc b (p ++ [98]) post qs
    simp [Tm.enc, Tm.pls, Tm.reds, redL, ih, str_ne1]
  | .app f a, p, post, qs => by
    have h1 := redL_enc f (p ++ [102]) (a.enc ++ post) (a.pls (p ++ [97]) ++ qs)
    have h2 := redL_enc a (p ++ [97]) post qs
    have hl := Tm.head_lam f (a.enc ++ post)
    simp only [Tm.enc, Tm.pls, Tm.reds, List.cons_append, List.append_assoc, redL, h1, h2]
    by_cases hf : f.isLam = true
    · rw [if_pos ⟨trivial, hl.mpr hf⟩, if_pos hf]
    · rw [if_neg (fun z => hf (hl.mp z.2)), if_neg hf]
theorem redL_all (t : Tm) : redL t.enc (t.pls []) = t.reds [] := by
  have h := redL_enc t [] [] []
  simpa [redL] using h
/-- what has been found after i places -/
def redK (xs : List V) (qs : List (List Nat)) : Nat → List (List Nat)
  | 0 => []
  | i + 1 => redK xs qs i ++ (if xs[i]? = some (.str "app") ∧ xs[i + 1]? = some (.str "lam") then [qs.getD i []] else [])
theorem redK_drop {xs : List V} {qs : List (List Nat)} (h : qs.length = xs.length) : ∀ i, i ≤ xs.length → redK xs qs i ++ redL (xs.drop i) (qs.drop i) = redL xs qs
  | 0, _ => by simp [redK]
  | i + 1, hi => by
    have ih := redK_drop h i (by omega)
    have hx : i < xs.length := by omega
    have hq : i < qs.length := by omega
    rw [List.drop_eq_getElem_cons hx, List.drop_eq_getElem_cons hq] at ih
    rw [← ih]
    simp only [redK, redL]
    rw [List.append_assoc]
    congr 2
    have e1 : xs[i]? = some xs[i] := List.getElem?_eq_getElem hx
    have e2 : qs.getD i [] = qs[i] := by rw [List.getD_eq_getElem?_getD, List.getElem?_eq_getElem hq]; rfl
    have e3 : (xs.drop (i + 1))[0]? = xs[i + 1]? := by rw [List.getElem?_drop, Nat.add_zero]
    rw [e1, e2, e3]
    simp
theorem redK_all (t : Tm) : redK t.enc (t.pls []) t.enc.length = t.reds [] := by
  have h := redK_drop (Tm.pls_len t []) t.enc.length (Nat.le_refl _)
  rw [List.drop_length, redL_all] at h
  simpa [redL] using h
theorem redK_mem {xs : List V} {qs : List (List Nat)} {r : List Nat} : ∀ {i : Nat}, i ≤ qs.length → r ∈ redK xs qs i → r ∈ qs
  | 0, _, h => by simp [redK] at h
  | i + 1, hi, h => by
    rcases List.mem_append.mp h with h | h
    · exact redK_mem (by omega) h
    · split at h
      · rw [List.mem_singleton.mp h, List.getD_eq_getElem?_getD, List.getElem?_eq_getElem (by omega)]
        exact List.getElem_mem _
      · simp at h
/-- a redex's part -/
def Tm.Red (t : Tm) (p : List Nat) (i : Nat) (b u : Tm) : Prop := t.sub p = some (i, .app (.lam b) u)
theorem Tm.reds_sub : ∀ (t : Tm) (q : List Nat) {r : List Nat}, r ∈ t.reds q ↔ ∃ s i b u, r = q ++ s ∧ t.Red s i b u
  | .var n, q, r => by
    constructor
    · intro h
      simp [Tm.reds] at h
    · rintro ⟨s, i, b, u, _, h⟩
      cases s <;> simp [Tm.Red, Tm.sub] at h
  | .lam c, q, r => by
    have ih := Tm.reds_sub c (q ++ [98]) (r := r)
    constructor
    · intro h
      obtain ⟨s, i, b, u, e, hs⟩ := ih.mp h
      exact ⟨98 :: s, i + 1, b, u, by rw [e]; simp, by unfold Tm.Red at hs ⊢; simp [Tm.sub, hs]⟩
    · rintro ⟨s, i, b, u, e, hs⟩
      cases s with
      | nil => simp [Tm.Red, Tm.sub] at hs
      | cons c2 s =>
        unfold Tm.Red at hs
        simp only [Tm.sub] at hs
        by_cases hc : c2 = 98
        · subst hc
          simp only [if_pos] at hs
          obtain ⟨⟨j, u'⟩, e1, e2⟩ := Option.map_eq_some_iff.mp hs
          cases e2
          exact ih.mpr ⟨s, j, b, u, by rw [e]; simp, e1⟩
        · simp [hc] at hs
  | .app f a, q, r => by
    have i1 := Tm.reds_sub f (q ++ [102]) (r := r)
    have i2 := Tm.reds_sub a (q ++ [97]) (r := r)
    constructor
    · intro h
      rcases List.mem_append.mp h with h | h
      · cases f with
        | lam b =>
          simp [Tm.isLam] at h
          exact ⟨[], 0, b, a, by simp [h], Tm.sub_nil _⟩
        | var n => simp [Tm.isLam] at h
        | app f a => simp [Tm.isLam] at h
      · rcases List.mem_append.mp h with h | h
        · obtain ⟨s, i, b, u, e, hs⟩ := i1.mp h
          exact ⟨102 :: s, i + 1, b, u, by rw [e]; simp, by unfold Tm.Red at hs ⊢; simp [Tm.sub, hs]⟩
        · obtain ⟨s, i, b, u, e, hs⟩ := i2.mp h
          exact ⟨97 :: s, i + (1 + f.enc.length), b, u, by rw [e]; simp, by unfold Tm.Red at hs ⊢; simp [Tm.sub, hs]⟩
    · rintro ⟨s, i, b, u, e, hs⟩
      cases s with
      | nil =>
        unfold Tm.Red at hs
        rw [Tm.sub_nil] at hs
        cases hs
        refine List.mem_append_left _ ?_
        simp [Tm.isLam, e]
      | cons c2 s =>
        unfold Tm.Red at hs
        simp only [Tm.sub] at hs
        refine List.mem_append_right _ ?_
        by_cases hc : c2 = 102
        · subst hc
          simp only [if_pos] at hs
          obtain ⟨⟨j, u'⟩, e1, e2⟩ := Option.map_eq_some_iff.mp hs
          cases e2
          exact List.mem_append_left _ (i1.mpr ⟨s, j, b, u, by rw [e]; simp, e1⟩)
        · by_cases hc2 : c2 = 97
          · subst hc2
            simp only [if_pos] at hs
            rw [if_neg (by decide)] at hs
            obtain ⟨⟨j, u'⟩, e1, e2⟩ := Option.map_eq_some_iff.mp hs
            cases e2
            exact List.mem_append_right _ (i2.mpr ⟨s, j, b, u, by rw [e]; simp, e1⟩)
          · simp [hc, hc2] at hs
theorem Tm.red_mem {t : Tm} {p : List Nat} : p ∈ t.reds [] ↔ ∃ i b u, t.Red p i b u := by
  rw [Tm.reds_sub]
  constructor
  · rintro ⟨s, i, b, u, e, h⟩
    simp only [List.nil_append] at e
    rw [e]
    exact ⟨i, b, u, h⟩
  · rintro ⟨i, b, u, h⟩
    exact ⟨p, i, b, u, by simp, h⟩
/-- the step at p (the term itself where p is no redex) -/
def Tm.step (t : Tm) (p : List Nat) : Tm := match t.sub p with
  | some (_, .app (.lam b) u) => Tm.rep (Tm.put u 0 b) t p
  | _ => t
theorem Tm.step_red {t : Tm} {p : List Nat} {i : Nat} {b u : Tm} (h : t.Red p i b u) : t.step p = Tm.rep (Tm.put u 0 b) t p := by
  unfold Tm.step
  rw [h]
/-- how the nodes of a redex stand in the list -/
theorem Tm.red_at {t : Tm} {p : List Nat} {i : Nat} {b u : Tm} (h : t.Red p i b u) : ∃ post, t.enc.drop i = .str "app" :: .str "lam" :: (b.enc ++ (u.enc ++ post)) := by
  obtain ⟨⟨post, e⟩, _⟩ := Tm.sub_at t p [] h
  exact ⟨post, by rw [e]; simp [Tm.enc]⟩
theorem Tm.step_enc {t : Tm} {p : List Nat} {i : Nat} {b u : Tm} (h : t.Red p i b u) : (t.step p).enc = t.enc.take i ++ (Tm.put u 0 b).enc ++ t.enc.drop (i + 2 + b.enc.length + u.enc.length) := by
  rw [Tm.step_red h, Tm.rep_enc _ t p h, dueV]
  congr 2
  simp only [Tm.enc, List.length_cons, List.length_append]
  omega
theorem Tm.reds_pls (t : Tm) {r : List Nat} (h : r ∈ t.reds []) : r ∈ t.pls [] := by
  rw [← redK_all t] at h
  exact redK_mem (by rw [Tm.pls_len]; exact Nat.le_refl _) h
/-- the part that begins at the i-th node -/
theorem Tm.part_at (t : Tm) {i : Nat} (h : i < t.enc.length) : ∃ p u post, (t.pls [])[i]? = some p ∧ t.sub p = some (i, u) ∧ t.enc.drop i = u.enc ++ post := by
  have hl : i < (t.pls []).length := by rw [Tm.pls_len]; exact h
  have g := List.getElem?_eq_getElem hl
  obtain ⟨s, j, u, e, hs⟩ := Tm.sub_of t [] (List.mem_of_getElem? g)
  simp only [List.nil_append] at e
  obtain ⟨⟨post, hd⟩, hp⟩ := Tm.sub_at t s [] hs
  simp only [List.nil_append] at hp
  have ij : i = j := same_at (Tm.pls_order t []) (by rw [g, e]) hp
  subst ij
  exact ⟨s, u, post, hp, hs, hd⟩
theorem Tm.after_app (t : Tm) {i : Nat} (h : t.enc[i]? = some (.str "app")) : ∃ v, t.enc[i + 1]? = some v ∧ ((∃ n : Int, v = .int n) ∨ v = .str "lam" ∨ v = .str "app") := by
  have hi := (List.getElem?_eq_some_iff.mp h).1
  obtain ⟨p, u, post, _, _, hd⟩ := t.part_at hi
  have h0 : (t.enc.drop i)[0]? = some (.str "app") := by rw [List.getElem?_drop, Nat.add_zero]; exact h
  rw [hd] at h0
  cases u with
  | var n => simp [Tm.enc] at h0
  | lam b => simp [Tm.enc, str_ne1] at h0
  | app f a =>
    have h1 : (t.enc.drop i)[1]? = (f.enc ++ a.enc ++ post)[0]? := by rw [hd]; rfl
    rw [List.getElem?_drop] at h1
    obtain ⟨v, r, e⟩ := List.exists_cons_of_ne_nil f.enc_ne
    refine ⟨v, by rw [h1, e]; rfl, ?_⟩
    rcases Tm.int_nat (t := f) (v := v) (by rw [e]; exact List.mem_cons_self) with ⟨n, e2⟩ | e2 | e2
    · exact .inl ⟨_, e2⟩
    · exact .inr (.inl e2)
    · exact .inr (.inr e2)
theorem redK_len (xs : List V) (qs : List (List Nat)) : ∀ i, (redK xs qs i).length ≤ i
  | 0 => Nat.zero_le _
  | i + 1 => by
    have := redK_len xs qs i
    simp only [redK, List.length_append]
    split
    · simp only [List.length_singleton]; omega
    · simp only [List.length_nil]; omega
theorem redK_app {xs : List V} {qs : List (List Nat)} {i : Nat} {q : List Nat} (h : xs[i]? = some (.str "app")) (h2 : xs[i + 1]? = some (.str "lam")) (hq : qs[i]? = some q) : redK xs qs (i + 1) = redK xs qs i ++ [q] := by
  simp only [redK]
  rw [if_pos ⟨h, h2⟩, List.getD_eq_getElem?_getD, hq]
  rfl
theorem redK_no {xs : List V} {qs : List (List Nat)} {i : Nat} (h : ¬ (xs[i]? = some (.str "app") ∧ xs[i + 1]? = some (.str "lam"))) : redK xs qs (i + 1) = redK xs qs i := by
  simp only [redK]
  rw [if_neg h, List.append_nil]
def zeroes : Nat → Tm
  | 0 => .var 0
  | n + 1 => .app (zeroes n) (.var 0)
/-! readings of lists of places, of one-word tuples -/
theorem Tm.pls_small0 (t : Tm) : Small (t.pls []) := Tm.pls_small t [] (by simp)
theorem Tm.reds_small (t : Tm) : Small (t.reds []) := fun q hq => Tm.pls_small0 t q (Tm.reds_pls t hq)
theorem w_eqP {K : PySem.W.Frag} {H : Hp} {Q : VK} {a b : Addr} {qs : List (List Nat)} (h : H a = some (.lst (plcs qs))) (k : H b = some (.lst (plcs qs))) (o : Small qs) (q : Q (.bl true) H) : rEqD K (.ref a) (.ref b) H Q :=
  ⟨_, _, .lst (SqL.of h) (dp_pl qs), .lst (SqL.of k) (dp_pl qs), shaped_pl o, shaped_pl o, by rw [PyData.eqv, eqv_pl]; exact q⟩
def wordOk (x : Str) : Bool := SeqAt.shaped (.tuple [.str x]) && PyData.eqv (.tuple [.str x]) (.tuple [.str x])
theorem w_neW {K : PySem.W.Frag} {H : Hp} {Q : VK} {a b : Addr} {x : Str} (o : wordOk x = true) (h : SqT K H a [.str x]) (k : SqT K H b [.str x]) (q : Q (.bl false) H) : rNeD K (.ref a) (.ref b) H Q := by
  unfold wordOk at o
  rw [Bool.and_eq_true] at o
  refine ⟨_, _, .tup h (.cons (.str _) .nil), .tup k (.cons (.str _) .nil), o.1, o.1, ?_⟩
  rw [o.2]
  exact q
theorem w_ixSt {H : Hp} {Q : VK} {p : List Nat} {i : Int} {c : Nat} (z : p.length ≤ 1000000) (h : atI p i = some c) (q : Q (.str (pl [c])) H) : rIxS (.str (pl p)) (.int i) H Q :=
  ⟨pl p, i, c, rfl, rfl, by rw [pl_len]; exact ly_sz (by omega), h, q⟩
theorem pl_fab : ("fab" : Str) = pl [102, 97, 98] := by decide +kernel
/-- what is too great, as a list -/
theorem bigs_nil {xs : List V} : (xs.filter fun v => !okV v).length = 0 ↔ xs.all okV = true := by
  rw [List.length_eq_zero_iff, List.filter_eq_nil_iff, List.all_eq_true]
  constructor
  · intro h x hx
    have := h x hx
    simpa using this
  · intro h x hx
    simp [h x hx]
theorem Tm.pls_lens (t : Tm) {r : List Nat} (h : r ∈ t.pls []) : r.length < t.enc.length := by
  obtain ⟨s, e, l⟩ := Tm.pls_pre t h
  simp only [List.nil_append] at e
  rw [e]
  exact l
theorem Tm.pls_ne (t : Tm) : t.pls [] ≠ [] := by cases t <;> simp [Tm.pls]
theorem Tm.reds_len (t : Tm) : (t.reds []).length ≤ t.enc.length := by
  have h := redK_len t.enc (t.pls []) t.enc.length
  rw [redK_all] at h
  exact h
theorem filter_take {xs : List V} {i : Nat} {x : V} (h : xs[i]? = some x) : (xs.take (i + 1)).filter (fun v => !okV v) = (xs.take i).filter (fun v => !okV v) ++ (if okV x = true then [] else [x]) := by
  rw [List.take_add_one, h, List.filter_append]
  cases hx : okV x <;> simp [hx]
theorem fits_iff {xs : List V} (l : xs.length ≤ 1000) : fitsV xs = decide ((xs.filter fun v => !okV v).length = 0) := by
  unfold fitsV
  rw [decide_eq_true l, Bool.true_and]
  by_cases h : xs.all okV = true
  · rw [h, decide_eq_true (bigs_nil.mpr h)]
  · rw [decide_eq_false (fun z => h (bigs_nil.mp z))]
    simpa using h
theorem plcs_ref (qs : List (List Nat)) (h : Addr) (r : List V) : plcs qs ≠ V.ref h :: r := by cases qs <;> simp
theorem plcs_off {H : Hp} {s d : Addr} {m : Stm} {qs : List (List Nat)} (st : StAt H s m) (h : H d = some (.lst (plcs qs))) : d ≠ s := fun z => by
  rw [z, st.2.1] at h
  exact plcs_ref qs _ _ (HO.lst.inj (Option.some.inj h)).symm
end Ly
set_option Elab.async false
set_option linter.all false
set_option maxRecDepth 100000
set_option maxHeartbeats 2000000
/-! Ly: roads; lists of terms as data; slices of lists -/
namespace Ly
open PySem PySem.Spec PyProof.Rows L2 Evl
/-- what a road passes: the terms, or which error comes first -/
inductive Res where
  | ok (ts : List Tm)
  | none
  | large
def Res.cons (t : Tm) : Res → Res
  | .ok ts => .ok (t :: ts)
  | r => r
def Tm.isRed (t : Tm) (p : List Nat) : Bool := decide (p ∈ t.reds [])
def Tm.pass : Tm → List (List Nat) → Res
  | t, [] => .ok [t]
  | t, p :: r => if t.isRed p = false then .none else if fitsV (t.step p).enc = false then .large else Res.cons t (Tm.pass (t.step p) r)
theorem Tm.isRed_iff {t : Tm} {p : List Nat} : t.isRed p = true ↔ ∃ i b u, t.Red p i b u := by
  unfold Tm.isRed
  rw [decide_eq_true_iff]
  exact Tm.red_mem
/-- a road of redexes -/
inductive Road : Tm → List (List Nat) → Prop
  | nil {t : Tm} : Road t []
  | cons {t : Tm} {p : List Nat} {r : List (List Nat)} (h : t.isRed p = true) (hr : Road (t.step p) r) : Road t (p :: r)
/-- where a road leads (its places taken for redexes) -/
def Tm.along : Tm → List (List Nat) → Tm
  | t, [] => t
  | t, p :: r => (t.step p).along r
theorem Tm.along_app (t : Tm) : ∀ (r s : List (List Nat)), t.along (r ++ s) = (t.along r).along s
  | [], _ => rfl
  | p :: r, s => Tm.along_app (t.step p) r s
theorem Road.snoc {t : Tm} {r : List (List Nat)} {p : List Nat} (h : Road t r) (hp : (t.along r).isRed p = true) : Road t (r ++ [p]) := by
  induction h with
  | nil => exact .cons hp .nil
  | cons h _ ih => exact .cons h (ih hp)
/-! the terms passed, seen from behind: how a loop gathers them -/
inductive Pass (t : Tm) : List (List Nat) → List Tm → Tm → Prop
  | nil : Pass t [] [t] t
  | snoc {r : List (List Nat)} {ts : List Tm} {u : Tm} {p : List Nat} (h : Pass t r ts u) (hp : u.isRed p = true) (hf : fitsV (u.step p).enc = true) : Pass t (r ++ [p]) (ts ++ [u.step p]) (u.step p)
theorem pass_app {t u : Tm} {r : List (List Nat)} {ts : List Tm} (h : Pass t r ts u) : ∀ s, Tm.pass t (r ++ s) = match Tm.pass u s with
    | .ok us => .ok (ts.dropLast ++ us)
    | e => e := by
  induction h with
  | nil =>
    intro s
    show Tm.pass t s = _
    cases Tm.pass t s <;> rfl
  | @snoc r ts u p h hp hf ih =>
    intro s
    rw [List.append_assoc, List.singleton_append, ih]
    have e : Tm.pass u (p :: s) = Res.cons u (Tm.pass (u.step p) s) := by
      show (if u.isRed p = false then Res.none else if fitsV (u.step p).enc = false then Res.large else _) = _
      rw [if_neg (by rw [hp]; simp), if_neg (by rw [hf]; simp)]
    rw [e]
    have hl : ∃ ts0, ts = ts0 ++ [u] := by
      cases h with
      | nil => exact ⟨[], rfl⟩
      | snoc _ _ _ => exact ⟨_, rfl⟩
    obtain ⟨ts0, rfl⟩ := hl
    cases Tm.pass (u.step p) s <;> simp [Res.cons]
theorem Pass.done {t u : Tm} {r : List (List Nat)} {ts : List Tm} (h : Pass t r ts u) : Tm.pass t r = .ok ts := by
  have e := pass_app h []
  rw [List.append_nil] at e
  rw [e]
  have hl : ∃ ts0, ts = ts0 ++ [u] := by
    cases h with
    | nil => exact ⟨[], rfl⟩
    | snoc _ _ _ => exact ⟨_, rfl⟩
  obtain ⟨ts0, rfl⟩ := hl
  simp [Tm.pass]
theorem Pass.last {t u : Tm} {r : List (List Nat)} {ts : List Tm} (h : Pass t r ts u) : ∃ ts0, ts = ts0 ++ [u] := by
  cases h with
  | nil => exact ⟨[], rfl⟩
  | snoc _ _ _ => exact ⟨_, rfl⟩
theorem Pass.none {t u : Tm} {r s : List (List Nat)} {ts : List Tm} {p : List Nat} (h : Pass t r ts u) (hp : u.isRed p = false) : Tm.pass t (r ++ p :: s) = .none := by
  rw [pass_app h]
  have e : Tm.pass u (p :: s) = Res.none := if_pos hp
  rw [e]
theorem Pass.large {t u : Tm} {r s : List (List Nat)} {ts : List Tm} {p : List Nat} (h : Pass t r ts u) (hp : u.isRed p = true) (hf : fitsV (u.step p).enc = false) : Tm.pass t (r ++ p :: s) = .large := by
  rw [pass_app h]
  have e : Tm.pass u (p :: s) = Res.large := by
    show (if u.isRed p = false then Res.none else if fitsV (u.step p).enc = false then Res.large else _) = _
    rw [if_neg (by rw [hp]; simp), if_pos hf]
  rw [e]
theorem Pass.len {t u : Tm} {r : List (List Nat)} {ts : List Tm} (h : Pass t r ts u) : ts.length = r.length + 1 := by
  induction h with
  | nil => rfl
  | snoc _ _ _ ih => simp [ih]
theorem fits_len {xs : List V} (h : fitsV xs = true) : xs.length ≤ 1000 := by
  unfold fitsV at h
  rw [Bool.and_eq_true] at h
  exact of_decide_eq_true h.1
theorem Tm.step_le (t : Tm) (p : List Nat) : (t.step p).enc.length ≤ t.enc.length + t.enc.length * t.enc.length := by
  unfold Tm.step
  split
  · rename_i i b u hred
    have h1 := Tm.rep_len (v := Tm.put u 0 b) hred
    have h2 := Tm.put_len u b 0
    have h3 := Tm.sub_lt hred
    have h4 : (Tm.app (.lam b) u).enc.length = b.enc.length + u.enc.length + 2 := by
      simp only [Tm.enc, List.length_cons, List.length_append]
      omega
    have h5 : b.enc.length * u.enc.length ≤ t.enc.length * t.enc.length := Nat.mul_le_mul (by omega) (by omega)
    omega
  · omega
/-- how long a step's result can be -/
theorem Tm.step_big {t : Tm} {p : List Nat} (h : t.enc.length ≤ 3000) : (t.step p).enc.length ≤ 9006000 := by
  unfold Tm.step
  split
  · rename_i i b u hred
    have h1 := Tm.rep_len (v := Tm.put u 0 b) hred
    have h2 := Tm.put_len u b 0
    have h3 := Tm.sub_lt hred
    have h4 : (Tm.app (.lam b) u).enc.length = b.enc.length + u.enc.length + 2 := by
      simp only [Tm.enc, List.length_cons, List.length_append]
      omega
    have h5 : b.enc.length * u.enc.length ≤ 3000 * 3000 := Nat.mul_le_mul (by omega) (by omega)
    omega
  · omega
/-- a variable replaced by another -/
theorem Tm.var_set (t : Tm) {i : Nat} {n : Int} (c : Nat) (h : t.enc[i]? = some (.int n)) : ∃ t' : Tm, t'.enc = t.enc.take i ++ [.int (c : Int)] ++ t.enc.drop (i + 1) := by
  have hi := (List.getElem?_eq_some_iff.mp h).1
  obtain ⟨p, u, post, _, hs, hd⟩ := t.part_at hi
  have h0 : (t.enc.drop i)[0]? = some (.int n) := by rw [List.getElem?_drop, Nat.add_zero]; exact h
  rw [hd] at h0
  cases u with
  | lam b => simp [Tm.enc] at h0
  | app f a => simp [Tm.enc] at h0
  | var m => exact ⟨Tm.rep (.var c) t p, Tm.rep_enc (.var c) t p hs⟩
/-! ### lists of terms as data -/
inductive Ts (K : PySem.W.Frag) (H : Hp) : List Addr → List Tm → Prop
  | nil : Ts K H [] []
  | cons {a : Addr} {as : List Addr} {t : Tm} {ts : List Tm} (h : SqT K H a t.enc) (r : Ts K H as ts) : Ts K H (a :: as) (t :: ts)
section
variable {K : PySem.W.Frag} {H H' : Hp} {Q : VK}
theorem Ts.mono {as : List Addr} {ts : List Tm} (h : Ts K H as ts) (e : ∀ a xs, SqT K H a xs → SqT K H' a xs) : Ts K H' as ts := by
  induction h with
  | nil => exact .nil
  | cons h _ ih => exact .cons (e _ _ h) ih
theorem Ts.ex {as : List Addr} {ts : List Tm} (h : Ts K H as ts) (e : Ex H H') : Ts K H' as ts := h.mono fun a xs z => ex_t e z
theorem Ts.snoc {as : List Addr} {ts : List Tm} {a : Addr} {t : Tm} (h : Ts K H as ts) (ha : SqT K H a t.enc) : Ts K H (as ++ [a]) (ts ++ [t]) := by
  induction h with
  | nil => exact .cons ha .nil
  | cons h _ ih => exact .cons h ih
theorem Ts.len {as : List Addr} {ts : List Tm} (h : Ts K H as ts) : as.length = ts.length := by
  induction h with
  | nil => rfl
  | cons _ _ ih => simp [ih]
theorem Ts.at {as : List Addr} {ts : List Tm} (h : Ts K H as ts) {i : Nat} {a : Addr} (ha : as[i]? = some a) : ∃ t, ts[i]? = some t ∧ SqT K H a t.enc := by
  induction h generalizing i with
  | nil => simp at ha
  | cons h _ ih =>
    cases i with
    | zero =>
      simp at ha
      subst ha
      exact ⟨_, rfl, h⟩
    | succ i => exact ih (by simpa using ha)
abbrev refs (as : List Addr) : List V := as.map V.ref
def tmd (t : Tm) : PyData := .tuple (t.enc.map dv)
theorem Ts.dp {as : List Addr} {ts : List Tm} (h : Ts K H as ts) : DpAll K H (refs as) (ts.map tmd) := by
  induction h with
  | nil => exact .nil
  | cons h _ ih => exact .cons (.tup h (dp_nodes (Tm.nds _))) ih
theorem lay_tms : ∀ ts : List Tm, PyData.canLayAll0 (ts.map tmd) = true
  | [] => rfl
  | t :: ts => by
    have h1 : (tmd t).canLay0 = true := lay_nodes t.nds
    show ((tmd t).canLay0 && PyData.canLayAll0 (ts.map tmd)) = true
    rw [h1, lay_tms ts]
    rfl
theorem depth_tms : ∀ ts : List Tm, PyData.depthAll (ts.map tmd) ≤ 2
  | [] => by simp [PyData.depthAll]
  | t :: ts => by
    have h1 : (tmd t).depth ≤ 2 := depth_nodes
    have h2 := depth_tms ts
    simp only [List.map_cons, PyData.depthAll]
    omega
theorem shaped_tms (ts : List Tm) : SeqAt.shaped (.list (ts.map tmd)) = true := by
  have h1 : (PyData.list (ts.map tmd)).canLay0 = true := lay_tms ts
  have h2 : (PyData.list (ts.map tmd)).depth ≤ 3 := by
    have h := depth_tms ts
    simp only [PyData.depth]
    omega
  unfold SeqAt.shaped
  rw [h1, Bool.true_and]
  exact decide_eq_true (by omega)
theorem eqv_tms : ∀ ts : List Tm, PyData.eqvAll (ts.map tmd) (ts.map tmd) = true
  | [] => by simp [PyData.eqvAll]
  | t :: ts => by
    have ih := eqv_tms ts
    have h1 : PyData.eqv (tmd t) (tmd t) = true := by
      show PyData.eqv (.tuple (t.enc.map dv)) (.tuple (t.enc.map dv)) = true
      rw [PyData.eqv, eqv_nodes t.nds t.nds, decide_eq_true rfl]
    rw [List.map_cons, PyData.eqvAll, ih, h1]
    rfl
theorem w_eqTs {p q : Addr} {as bs : List Addr} {ts : List Tm} (h : H p = some (.lst (refs as))) (k : H q = some (.lst (refs bs))) (ht : Ts K H as ts) (kt : Ts K H bs ts) (qq : Q (.bl true) H) : rEqD K (.ref p) (.ref q) H Q :=
  ⟨_, _, .lst (SqL.of h) ht.dp, .lst (SqL.of k) kt.dp, shaped_tms ts, shaped_tms ts, by rw [PyData.eqv, eqv_tms]; exact qq⟩
theorem w_eqTZ {p : Addr} {as : List Addr} {ts : List Tm} {x : Str} (o : wordOk x = true) (z : SeqAt.shaped (.str x) = true) (h : H p = some (.lst (refs as))) (ht : Ts K H as ts) (qq : Q (.bl false) H) : rEqD K (.ref p) (.str x) H Q :=
  ⟨_, _, .lst (SqL.of h) ht.dp, .str x, shaped_tms ts, z, by rw [show PyData.eqv (.list (ts.map tmd)) (.str x) = false by simp [PyData.eqv]]; exact qq⟩
theorem w_eqZZ {x y : Str} (z : SeqAt.shaped (.str x) = true) (z2 : SeqAt.shaped (.str y) = true) {b : Bool} (e : PyData.eqv (.str x) (.str y) = b) (qq : Q (.bl b) H) : rEqD K (.str x) (.str y) H Q :=
  ⟨_, _, .str x, .str y, z, z2, by rw [e]; exact qq⟩
theorem w_eqW {a b : Addr} {x : Str} (o : wordOk x = true) (h : SqT K H a [.str x]) (k : SqT K H b [.str x]) (q : Q (.bl true) H) : rEqD K (.ref a) (.ref b) H Q := by
  unfold wordOk at o
  rw [Bool.and_eq_true] at o
  refine ⟨_, _, .tup h (.cons (.str _) .nil), .tup k (.cons (.str _) .nil), o.1, o.1, ?_⟩
  rw [o.2]
  exact q
/-! ### slices of lists -/
theorem w_slL {a : Addr} {xs : List V} {lo hi : Option Int} (h : SqL K H a xs) (q : ∀ p, H p = none → Q (.ref p) (upd H p (.lst (cutV xs lo hi)))) : rSlL K (.ref a) lo hi H Q := ⟨a, xs, rfl, h, q⟩
theorem plcs_take (qs : List (List Nat)) (i : Nat) : (plcs qs).take i = plcs (qs.take i) := List.map_take.symm
theorem plcs_drop (qs : List (List Nat)) (i : Nat) : (plcs qs).drop i = plcs (qs.drop i) := List.map_drop.symm
theorem plcs_app (qs rs : List (List Nat)) : plcs qs ++ plcs rs = plcs (qs ++ rs) := List.map_append.symm
end
theorem Small.app {qs rs : List (List Nat)} (h : Small qs) (k : Small rs) : Small (qs ++ rs) := fun q hq => (List.mem_append.mp hq).elim (h q) (k q)
theorem Small.take {qs : List (List Nat)} (h : Small qs) (i : Nat) : Small (qs.take i) := fun q hq => h q (List.mem_of_mem_take hq)
theorem Small.drop {qs : List (List Nat)} (h : Small qs) (i : Nat) : Small (qs.drop i) := fun q hq => h q (List.mem_of_mem_drop hq)
/-! ### redexes by their indexes; a step -/
def redB (xs : List V) (i : Nat) : Bool := decide (xs[i]? = some (.str "app")) && decide (xs[i + 1]? = some (.str "lam"))
theorem redB_iff {xs : List V} {i : Nat} : redB xs i = true ↔ xs[i]? = some (.str "app") ∧ xs[i + 1]? = some (.str "lam") := by simp [redB]
theorem redB_of {xs : List V} {i : Nat} {x : V} (h : xs[i]? = some x) (n : x ≠ .str "app") : redB xs i = false := by
  simp [redB, h, n]
theorem redB_app {xs : List V} {i : Nat} {y : V} (h : xs[i]? = some (.str "app")) (h2 : xs[i + 1]? = some y) : redB xs i = decide (y = .str "lam") := by
  simp [redB, h, h2]
def redI (xs : List V) : Nat → List Nat
  | 0 => []
  | i + 1 => redI xs i ++ (if redB xs i = true then [i] else [])
theorem redI_len (xs : List V) : ∀ i, (redI xs i).length ≤ i
  | 0 => Nat.zero_le _
  | i + 1 => by
    have := redI_len xs i
    simp only [redI, List.length_append]
    split
    · simp only [List.length_singleton]; omega
    · simp only [List.length_nil]; omega
theorem redI_mem {xs : List V} {j : Nat} : ∀ {n : Nat}, j ∈ redI xs n ↔ j < n ∧ redB xs j = true
  | 0 => by simp [redI]
  | n + 1 => by
    have ih := redI_mem (xs := xs) (j := j) (n := n)
    simp only [redI, List.mem_append, ih]
    constructor
    · rintro (⟨h1, h2⟩ | h)
      · exact ⟨by omega, h2⟩
      · split at h
        · rename_i hb
          rw [List.mem_singleton.mp h]
          exact ⟨by omega, hb⟩
        · simp at h
    · rintro ⟨h1, h2⟩
      by_cases e : j = n
      · subst e
        right
        rw [if_pos h2]
        exact List.mem_singleton.mpr rfl
      · exact .inl ⟨by omega, h2⟩
theorem redI_K (xs : List V) (qs : List (List Nat)) : ∀ n, (redI xs n).map (fun i => qs.getD i []) = redK xs qs n
  | 0 => rfl
  | n + 1 => by
    simp only [redI, redK, List.map_append, redI_K xs qs n]
    congr 1
    by_cases h : redB xs n = true
    · rw [if_pos h, if_pos (redB_iff.mp h)]
      rfl
    · rw [if_neg h, if_neg (fun z => h (redB_iff.mpr z))]
      rfl
theorem red_of {t v : Tm} {p : List Nat} {i : Nat} (h : t.sub p = some (i, v)) : redB t.enc i = true ↔ ∃ b u, v = .app (.lam b) u := by
  obtain ⟨⟨post, hd⟩, _⟩ := Tm.sub_at t p [] h
  have g : ∀ k, t.enc[i + k]? = (v.enc ++ post)[k]? := fun k => by rw [← hd, List.getElem?_drop]
  have g0 := g 0
  have g1 := g 1
  rw [Nat.add_zero] at g0
  rw [redB_iff, g0, g1]
  cases v with
  | var n => simp [Tm.enc]
  | lam b => simp [Tm.enc, str_ne1]
  | app f a =>
    have hl := Tm.head_lam f (a.enc ++ post)
    have e : ((Tm.app f a).enc ++ post)[1]? = (f.enc ++ (a.enc ++ post))[0]? := by simp [Tm.enc]
    rw [e, hl]
    cases f with
    | var n => simp [Tm.enc, Tm.isLam]
    | lam b => simp [Tm.enc, Tm.isLam]
    | app f a => simp [Tm.enc, Tm.isLam]
theorem red_sub {t v : Tm} {p : List Nat} {i : Nat} (h : t.sub p = some (i, v)) : (redB t.enc i = true ∧ ∃ b u, t.Red p i b u) ∨ (redB t.enc i = false ∧ ∀ j b u, ¬ t.Red p j b u) := by
  have e := red_of h
  cases hb : redB t.enc i with
  | true =>
    obtain ⟨b, u, rfl⟩ := e.mp hb
    exact .inl ⟨rfl, b, u, h⟩
  | false =>
    refine .inr ⟨rfl, fun j b u z => ?_⟩
    unfold Tm.Red at z
    rw [h] at z
    have z2 := (Prod.mk.inj (Option.some.inj z)).2
    rw [e.mpr ⟨b, u, z2⟩] at hb
    cases hb
theorem fits_mid {xs ys zs : List V} (h : fitsV ys = false) : fitsV (xs ++ ys ++ zs) = false := by
  cases e : fitsV (xs ++ ys ++ zs) with
  | false => rfl
  | true =>
    unfold fitsV at e h
    rw [Bool.and_eq_true] at e
    have h1 := of_decide_eq_true e.1
    have h2 := e.2
    rw [List.all_append, List.all_append, Bool.and_eq_true, Bool.and_eq_true] at h2
    simp only [List.length_append] at h1
    rw [h2.1.2, decide_eq_true (by omega)] at h
    cases h
theorem w_ninS {K : PySem.W.Frag} {H : Hp} {Q : VK} {p : Addr} {r : List Nat} {qs : List (List Nat)} (h : H p = some (.lst (plcs qs))) (q : Q (.bl (!decide (r ∈ qs))) H) : rIn K true (.str (pl r)) (.ref p) H Q :=
  ⟨p, _, rfl, .inl (SqL.of h), rfl, flat_pl qs, by rw [inV_pl]; exact q⟩
theorem road_cut {road : List (List Nat)} {i : Nat} {r : List Nat} (h : road[i]? = some r) : road = road.take i ++ r :: road.drop (i + 1) := by
  obtain ⟨hl, e⟩ := List.getElem?_eq_some_iff.mp h
  rw [← e, ← List.drop_eq_getElem_cons hl, List.take_append_drop]
theorem road_take {road : List (List Nat)} {i : Nat} {r : List Nat} (h : road[i]? = some r) : road.take (i + 1) = road.take i ++ [r] := by
  rw [List.take_add_one, h]
  rfl
theorem red_or (u : Tm) (r : List Nat) : (u.isRed r = true ∧ ∃ i b v, u.Red r i b v) ∨ (u.isRed r = false ∧ ∀ i b v, ¬ u.Red r i b v) := by
  cases h : u.isRed r with
  | true => exact .inl ⟨rfl, Tm.isRed_iff.mp h⟩
  | false => exact .inr ⟨rfl, fun i b v z => by rw [Tm.isRed_iff.mpr ⟨i, b, v, z⟩] at h; cases h⟩
/-- what a road comes to: all terms, or its first error -/
theorem pass_all (t : Tm) (road : List (List Nat)) : (∃ ts u, Pass t road ts u) ∨ Tm.pass t road = .large ∨ Tm.pass t road = .none := by
  suffices h : ∀ (s r : List (List Nat)) (ts : List Tm) (u : Tm), r ++ s = road → Pass t r ts u → (∃ ts u, Pass t road ts u) ∨ Tm.pass t road = .large ∨ Tm.pass t road = .none from h road [] [t] t rfl .nil
  intro s
  induction s with
  | nil =>
    intro r ts u e pa
    rw [List.append_nil] at e
    subst e
    exact .inl ⟨ts, u, pa⟩
  | cons p s ih =>
    intro r ts u e pa
    cases hi : u.isRed p with
    | false => exact .inr (.inr (by rw [← e]; exact pa.none hi))
    | true =>
      cases hf : fitsV (u.step p).enc with
      | false => exact .inr (.inl (by rw [← e]; exact pa.large hi hf))
      | true => exact ih (r ++ [p]) _ _ (by rw [← e]; simp) (pa.snoc hi hf)
end Ly
set_option Elab.async false
set_option linter.all false
set_option maxRecDepth 100000
set_option maxHeartbeats 2000000
/-! Ly: steps at the first redex -/
namespace Ly
open PySem PySem.Spec PyProof.Rows L2 Evl
theorem redI_nil {xs : List V} : ∀ {n : Nat}, (∀ j, j < n → redB xs j = false) → redI xs n = []
  | 0, _ => rfl
  | n + 1, h => by
    simp only [redI]
    rw [redI_nil fun j hj => h j (by omega), h n (by omega)]
    rfl
theorem redI_one {xs : List V} {i : Nat} (h : redB xs i = true) (h0 : ∀ j, j < i → redB xs j = false) : ∀ {n : Nat}, i < n → ∃ r, redI xs n = i :: r
  | 0, hn => absurd hn (Nat.not_lt_zero _)
  | n + 1, hn => by
    simp only [redI]
    by_cases e : i = n
    · subst e
      rw [redI_nil h0, h]
      exact ⟨[], rfl⟩
    · obtain ⟨r, hr⟩ := redI_one h h0 (n := n) (by omega)
      rw [hr]
      exact ⟨_, rfl⟩
/-- no index is a redex's: no redex -/
theorem Tm.no_reds {t : Tm} (h : ∀ j, j < t.enc.length → redB t.enc j = false) : t.reds [] = [] := by
  rw [← redK_all t, ← redI_K, redI_nil h]
  rfl
/-- the least index of a redex: the first redex -/
theorem Tm.first_red {t : Tm} {i : Nat} (hi : i < t.enc.length) (h : redB t.enc i = true) (h0 : ∀ j, j < i → redB t.enc j = false) : ∃ p r b u, (t.pls [])[i]? = some p ∧ t.reds [] = p :: r ∧ t.Red p i b u := by
  obtain ⟨p, u, post, hp, hs, hd⟩ := t.part_at hi
  rcases red_sub hs with ⟨_, b, v, hr⟩ | ⟨hb, _⟩
  · obtain ⟨r, he⟩ := redI_one h h0 hi
    refine ⟨p, r.map (fun i => (t.pls []).getD i []), b, v, hp, ?_, hr⟩
    rw [← redK_all t, ← redI_K, he, List.map_cons, List.getD_eq_getElem?_getD, hp]
    rfl
  · rw [h] at hb
    cases hb
/-- a step changes nothing in front of it -/
theorem Tm.step_low {t : Tm} {p : List Nat} {i : Nat} {b u : Tm} (h : t.Red p i b u) {j : Nat} (hj : j + 1 < i) : redB (t.step p).enc j = redB t.enc j := by
  have lt := Tm.sub_lt h
  have e := Tm.step_enc h
  have g : ∀ k, k < i → (t.step p).enc[k]? = t.enc[k]? := fun k hk => by
    rw [e, List.append_assoc, List.getElem?_append_left (by rw [List.length_take]; omega), List.getElem?_take_of_lt hk]
  unfold redB
  rw [g j (by omega), g (j + 1) hj]
/-- what steps at the first redex come to -/
inductive Wk where
  | done (u : Tm)
  | out
  | large
def Tm.nf : Nat → Tm → List (List Nat) × Wk
  | 0, t => ([], match t.reds [] with | [] => .done t | _ => .out)
  | k + 1, t => match t.reds [] with
    | [] => ([], .done t)
    | p :: _ => if fitsV (t.step p).enc = false then ([p], .large) else (p :: (Tm.nf k (t.step p)).1, (Tm.nf k (t.step p)).2)
def preW (r : List (List Nat)) (x : List (List Nat) × Wk) : List (List Nat) × Wk := (r ++ x.1, x.2)
theorem preW_nil (x : List (List Nat) × Wk) : preW [] x = x := rfl
theorem Tm.nf_none {t : Tm} (h : t.reds [] = []) : ∀ k, Tm.nf k t = ([], .done t)
  | 0 => by unfold Tm.nf; rw [h]
  | k + 1 => by unfold Tm.nf; rw [h]
theorem Tm.nf_zero {t : Tm} {p : List Nat} {r : List (List Nat)} (h : t.reds [] = p :: r) : Tm.nf 0 t = ([], .out) := by unfold Tm.nf; rw [h]
theorem Tm.nf_large {t : Tm} {p : List Nat} {r : List (List Nat)} (h : t.reds [] = p :: r) (hf : fitsV (t.step p).enc = false) (k : Nat) : Tm.nf (k + 1) t = ([p], .large) := by
  rw [Tm.nf, h]
  exact if_pos hf
theorem Tm.nf_step {t : Tm} {p : List Nat} {r : List (List Nat)} (h : t.reds [] = p :: r) (hf : fitsV (t.step p).enc = true) (k : Nat) : Tm.nf (k + 1) t = preW [p] (Tm.nf k (t.step p)) := by
  rw [Tm.nf, h]
  exact if_neg (by rw [hf]; simp)
theorem preW_app (r s : List (List Nat)) (x : List (List Nat) × Wk) : preW r (preW s x) = preW (r ++ s) x := by simp [preW]
/-! readings -/
section
variable {K : PySem.W.Frag} {H : Hp} {Q : VK}
theorem w_nnI {i : Int} {A B : Prop} (h : A) : if (!decide (V.int i = V.non)) = true then A else B := iteT h
theorem w_max {i j : Int} {A : Int → Prop} (q : A (if j > i then j else i)) : ∃ a b, [V.int i, V.int j] = [V.int a, V.int b] ∧ A (if b > a then b else a) := ⟨i, j, rfl, q⟩
theorem w_iR2 {σ : L2.St} {R : It → Hp → Prop} {tA : TA} (h : tA σ H fun vs H1 => ∃ i j : Int, vs = [.int i, .int j] ∧ (-(2 ^ 62) ≤ i ∧ i < 2 ^ 62 ∧ -(2 ^ 62) ≤ j ∧ j < 2 ^ 62) ∧ R (Itr i (j - i).toNat) H1) : iRng2 tA σ H R := h
theorem w_iR21 {i j : Int} {B : Int → Int → Prop} (h1 : -(2 ^ 62) ≤ i) (h2 : i < 2 ^ 62) (h3 : -(2 ^ 62) ≤ j) (h4 : j < 2 ^ 62) (q : B i j) : ∃ a b : Int, [V.int i, V.int j] = [V.int a, V.int b] ∧ (-(2 ^ 62) ≤ a ∧ a < 2 ^ 62 ∧ -(2 ^ 62) ≤ b ∧ b < 2 ^ 62) ∧ B a b := ⟨i, j, rfl, ⟨h1, h2, h3, h4⟩, q⟩
theorem w_break {D : Ends} {σ : L2.St} (h : D.bk σ H) : tBreak D σ H := h
theorem w_cont {D : Ends} {σ : L2.St} (h : D.ct σ H) : tCont D σ H := h
theorem kitOne_no {K : PySem.W.Frag} {t : Value} {C : Addr} (d : PySem.W.hasDictIn K C = true) (ty : PySem.W.typeIn K (.ref C) = some (.type "type")) (s : PySem.W.subIn K t (.ref C) = some false) (s2 : PySem.W.subIn K (.ref C) (.ref C) = some true) : PySem.W.kitOne K t (.ref C) = some false := by
  unfold PySem.W.kitOne
  split
  · rename_i h
    have e : t = .ref C := by simpa using h
    rw [e, s2] at s
    cases s
  · exact kcls_mk d ty s
/-- a term and a number -/
def pairD (t : Tm) (n : Int) : PyData := .tuple [tmd t, .int n]
theorem pair_dp {a : Addr} {t : Tm} {n : Int} (h : SqT K H a t.enc) : DpAll K H [V.ref a, V.int n] [tmd t, .int n] := .cons (.tup h (dp_nodes t.nds)) (.cons (.int n) .nil)
theorem pair_shaped (t : Tm) (n : Int) : SeqAt.shaped (pairD t n) = true := by
  have h1 : (pairD t n).canLay0 = true := by
    show PyData.canLayAll0 [tmd t, .int n] = true
    have h : (tmd t).canLay0 = true := lay_nodes t.nds
    show ((tmd t).canLay0 && PyData.canLayAll0 [.int n]) = true
    rw [h]
    rfl
  have h2 : (pairD t n).depth ≤ 4 := by
    have h : (tmd t).depth ≤ 2 := depth_nodes
    have h0 : (PyData.int n).depth ≤ 1 := by simp [PyData.depth]
    simp only [pairD, PyData.depth, PyData.depthAll]
    simp only [PyData.depth] at h0
    omega
  unfold SeqAt.shaped
  rw [h1, Bool.true_and]
  exact decide_eq_true (by omega)
theorem pair_eqv (t : Tm) (n : Int) : PyData.eqv (pairD t n) (pairD t n) = true := by
  have h1 : PyData.eqv (tmd t) (tmd t) = true := by
    show PyData.eqv (.tuple (t.enc.map dv)) (.tuple (t.enc.map dv)) = true
    rw [PyData.eqv, eqv_nodes t.nds t.nds, decide_eq_true rfl]
  show PyData.eqv (.tuple [tmd t, .int n]) (.tuple [tmd t, .int n]) = true
  rw [PyData.eqv, PyData.eqvAll, h1, PyData.eqvAll, PyData.eqvAll]
  simp [PyData.eqv]
theorem w_nePair {p q x y : Addr} {t : Tm} {n : Int} (h : SqT K H p [.ref x, .int n]) (k : SqT K H q [.ref y, .int n]) (hx : SqT K H x t.enc) (hy : SqT K H y t.enc) (qq : Q (.bl false) H) : rNeD K (.ref p) (.ref q) H Q :=
  ⟨_, _, .tup h (pair_dp hx), .tup k (pair_dp hy), pair_shaped t n, pair_shaped t n, by
    have := pair_eqv t n
    unfold pairD at this
    rw [this]
    exact qq⟩
theorem w_eqPairZ {p x : Addr} {t : Tm} {n : Int} {z : Str} (zs : SeqAt.shaped (.str z) = true) (h : SqT K H p [.ref x, .int n]) (hx : SqT K H x t.enc) (qq : Q (.bl false) H) : rEqD K (.ref p) (.str z) H Q :=
  ⟨_, _, .tup h (pair_dp hx), .str z, pair_shaped t n, zs, by rw [show PyData.eqv (.tuple [tmd t, .int n]) (.str z) = false by simp [PyData.eqv]]; exact qq⟩
theorem w_neZZ {x y : Str} (z : SeqAt.shaped (.str x) = true) (z2 : SeqAt.shaped (.str y) = true) {b : Bool} (e : PyData.eqv (.str x) (.str y) = b) (qq : Q (.bl (!b)) H) : rNeD K (.str x) (.str y) H Q :=
  ⟨_, _, .str x, .str y, z, z2, by rw [e]; exact qq⟩
end
end Ly
set_option Elab.async false
set_option linter.all false
set_option maxRecDepth 100000
set_option maxHeartbeats 2000000
/-! tuples, lists, comprehensions and all() while an exception is handled -/
namespace Ly
open PySem PySem.Spec PyProof.Rows L2 HotX L2H
section
variable {prog : Program} {w : World} {A : Around} {E : Value → Shared → Prop} {s : Shared}
/-- StopIteration comes up, while x1 is handled: what stood stays -/
theorem stopped_hot {α : Type} {x1 : Addr} {Q : α → Shared → Prop} {E' : Value → Shared → Prop} {a1 : Around} (hot : HotAt a1 x1 s.heap)
    (q : ∀ a h', (∀ b o, s.heap.get? b = some o → h'.get? b = some o) → (∃ o, h'.get? a = some o ∧ o.cls = .type "StopIteration") → E' (.ref a) { s with heap := h' }) :
    wpAny (model prog w) a1 (newExc (.type "StopIteration") [] >>= fun e => (raiseNew e : Sem α)) Q E' s := by
  obtain ⟨hh, o1, vs1, h1, d1, c1⟩ := hot
  refine wpAny_bind ?_
  simp only [newExc, newTuple]
  (refine wpAny_bind (wpAny_newObj_type ?_ (by size_fits)); refine wpAny_bind (m := firstArgMember _ _) (wpAny_of_eq (a := Value.none) (by first | rfl | (simp only [firstArgMember]; rfl)) ?_))
  refine wpAny_newObj_type ?_ (by size_fits)
  refine raiseNew_hot ⟨hh, o1, vs1, Heap.get?_push_of_some _ (Heap.get?_push_of_some _ h1), d1, c1⟩ (Nat.ne_of_lt (Heap.lt_size (Heap.get?_push_of_some _ h1))) (Heap.get?_push_size _ rfl) rfl (by first | (simp; done) | (simp; omega) | (simp only [Array.size_append]; simp; omega)) (q _ _ (fun b o e => ?_) ?_)
  · rw [Heap.get?_update_other _ _ (Nat.ne_of_gt (Heap.lt_size (Heap.get?_push_of_some _ e)))]
    exact Heap.get?_push_of_some _ (Heap.get?_push_of_some _ e)
  · exact ⟨_, Heap.get?_update_self _ (Heap.get?_push_size _ rfl) rfl, rfl⟩
/-- the end of a tuple's walk, of a list's walk, while x1 is handled -/
theorem tup_end_hot {it t x1 : Addr} {i : Nat} {items : Array Value} {Q : Option Value → Shared → Prop} (hot : HotAt A x1 s.heap) (hne : x1 ≠ it) (ki : s.heap.IsTupleIter it t i) (kt : s.heap.IsTuple t items) (off : items[i]? = none)
    (q : ∀ h', (∀ b o, b ≠ it → s.heap.get? b = some o → h'.get? b = some o) → Q none { s with heap := h' }) : wpAny (model prog w) A (pyNext (.ref it)) Q E s := by
  obtain ⟨o0, g0, c0, d0⟩ := id ki
  obtain ⟨o2, g2, _, n2, d2⟩ := kt
  unfold pyNext
  refine wpAny_bind (wpAny_attempt (wpAny_callSpecial?_slot (name := Str.ofString "__next__") ki.typeIs F.slot_tuple_iterator_next
    (wpAny_call_entry F.slot_tuple_iterator_next ki.typeIs F.entry_tuple_iterator_next ?_ (F.args_tuple_iterator_next_1 _))))
  show wpAny _ _ (field (.ref it) 0 >>= _) _ _ s
  refine wpAny_bind (wpAny_field g0 d0 (x := .ref t) rfl ?_)
  rw [show (Value.ref t == Value.none) = false from rfl]
  show wpAny _ _ (field (.ref it) 1 >>= _) _ _ s
  refine wpAny_bind (wpAny_field g0 d0 (x := .int i 0) rfl ?_)
  show wpAny _ _ (seqItems? (.ref t) >>= _) _ _ s
  refine wpAny_bind (wpAny_seqItems g2 d2 ?_)
  simp only [Int.toNat_natCast, off]
  refine wpAny_bind (wpAny_rule (wpAny_bind (wpAny_setField g0 d0 (by simp) ?_)))
  obtain ⟨hh, o1, vs1, h1, d1, c1⟩ := hot
  show wpAny _ _ (newExc (.type "StopIteration") [] >>= fun e => (raiseNew e : Sem _)) _ _ _
  refine stopped_hot (x1 := x1) ⟨hh, o1, vs1, (Heap.get?_update_other _ _ (Ne.symm hne)).trans h1, d1, c1⟩ fun a h' k ⟨o, eo, co⟩ => ?_
  refine wpAny_bind (wpAny_isInstance (T := "StopIteration") (b := true) ⟨o, eo, co⟩ isSubtype_stop ?_)
  refine wpAny_pure (q h' fun b u hb e => k b u ?_)
  rw [Heap.get?_update_other _ _ (Ne.symm hb)]
  exact e
theorem lst_end_hot {it l x1 : Addr} {i : Nat} {items : Array Value} {Q : Option Value → Shared → Prop} (hot : HotAt A x1 s.heap) (hne : x1 ≠ it) (ki : s.heap.IsListIter it l i) (kl : s.heap.IsList l items) (off : items[i]? = none)
    (q : ∀ h', (∀ b o, b ≠ it → s.heap.get? b = some o → h'.get? b = some o) → Q none { s with heap := h' }) : wpAny (model prog w) A (pyNext (.ref it)) Q E s := by
  obtain ⟨o0, g0, c0, d0⟩ := id ki
  obtain ⟨o2, g2, _, n2, d2⟩ := kl
  unfold pyNext
  refine wpAny_bind (wpAny_attempt (wpAny_callSpecial?_slot (name := Str.ofString "__next__") ki.typeIs slot_listiter_next
    (wpAny_call_entry slot_listiter_next ki.typeIs entry_listiter_next ?_ (args_listiter_next _))))
  show wpAny _ _ (field (.ref it) 0 >>= _) _ _ s
  refine wpAny_bind (wpAny_field g0 d0 (x := .ref l) rfl ?_)
  rw [show (Value.ref l == Value.none) = false from rfl]
  show wpAny _ _ (field (.ref it) 1 >>= _) _ _ s
  refine wpAny_bind (wpAny_field g0 d0 (x := .int i 0) rfl ?_)
  show wpAny _ _ (seqItems? (.ref l) >>= _) _ _ s
  refine wpAny_bind (wpAny_seqItems g2 d2 ?_)
  simp only [Int.toNat_natCast, off]
  refine wpAny_bind (wpAny_rule (wpAny_bind (wpAny_setField g0 d0 (by simp) ?_)))
  obtain ⟨hh, o1, vs1, h1, d1, c1⟩ := hot
  show wpAny _ _ (newExc (.type "StopIteration") [] >>= fun e => (raiseNew e : Sem _)) _ _ _
  refine stopped_hot (x1 := x1) ⟨hh, o1, vs1, (Heap.get?_update_other _ _ (Ne.symm hne)).trans h1, d1, c1⟩ fun a h' k ⟨o, eo, co⟩ => ?_
  refine wpAny_bind (wpAny_isInstance (T := "StopIteration") (b := true) ⟨o, eo, co⟩ isSubtype_stop ?_)
  refine wpAny_pure (q h' fun b u hb e => k b u ?_)
  rw [Heap.get?_update_other _ _ (Ne.symm hb)]
  exact e
/-- a list's walk, as all() and its like ask it -/
theorem walks_hot {x1 : Addr} {o1 : Obj} {vs1 : Array Value} (hh : A.handled = some (.ref x1)) (d1 : o1.data = .fields vs1) (c1 : vs1[2]? = some .none) (it l : Addr) (hne : l ≠ it) (h1n : x1 ≠ it) (items : Array Value) :
    Walks prog w A it [it, l, x1] [it] items.size (fun i v => items[i]? = some v) (fun i h => (h.IsListIter it l i ∧ h.IsList l items) ∧ h.get? x1 = some o1) where
  sub := fun b hb => List.mem_cons.mpr (.inl (List.mem_singleton.mp hb))
  frame := fun _ _ _ st k => ⟨⟨st.1.1.at fun o e => k it (by simp) o e, st.1.2.at fun o e => k l (by simp) o e⟩, k x1 (by simp) _ st.2⟩
  item := fun i s Q E hi st q => wpAny_pyNext_list_item st.1.1 st.1.2 (x := items[i]) (by simp [hi]) fun h' n1 n2 =>
    q _ h' s.toks (by simp [hi]) ⟨⟨n1, st.1.2.extBut n2.extBut hne⟩, n2.extBut x1 _ h1n st.2⟩ fun b o hb e => n2.extBut b o (fun z => hb (List.mem_singleton.mpr z)) e
  done := fun s Q E st q => lst_end_hot ⟨hh, o1, vs1, st.2, d1, c1⟩ h1n st.1.1 st.1.2 (by simp) fun h' k => q h' s.toks fun b o hb e => k b o (fun z => hb (List.mem_singleton.mpr z)) e
  self := fun _ _ _ _ st q => wpAny_pyIter_listiter st.1.1 q
end
section
variable {X : Cx}
theorem cr_allH (hc : HotC X) : CallR X (.builtin "all") (rAll X.K) := by
  intro pins s σ H vs us Q I r h
  obtain ⟨a, bs, rfl, hs, q⟩ := h
  obtain ⟨x1, hh, o1, vs1, g1, d1, c1⟩ := hc.at I
  obtain ⟨its, rv, hl, _⟩ := I.list hs
  rw [Vals.ref1 r]
  have eb := rv.bls
  refine call_all_walk (iter_any hl.isList fun s2 e2 st hne => ?_)
  subst e2
  have g2 := Heap.get?_push_of_some { cls := .type "list_iterator", data := .fields #[.ref a, .int 0 0] } g1
  refine ⟨_, _, _, _, _, _, _, rfl, walks_hot (A := X.A.in1) hh d1 c1 _ a hne (Nat.ne_of_lt (Heap.lt_size g1)) its.toArray, ⟨st, g2⟩, truth_bools eb, fun h' tk k => ?_⟩
  refine ⟨.bl _, H, I.kept fun b o e => k b o (fun z => ?_) (Heap.get?_push_of_some _ e), ?_, q⟩
  · rw [List.mem_singleton.mp z] at e
    exact Nat.lt_irrefl _ (Heap.lt_size e)
  · show Value.bool _ = Value.bool _
    rw [← L2.all_range, eb, List.size_toArray, List.length_map]
/-- [e for x in a tuple], while an exception is handled -/
theorem pe_lcH {elt tg iter : Expr} {ifs : List Expr} {scope : Scope} {own : List (Str × Nat)} {pos : Pos} {tl te : TE} {g : TG} {tt : TT} (hc : HotC X) (hN : X.N.Nodup) (hi : PE X iter tl) (ok : BlkOk X.N X.env.scope scope own)
    (kg : ∀ (s : Shared) (H : Hp) (C : Addr) (cl : List (Str × Addr)) (fp : List Addr), PG (X.blk s H scope (compEnvC scope cl C X.env) fp) tg g)
    (kt : ∀ (s : Shared) (H : Hp) (C : Addr) (cl : List (Str × Addr)) (fp : List Addr), PTs (X.blk s H scope (compEnvC scope cl C X.env) fp) ifs tt)
    (ke : ∀ (s : Shared) (H : Hp) (C : Addr) (cl : List (Str × Addr)) (fp : List Addr), PE (X.blk s H scope (compEnvC scope cl C X.env) fp) elt te)
    (ks : ∀ x, foldedSetIterable iter X.env x = pure x := by intro _; rfl) : PE X (.ListComp elt [⟨tg, iter, ifs, 0⟩] scope pos) (tLc (iTup X.K tl) g tt te (own.map (·.2))) := by
  refine ⟨fun pins s σ H Q I h => ?_⟩
  rw [eval_ListComp]
  have frees : ∀ y ∈ scope.names, y.2 = .free → ∃ c, X.env.cells.lookup y.1 = some c := fun y hy e => (ok.free y hy e).elim (fun k => I.ok.has _ (.inl k)) fun k => I.ok.has _ (.inr k)
  refine wpAny_comprehension_free rfl ks (closure_ok frees) ok.kind (fun y hy e => by rw [ok.uniq y hy, e]) (thn (hi.run pins s σ H _ I h) fun xv s1 ⟨x, H1, I1, r1, q1⟩ => ?_)
  obtain ⟨a, ex, ⟨xs0, hx0⟩, q⟩ := q1
  subst ex
  cases r1
  obtain ⟨its, rv, p0, hz⟩ := I1.tuple hx0
  refine wpAny_pyIter_tuple (show s1.heap.IsTuple a its.toArray from p0) ?_
  obtain ⟨p, hot, hp⟩ := hc
  -- the walker, the new list
  generalize eit : s1.heap.objs.size = it
  have P1 := I1.pin p (List.mem_append_left _ hp)
  have pit : p.1 ≠ it := by rw [← eit]; exact Nat.ne_of_lt (Heap.lt_size P1.1)
  have nit : H1 it = none := I1.hok.fresh (Nat.le_of_eq eit)
  have fit : FpOk X pins H1 it := by rw [← eit]; exact I1.fpOk (Nat.le_refl _) (I1.hok.fresh (Nat.le_refl _))
  generalize es2 : ({ s1 with heap := s1.heap.push { cls := .type "tuple_iterator", data := .fields #[.ref a, .int 0 0] } } : Shared) = s2
  have I2 : Inv X pins σ H1 s2 := by rw [← es2]; exact I1.kept (t' := s1.toks) fun b o e => Heap.get?_push_of_some _ e
  have st2 : s2.heap.IsTupleIter it a 0 := by rw [← es2, ← eit]; exact ⟨_, Heap.get?_push_size _ rfl, rfl, rfl⟩
  have lit : it < s2.heap.objs.size := let ⟨_, e, _⟩ := st2; Heap.lt_size e
  refine wpAny_newObj_type (newEnv_comp ?_) (by show 0 ≤ sizeLine; decide)
  generalize eD : s2.heap.objs.size = D
  have nD : H1 D = none := I2.hok.fresh (Nat.le_of_eq eD)
  have nDit : it ≠ D := by rw [← eD]; exact Nat.ne_of_lt lit
  obtain ⟨W, ⟨m0, w0⟩, turn⟩ := q D nD
  generalize es3 : ({ s2 with heap := s2.heap.push { cls := .type "list", data := .seq ([] : List Value).toArray } } : Shared) = s3
  have I3 : Inv X pins σ (upd H1 D (.lst [])) s3 := by
    rw [← es3]
    refine I2.laid (t' := s2.toks) (fun b o e => Heap.get?_push_of_some _ e) (Nat.le_of_eq eD) ⟨Nat.zero_le _, [], 0, .nil, ?_⟩
    rw [← eD]
    exact Heap.get?_push_size _ rfl
  have st3 : s3.heap.IsTupleIter it a 0 := by rw [← es3]; exact st2.at fun o e => Heap.get?_push_of_some _ e
  have lit3 : it < s3.heap.objs.size := let ⟨_, e, _⟩ := st3; Heap.lt_size e
  have f3 : FpOk X pins (upd H1 D (.lst [])) it := ⟨by rw [upd_ne nDit]; exact nit, fit.2⟩
  have P3 := I3.pin p (List.mem_append_left _ hp)
  have I4 := block_start (fp := [it]) I3 ok hN fun b hb => by rw [List.mem_singleton.mp hb]; exact ⟨f3, lit3⟩
  have pg := kg s3 (upd H1 D (.lst [])) s3.heap.objs.size (cellsFrom (s3.heap.objs.size + 1) scope.names (cloFrom X.env.cells scope.names [])) [it]
  have pt := kt s3 (upd H1 D (.lst [])) s3.heap.objs.size (cellsFrom (s3.heap.objs.size + 1) scope.names (cloFrom X.env.cells scope.names [])) [it]
  have pe := ke s3 (upd H1 D (.lst [])) s3.heap.objs.size (cellsFrom (s3.heap.objs.size + 1) scope.names (cloFrom X.env.cells scope.names [])) [it]
  show codeAny _ _ (.compStart (.ListComp elt [⟨tg, iter, ifs, 0⟩] scope pos) 0 (.ref it) (.ref D) (compEnvC scope (cellsFrom (s3.heap.objs.size + 1) scope.names (cloFrom X.env.cells scope.names [])) s3.heap.objs.size X.env)) (compPost (model X.prog X.w) X.A X.xe none _ (.ref D) s3.heap.objs.size) { s3 with heap := pushCells (s3.heap.push { cls := .type "dict", data := .dict #[] }) scope.names }
  generalize ece : compEnvC scope (cellsFrom (s3.heap.objs.size + 1) scope.names (cloFrom X.env.cells scope.names [])) s3.heap.objs.size X.env = ce at I4 pg pt pe ⊢
  have cL : ce.locals = s3.heap.objs.size := by subst ece; rfl
  generalize eH3 : upd H1 D (.lst []) = H3 at I3 I4 pg pt pe w0 f3 P3
  generalize es4 : ({ s3 with heap := pushCells (s3.heap.push { cls := .type "dict", data := .dict #[] }) scope.names } : Shared) = s4 at I4 ⊢
  have keep4 : ∀ b o, s3.heap.get? b = some o → s4.heap.get? b = some o := fun b o e => by rw [← es4]; exact pushCells_keeps _ _ _ _ (Heap.get?_push_of_some _ e)
  have st4 : s4.heap.IsTupleIter it a 0 := st3.at fun o e => keep4 _ _ e
  have I5 : Inv (X.blk s3 H3 scope ce [it]) [p] (wipe σ (own.map (·.2))) H3 s4 := I4.pins_of fun u hu => by
    rw [List.mem_singleton.mp hu]
    exact ⟨keep4 _ _ P3.1, P3.2.1, by show p.1 ≠ ce.locals; rw [cL]; exact Nat.ne_of_lt (Heap.lt_size P3.1), fun hm => (List.mem_cons.mp (I3.stkSub p.1 hm)).elim P3.2.2.1 P3.2.2.2.1, P3.2.2.2.2⟩
  have stat : ∀ {σ' : L2.St} {H' : Hp} {s' : Shared}, Inv (X.blk s3 H3 scope ce [it]) [p] σ' H' s' → H' it = none → FpOk (X.blk s3 H3 scope ce [it]) [p] H' it := fun {σ' H' s'} I' n' =>
    ⟨n', (I'.ok.exf it (by simp)).1, I'.ok.exfs it (by simp), .inl (by simp), fun x c e => (I'.ok.exf it (by simp)).2 x c e, fun u hu => by
      have eu : u = p := by simpa using (show u ∈ ([] : List (Addr × Obj)) ++ [p] from hu)
      rw [eu]
      exact pit⟩
  have loop : codeAny (model X.prog X.w) X.A (.compLoop (.ListComp elt [⟨tg, iter, ifs, 0⟩] scope pos) 0 (.ref it) (.ref D) ce) (compPost (model X.prog X.w) X.A X.xe none (fun u s' => ∃ v H', Inv X pins σ H' s' ∧ RelV v u ∧ Q v H') (.ref D) s3.heap.objs.size) s4 := by
    refine compLoop_any (fun n s' => ∃ i H', Inv (X.blk s3 H3 scope ce [it]) [p] (wipe σ (own.map (·.2))) H' s' ∧ s'.heap.IsTupleIter it a i ∧ H' it = none ∧ W i n H') ?_ m0 ⟨0, H3, I5, st4, f3.1, w0⟩
    rintro n s5 ⟨i, H5, J5, st5, n5, w5⟩
    obtain ⟨g0, g1, g2, g3, g4, g5⟩ := stat J5 n5
    rcases turn i n H5 w5 with ⟨⟨ys, hy, hlen⟩, qq⟩ | ⟨⟨ys, y, hy, hyi⟩, Nx, hNx, step⟩
    · obtain ⟨us, rv5, p5, _⟩ := J5.tuple hy
      have P5 := J5.pin p (by simp)
      obtain ⟨vs5, d5, c5⟩ := hot.2
      have lus := rv5.length
      refine tup_end_hot (A := X.A) (x1 := p.1) ⟨hot.1, p.2, vs5, P5.1, d5, c5⟩ pit st5 (show s5.heap.IsTuple a us.toArray from p5) (by simp; omega) fun h' k => ?_
      have J6 : Inv (X.blk s3 H3 scope ce [it]) [p] (wipe σ (own.map (·.2))) H5 { s5 with heap := h' } := J5.turned (t' := s5.toks) (fun b o hb e => k b o hb e) g0 g1 g3 g4 g5
      have I7 : Inv X pins σ H5 { s5 with heap := h' } := I3.call' (ch := [it]) J6.os J6.base J6.hok J6.bare fun b hb => by
        rw [List.mem_singleton.mp hb]
        exact ⟨f3.2.2.2.1, f3.2.1, f3.2.2.2.2.1, f3.2.2.2.2.2⟩
      have nC : H5 s3.heap.objs.size = none := by
        have z : H5 ce.locals = none := J6.free
        rwa [cL] at z
      obtain ⟨m, hn, _⟩ := J6.loc
      have hn : h'.Ns ce.locals m := hn
      rw [cL] at hn
      obtain ⟨e0, e1, e2, e3, e4, e5⟩ := I3.fpOk (Nat.le_refl _) nC
      exact ⟨m, hn, fun h2 sb => ⟨.ref D, H5, I7.turned (t' := s5.toks) (fun b o hb e => (sb.2 b hb).trans e) e0 e1 e3 e4 e5, rfl, qq⟩⟩
    · obtain ⟨us, rv5, p5, _⟩ := J5.tuple hy
      obtain ⟨u, hu, ru⟩ := rv5.get hyi
      refine wpAny_pyNext_tuple_item st5 (show s5.heap.IsTuple a us.toArray from p5) (x := u) (by simpa using hu) fun h' st7 sb => ?_
      have J7 : Inv (X.blk s3 H3 scope ce [it]) [p] (wipe σ (own.map (·.2))) H5 { s5 with heap := h' } := J5.turned (t' := s5.toks) (fun b o hb e => (sb.2 b hb).trans e) g0 g1 g3 g4 g5
      obtain ⟨o7, e7, c7, d7⟩ := id st7
      refine go_of (s := { s5 with heap := h' }) e7 c7 d7 (by decide) ?_
      have J8 := J7.pinned (fp := [it]) (fun b hb => by rw [List.mem_singleton.mp hb]; exact stat J7 n5) (fun b hb => by rw [List.mem_singleton.mp hb]; exact ⟨o7, e7, fun v z => by rw [d7] at z; cases z⟩)
      refine thnF (pg.run _ _ _ H5 y u _ J8 ru (step y H5 ⟨rfl, fun zs hz => by rw [J5.tuple_inj hz hy]; exact hyi⟩)) fun _ s8 ⟨σ8, H8, J9, hw8, q8⟩ => ?_
      refine thnF (pt.run _ s8 σ8 H8 _ J9 q8) fun b s9 ⟨H9, J10, q9⟩ => ?_
      have fin : ∀ {s' : Shared} {H' : Hp}, Inv (X.blk s3 H3 scope ce [it]) ([p] ++ pinsAt [it] h') σ8 H' s' → Nx H' → ∃ m, m < n ∧ ∃ i H', Inv (X.blk s3 H3 scope ce [it]) [p] (wipe σ (own.map (·.2))) H' s' ∧ s'.heap.IsTupleIter it a i ∧ H' it = none ∧ W i m H' := fun {s' H'} J' nx => by
        obtain ⟨m', hm, w'⟩ := hNx H' nx
        have pin' := J'.pin (it, o7) (List.mem_append_right _ (List.mem_append_right _ (mem_pinsAt (by simp) e7)))
        have hl : (wipe σ (own.map (·.2))).length = σ8.length := by rw [← hw8, wipe_length]
        refine ⟨m', hm, i + 1, H', J'.unpinned.weak hl (fun j v e => ?_), ⟨o7, pin'.1, c7, d7⟩, pin'.2.1, w'⟩
        rw [← hw8] at e
        exact (wipe_some e).1
      cases b with
      | false =>
        simp only [Bool.false_eq_true, if_false] at q9 ⊢
        exact fin J10 q9
      | true =>
        simp only [if_true] at q9 ⊢
        refine thnF (pe.run _ s9 σ8 H9 _ J10 q9) fun z s10 ⟨yv, H10, J11, r10, acc, gD, zD, nx⟩ => ?_
        exact app_ok (X := X.blk s3 H3 scope ce [it]) J11 gD zD r10 fun s11 J12 => fin J12 nx
  exact codeAny_compStart_list loop (wpAny_pyIter_tupleiter st4 loop)
end
/-! exceptions whose context is told (what is raised where nothing is handled) -/
section
variable {P : Program} {w : World} {K : PySem.W.Frag} {mg : Str → Option Value} {base : Heap}
theorem okXN {x qual : Str} {st : Stmt} {f : Addr} {fd : FuncData} {N ps : List Str} {k : Nat} {sp : Sp} (F : Fun K x qual st f fd) (S : FnScope N ps (defScope st)) (ln : ∀ vs H Q E, sp vs H Q E → vs.length = ps.length)
    (body : ∀ (cdv : Value) (A : Around) (outer : List Env) (s : Shared) (H : Hp) (vs : List V) (Q : VK) (E : XK), Room k (A.deeper (envOfC qual (defScope st) s.heap.objs.size f cdv)) → sp vs H Q E →
      ∃ t, PSs (cxOf (L2N.CX P w) P w K mg base N qual (defScope st) f cdv A outer s H E) (defBody st) t ∧ t { nx := fun _ H' => Q .non H', rt := Q } (L2.start N vs) H) : FnOk P w K mg base (L2N.CX P w) (k + 1) f fd ps sp := by
  obtain ⟨_, _, _, _, _, _, cv, _, _, rfl, lk, hcd⟩ := F.ex
  exact fn_of lk hcd S ln fun A outer s H vs Q E hr hsp => body cv A outer s H vs Q E hr hsp
/-- the same of a def that is called while an exception is handled -/
theorem okH {CX : CXT} {x qual : Str} {st : Stmt} {f : Addr} {fd : FuncData} {N ps : List Str} {k : Nat} {sp : Sp} (F : Fun K x qual st f fd) (S : FnScope N ps (defScope st)) (ln : ∀ vs H Q E, sp vs H Q E → vs.length = ps.length)
    (body : ∀ (cdv : Value) (A : Around) (outer : List Env) (s : Shared) (H : Hp) (vs : List V) (Q : VK) (E : XK) (p : Addr × Obj), HotC (cxH CX P w K mg base N qual (defScope st) f cdv A outer s H E p) → RoomH k (A.deeper (envOfC qual (defScope st) s.heap.objs.size f cdv)) → sp vs H Q E →
      ∃ t, PSs (cxH CX P w K mg base N qual (defScope st) f cdv A outer s H E p) (defBody st) t ∧ t { nx := fun _ H' => Q .non H', rt := Q } (L2.start N vs) H) : FnH P w K mg base CX (k + 1) f fd ps sp := by
  obtain ⟨_, _, _, _, _, _, cv, _, _, rfl, lk, hcd⟩ := F.ex
  exact fn_ofH lk hcd S ln fun A outer s H vs Q E p hot hr hsp => body cv A outer s H vs Q E p ⟨p, hot, List.mem_singleton.mpr rfl⟩ hr hsp
def DefH (P : Program) (w : World) (K : PySem.W.Frag) (mg : Str → Option Value) (base : Heap) (CX : CXT) (k : Nat) (x : Str) (ps : List Str) (sp : Sp) : Prop :=
  ∃ f fd, mg x = some (.ref f) ∧ PySem.W.keepIn K (.ref f) = true ∧ Binds K fd ps [] ∧ FnH P w K mg base CX k f fd ps sp
theorem DefH.of {CX : CXT} {k : Nat} {x : Str} {ps : List Str} {sp : Sp} {f : Addr} {fd : FuncData} (g : mg x = some (.ref f)) (kp : PySem.W.keepIn K (.ref f) = true) (b : Binds K fd ps []) (G : FnH P w K mg base CX k f fd ps sp) : DefH P w K mg base CX k x ps sp := ⟨f, fd, g, kp, b, G⟩
end
section
variable {X : Cx}
/-- X(e) -/
theorem pmk_own1N {C : Addr} {bs : List Value} {B newId initId : String} {x : Str} {e : Expr} {ta : TE} {p pos : Pos} (F : ExcBaseFacts B newId initId bs) (xi : PySem.W.excIn X.K C bs newId = true) (gC : X.mg x = some (.ref C)) (kC : PySem.W.keepIn X.K (.ref C) = true) (r : Raises X (.ref C)) (hg : Gl X x)
    (he : PE X e ta) (hs : starEach [e] X.env = (false, eval e X.env) :: starEach [] X.env := by rfl) (hdb : (x == ("__debug__" : Str)) = false := by decide) :
    L2N.PMk X (.Call (.Name x p) [e] [] pos) (fun σ H Q => ta σ H fun _ H1 => Q (.ref C) none H1) := by
  intro pins s σ H Q I h
  refine wpAny_Call_Name_kw (ld_glob I hg gC (PySem.W.callWith_K (h₀ := X.base) I.ok.mod.kin kC ?_ hs (by rfl)) hdb)
  rw [hs]
  show wpAny _ _ (spliced ((false, eval e X.env) :: backTo pos (starEach [] X.env))) _ _ s
  refine Calls.spliced_cons (thn (he.run pins s σ H _ I h) fun u s1 ⟨v, H1, J, r1, q1⟩ => Calls.spliced_nil ⟨J.kIn, ?_⟩)
  show wpAny _ _ (call (.ref C) [u]) _ _ _
  obtain ⟨_, _, _, _, _, _, _, _, _, _, _, _, _, _, _, _, _, hC, hN, hni, T⟩ := exc_obj J.kIn xi
  exact wpAny_call_exc_subT F T hC hN hni (fun h' e hm => L2N.mk_of J hm r q1 (J.hok.gone hm.new)) (by show 1 ≤ sizeLine; rw [sizeLine_eq]; omega)
end
theorem roomMark {k : Nat} {A : Around} {v : Option Value} (r : Room k A) : RoomH k (A.mark v) := ⟨r.dp, r.un⟩
theorem pass0H {X : Cx} (σ : L2.St) : PassesAt CX0 X σ E0 := fun _ _ _ _ _ _ h => h.elim
end Ly
set_option Elab.async false
set_option linter.all false
set_option maxRecDepth 100000
set_option maxHeartbeats 2000000
/-! a try with several clauses, each of which may name its exception -/
namespace Ly
open PySem PySem.Spec PyProof.Rows L2
/-- one clause: its class, the slot of its name if it has one, its suite -/
structure Cls1 where
  c : Value
  i : Option Nat
  ts : Addr → Value → Option Addr → TS
def putO (i : Option Nat) (v : Option V) (σ : L2.St) : L2.St := match i with
  | some i => σ.set i v
  | none => σ
def wAll (K : PySem.W.Frag) (Wout : WX) (D : Ends) : List Cls1 → WX
  | [] => Wout
  | k :: r => fun cls d σ H => ∃ b, PySem.W.exmOne K cls k.c = some b ∧
      (b = true → ∀ a, H a = none → k.ts a cls d { nx := fun σ' H' => D.nx (putO k.i none σ') H', rt := D.rt, bk := fun σ' H' => D.bk (putO k.i none σ') H', ct := fun σ' H' => D.ct (putO k.i none σ') H' } (putO k.i (some (.ref a)) σ) H) ∧ (b = false → wAll K Wout D r cls d σ H)
inductive HdsA (X : Cx) : List ExceptHandler → List Cls1 → Prop
  | nil : HdsA X [] []
  | bare {x : Str} {c : Value} {ts : Addr → Value → Option Addr → TS} {st : Stmt} {su : List Stmt} {np p2 : Pos} {hs : List ExceptHandler} {l : List Cls1} (hc : Names X x c)
      (hsu : ∀ (a : Addr) (oe : Obj) (cls : Value) (d : Option Addr) (pn : List (Addr × Obj)), Zc cls d oe → (∃ vs, oe.data = .fields vs) → PSs (X.suite a ((a, oe) :: pn)) (st :: su) (ts a cls d)) (r : HdsA X hs l) :
      HdsA X (.ExceptHandler (some (.Name x np)) none (st :: su) p2 :: hs) (⟨c, none, ts⟩ :: l)
  | named {x n : Str} {i : Nat} {c : Value} {ts : Addr → Value → Option Addr → TS} {st : Stmt} {su : List Stmt} {np p2 : Pos} {hs : List ExceptHandler} {l : List Cls1} (hi : X.N[i]? = some n) (hln : X.env.kindOf n = some .local) (hc : Names X x c)
      (hsu : ∀ (a : Addr) (oe : Obj) (cls : Value) (d : Option Addr) (pn : List (Addr × Obj)), Zc cls d oe → (∃ vs, oe.data = .fields vs) → PSs (X.suite a ((a, oe) :: pn)) (st :: su) (ts a cls d)) (r : HdsA X hs l) :
      HdsA X (.ExceptHandler (some (.Name x np)) (some n) (st :: su) p2 :: hs) (⟨c, some i, ts⟩ :: l)
section
variable {X : Cx}
/-- a clause's class is looked up -/
theorem names_look {x : Str} {c : Value} {np : Pos} {a : Addr} {oe : Obj} {pn : List (Addr × Obj)} {σ : L2.St} {H : Hp} {s : Shared} (S : Inv (X.suite a ((a, oe) :: pn)) [] σ H s) (hc : Names X x c) {Q : Value → Shared → Prop} {E : Value → Shared → Prop} (q : Q c s) :
    wpAny (model X.prog X.w) (X.A.mark (some (.ref a))) (eval (.Name x np) X.env) Q E s := by
  obtain ⟨hg, nd, hm | ⟨hm, hv, nn⟩⟩ := hc
  · exact ld_glob (X := X.suite a ((a, oe) :: pn)) S hg hm q nd
  · exact ld_blt (X := X.suite a ((a, oe) :: pn)) S hg hm hv q nn nd
theorem ps_try_all {body : List Stmt} {h0 : ExceptHandler} {hs : List ExceptHandler} {l : List Cls1} {pos : Pos} {tb : WX → TS} {Wout : WX} (st : X.stack = X.env :: X.outer) (fr : X.env.frame = some X.env.locals) (nd : X.N.Nodup) (tk : Takes X Wout)
    (hb : ∀ (W : WX) (pn : List (Addr × Obj)) (xe : Value → Shared → Prop), Takes (X.tr pn xe) W → PassesOwn (model X.prog X.w) X.A X.env xe → PSs (X.tr pn xe) body (tb W)) (hh : HdsA X (h0 :: hs) l) :
    PS X (.Try body (h0 :: hs) [] [] pos) (fun D σ H => tb (wAll X.K Wout D l) D σ H) := by
  refine ⟨fun pins s σ H D I h => wpAny_Try_except ?_⟩
  have ok := I.ok
  have frs1 : X.A.frames = some (X.env :: X.outer) := ok.frames.trans (congrArg some st)
  let air : Value → Shared → Prop := fun e s1 => wpAny (model X.prog X.w) X.A (noteFrame e X.env) (fun _ s2 => wpAny (model X.prog X.w) X.A (setFlight e none) (fun _ s3 => wpAny (model X.prog X.w) X.A (handleBy e X.env (h0 :: hs)) (SP X pins D) X.xe s3) X.xe s2) X.xe s1
  have caught : Takes (X.tr (X.pn ++ pins) air) (wAll X.K Wout D l) := by
    rintro u s2 ⟨a, B, sI, pins2, σ2, H2, cls, d, rfl, J2, nb, up, sky, na, os, ag, wish⟩
    have J : Inv X pins σ2 H2 sI := J2.ofTry ok
    have sky2 : Sky B (X.env :: X.outer) a (Zc cls d) X.env.locals s2.heap := by rw [← st]; exact sky
    refine Sky.land Zc.steady frs1 fr sky2 fun h3 fl up3 => ?_
    have J3 : Inv X pins σ2 H2 { s2 with heap := h3 } := J.landed nb fl.1 (up.trans up3) os ag
    obtain ⟨oe, vs, ho, hz, hd⟩ := fl.there
    have off : a ∉ L2.frs (X.env :: X.outer) := fun hm => by
      obtain ⟨_, o2, e2, nf⟩ := fl.2.2.1.mem hm
      rw [ho] at e2
      cases e2
      exact nf _ hd
    have nL : a ≠ X.env.locals := fun z => off (List.mem_filterMap.mpr ⟨X.env, List.mem_cons_self, by rw [fr, z]⟩)
    have nF : a ∉ X.fs := fun hm => by
      obtain ⟨e, he, q⟩ := List.mem_filterMap.mp hm
      exact off (List.mem_filterMap.mpr ⟨e, List.mem_cons_of_mem _ he, q⟩)
    have S3 := J3.suite ho hd na nL nF
    have LT : PySem.W.Looks (model X.prog X.w) h3 (typeOf (.ref a)) cls := fun A Q E s k q => wpAny_typeOf_ref (k _ _ ho) (by rw [hz.1]; exact q)
    -- a suite begins
    have enter : ∀ {h4 : Heap}, HandSPX.FlyingZ B (X.env :: X.outer) a (Zc cls d) h4 → h3.UpToSlots h4 → ∃ oe4, Zc cls d oe4 ∧ (∃ vs4, oe4.data = .fields vs4) ∧ Inv (X.suite a ((a, oe4) :: (X.pn ++ pins))) [] σ2 H2 { s2 with heap := h4 } := fun {h4} fl4 up4 => by
      obtain ⟨oe4, vs4, ho4, hz4, hd4⟩ := fl4.there
      have J4 : Inv X pins σ2 H2 { s2 with heap := h4 } := J.landed nb fl4.1 ((up.trans up3).trans up4) os ag
      exact ⟨oe4, hz4, ⟨vs4, hd4⟩, J4.suite ho4 hd4 na nL nF⟩
    have go : ∀ {hs2 : List ExceptHandler} {l2 : List Cls1}, HdsA X hs2 l2 → wAll X.K Wout D l2 cls d σ2 H2 → wpAny (model X.prog X.w) X.A (handleBy (.ref a) X.env hs2) (SP X pins D) X.xe { s2 with heap := h3 } := by
      intro hs2 l2 hk
      induction hk with
      | nil =>
        intro w
        refine wpAny_handleBy_nil ?_
        obtain ⟨_, _, _, o5, v5, T5, _, _, e5, _, d5, t5, _⟩ := id fl
        unfold PySem.passOn
        refine wpAny_bind (wpAny_field e5 d5 t5 ?_)
        rw [if_neg (show ¬ (Value.ref T5 == Value.none) = true from Bool.false_ne_true)]
        have out : wpAny (model X.prog X.w) X.A (setFlight (.ref a) X.env.frame) (fun _ s4 => wpAny (model X.prog X.w) X.A (throw (.ref a) : Sem Flow) (SP X pins D) X.xe s4) X.xe { s2 with heap := h3 } := by
          rw [fr]
          exact HandSPX.setFlight_upZ fl fun h4 hh4 up4 => wpAny_throw (tk _ _ ⟨a, B, sI, pins, σ2, H2, cls, d, rfl, J, nb, (up.trans up3).trans up4, .inr (.inr (by rw [st]; exact hh4)), na, os, ag, w⟩)
        first
          | exact wpAny_bind (wpAny_pure (wpAny_bind out))
          | exact wpAny_bind out
      | bare hc hsu r ih =>
        rintro ⟨b, hb1, yes, no⟩
        refine wpAny_handleBy_cons (codeAny_handlers_test (names_look S3 hc ((PySem.W.exm_one (M := model X.prog X.w) J3.kIn LT hb1).here ?_))) (fun q => by cases q)
        cases b with
        | false => exact ih (no rfl)
        | true =>
          refine codeAny_handlers_suite (HandSPX.lands_againZ fl fun h4 fl4 up4 => ?_)
          obtain ⟨oe4, hz4, hd4, S4⟩ := enter fl4 up4
          refine wpAny_mono ((hsu a oe4 cls d (X.pn ++ pins) hz4 hd4).run [] _ _ H2 _ S4 (yes rfl a na)) (fun f s6 sp => ?_) (fun _ _ z => z.elim)
          cases f with
          | ret u =>
            obtain ⟨v6, σ6, H6, S6, r6, q6⟩ := sp
            exact ⟨_, _, _, S6.unsuite ok, r6, q6⟩
          | _ =>
            obtain ⟨σ6, H6, S6, q6⟩ := sp
            exact ⟨_, _, S6.unsuite ok, q6⟩
      | @named x n i c ts st1 su np p2 hs3 l3 hi hln hc hsu r ih =>
        rintro ⟨b, hb1, yes, no⟩
        refine wpAny_handleBy_cons (codeAny_handlers_test (names_look S3 hc ((PySem.W.exm_one (M := model X.prog X.w) J3.kIn LT hb1).here ?_))) (fun q => by cases q)
        cases b with
        | false => exact ih (no rfl)
        | true =>
          refine codeAny_handlers_suite_as (HandSPX.lands_againZ fl fun h4 fl4 up4 => ?_)
          obtain ⟨oe4, hz4, hd4, S4⟩ := enter fl4 up4
          refine store_ok (X := X.suite a ((a, oe4) :: (X.pn ++ pins))) (v := .ref a) S4 nd hi (.inl hln) rfl (fun s5 S5 => ?_) (.inr hln)
          refine wpAny_mono ((hsu a oe4 cls d (X.pn ++ pins) hz4 hd4).run [] s5 _ H2 _ S5 (yes rfl a na)) (fun f s6 sp => ?_) (fun _ _ z => z.elim)
          have gone : ∀ {σ6 : L2.St} {H6 : Hp} {Q : Shared → Prop}, Inv (X.suite a ((a, oe4) :: (X.pn ++ pins))) [] σ6 H6 s6 → (∀ s7, Inv X pins (σ6.set i none) H6 s7 → Q s7) →
              wpAny (model X.prog X.w) X.A (do bindName X.env n .none; unbindBehindTheSuite X.env n p2) (fun _ s7 => Q s7) X.xe s6 := fun S6 k => gone_ok (S6.unsuite ok) nd hi hln k
          cases f with
          | ret u =>
            obtain ⟨v6, σ6, H6, S6, r6, q6⟩ := sp
            exact gone S6 fun s7 J7 => ⟨_, _, _, J7, r6, q6⟩
          | _ =>
            obtain ⟨σ6, H6, S6, q6⟩ := sp
            exact gone S6 fun s7 J7 => ⟨_, _, J7, q6⟩
    exact go hh wish
  refine wpAny_mono ((hb (wAll X.K Wout D l) (X.pn ++ pins) air caught PassesOwn.looking).run [] s σ H D (I.toTry _) h) (fun f s1 sp => ?_) (fun e s1 he => he)
  cases f with
  | next =>
    obtain ⟨σ2, H2, J, q⟩ := sp
    exact wpAny_execs_nil ⟨σ2, H2, J.ofTry ok, q⟩
  | ret u =>
    obtain ⟨v, σ2, H2, J, r, q⟩ := sp
    exact ⟨v, σ2, H2, J.ofTry ok, r, q⟩
  | _ =>
    obtain ⟨σ2, H2, J, q⟩ := sp
    exact ⟨σ2, H2, J.ofTry ok, q⟩
end
end Ly
set_option Elab.async false
set_option linter.all false
set_option maxRecDepth 100000
set_option maxHeartbeats 2000000
/-! an own exception of one argument, made to be raised «from None» where one is handled -/
namespace Ly
open PySem PySem.Spec PyProof.Rows L2
section
variable {X : Cx}
theorem pmk5 {C : Addr} {bs : List Value} {B newId initId : String} {x : Str} {e : Expr} {ta : TE} {p pos : Pos} (F : ExcBaseFacts B newId initId bs) (xi : PySem.W.excIn X.K C bs newId = true) (gC : X.mg x = some (.ref C)) (kC : PySem.W.keepIn X.K (.ref C) = true) (r : Raises X (.ref C)) (hg : Gl X x)
    (he : PE X e ta) (hs : starEach [e] X.env = (false, eval e X.env) :: starEach [] X.env := by rfl) (hdb : (x == ("__debug__" : Str)) = false := by decide) :
    L2H.PMk5 X (.Call (.Name x p) [e] [] pos) (fun σ H Q => ta σ H fun _ H1 => Q (.ref C) none H1) := by
  intro pins s σ H Q I h
  refine wpAny_Call_Name_kw (ld_glob I hg gC (PySem.W.callWith_K (h₀ := X.base) I.ok.mod.kin kC ?_ hs (by rfl)) hdb)
  rw [hs]
  show wpAny _ _ (spliced ((false, eval e X.env) :: backTo pos (starEach [] X.env))) _ _ s
  refine Calls.spliced_cons (thn (he.run pins s σ H _ I h) fun u s1 ⟨v, H1, J, r1, q1⟩ => Calls.spliced_nil ⟨J.kIn, ?_⟩)
  show wpAny _ _ (call (.ref C) [u]) _ _ _
  obtain ⟨_, _, _, _, _, _, _, _, _, _, _, _, _, _, _, _, _, hC, hN, hni, T⟩ := exc_obj J.kIn xi
  exact wpAny_call_exc_subT F T hC hN hni (fun h' e hm => L2H.mk_of5 J hm r q1 (J.hok.gone hm.new)) (by show 1 ≤ sizeLine; rw [sizeLine_eq]; omega)
end
end Ly
set_option Elab.async false
set_option linter.all false
set_option maxRecDepth 100000
set_option maxHeartbeats 2000000
/-! a list extended by a tuple -/
namespace Ly
open PySem PySem.Spec PyProof.Rows L2 Evl
theorem ext_tup (l : Addr) (its : Array Value) (n : Nat) (b : Addr) (more : Array Value) (m : Nat) (dd : Option Addr) (sl : Array (Option Value)) (ok : ¬(!its.isEmpty && Builtin.List.listTooLong (its.size + more.size)) = true) (z1 : its.size ≤ sizeLine) (z2 : its.size + more.size ≤ sizeLine + 1) :
    Meets (Builtin.«list.extend» ⟨[.ref l, .ref b], []⟩) (fun _ R s => s.heap.get? l = some { cls := .type "list", dict := none, data := .seq its n, slots := #[] } ∧ s.heap.get? b = some ⟨.type "tuple", dd, .seq more m, sl⟩ ∧
      R (.ok (.ret Value.none)) { s with heap := s.heap.update l (Obj.mapSeq fun x => x ++ more), toks := s.toks }) :=
  .of_wp fun prog w A R s h => by
    obtain ⟨hp, g, d, tk, os⟩ := s
    obtain ⟨hl, hb, h⟩ := h
    (have f1 := AutoSeq1.idx_int; have f2 := AutoSeq1.sub_tuple_tuple; have f3 := AutoSeq1.sub_list_list; have f4 := AutoSeq1.sub_tuple_list; have f5 := AutoSeq1.sub_list_tuple)
    have zz : (its ++ more).size ≤ sizeLine + 1 := by rw [Array.size_append]; exact z2
    wp_walk using (wpAny_updateSeq hl rfl (hz := z1) (_hz' := zz)), AutoSeq1.wpAny_loadPart' hl, AutoSeq1.wpAny_loadPart' hb
    exact ⟨_, rfl, h⟩
section
variable {X : Cx}
def rExtT (K : PySem.W.Frag) : V → List V → Hp → VK → Prop := fun x vs H Q => ∃ l b xs zs, x = .ref l ∧ vs = [.ref b] ∧ H l = some (.lst xs) ∧ SqT K H b zs ∧ xs.length + zs.length ≤ sizeLine ∧ Q .non (upd H l (.lst (xs ++ zs)))
theorem mt_extT : MtM X "list.extend" (rExtT X.K) := by
  intro pins s σ H x vs v us Q I rx rv h
  obtain ⟨l, b, xs, zs, rfl, rfl, hH, hB, hz, q⟩ := h
  cases rx
  obtain ⟨u, rfl, ru⟩ := rv.one
  cases ru
  obtain ⟨z, its, n, r, hl, e⟩ := I.lstM hH
  obtain ⟨its2, r2, ⟨⟨cls, dd, data, sl⟩, ho, hc, m, hd⟩, hl2⟩ := I.tuple hB
  simp only at hc hd
  subst hc hd
  have l2 := r2.length
  have sz : its.toArray.size + its2.toArray.size ≤ sizeLine := by rw [List.size_toArray, List.size_toArray]; omega
  have ok : ¬ (!its.toArray.isEmpty && Builtin.List.listTooLong (its.toArray.size + its2.toArray.size)) = true := by
    rw [notLongL sz, Bool.and_false]
    exact Bool.false_ne_true
  refine call_meets F.slot_list_extend ⟨_, e, rfl⟩ F.entry_list_extend (F.args_list_extend_2 _ _) (ext_tup l its.toArray n b its2.toArray m dd sl ok (by rw [List.size_toArray]; omega) (by omega)) ⟨e, ho, ?_⟩
  refine ⟨.non, _, I.lset (its' := its ++ its2) hH e (by simp) (r.append r2) (by rw [List.length_append]; omega), rfl, q⟩
end
theorem w_extT {K : PySem.W.Frag} {H : Hp} {Q : VK} {l b : Addr} {xs zs : List V} (h : H l = some (.lst xs)) (h2 : SqT K H b zs) (z : xs.length + zs.length ≤ sizeLine) (q : Q .non (upd H l (.lst (xs ++ zs)))) : rExtT K (.ref l) [.ref b] H Q := ⟨l, b, xs, zs, rfl, rfl, h, h2, z, q⟩
end Ly
set_option Elab.async false
set_option linter.all false
set_option maxRecDepth 100000
set_option maxHeartbeats 2000000
/-! Ly: dicts of the module, written out: NAME.get(k, x), k in NAME, NAME[k] -/
namespace Ly
open PySem PySem.Spec PyProof.Rows L2 Evl
def EntsAre : List DictEntry → List (Str × V) → Prop
  | [], [] => True
  | e :: r, (k, v) :: s => (∃ t, e.key = .str k t) ∧ RelV v e.val ∧ EntsAre r s
  | _, _ => False
/-- at d: a dict of the module with these pairs -/
def KD (K : PySem.W.Frag) (w : World) (d : Addr) (kvs : List (Str × V)) : Prop :=
  ∃ es n, K.lookup d = some ⟨.type "dict", none, .dict es n, #[]⟩ ∧ PySem.W.KeysLit w.params es.toList ∧ (d == sysModules) = false ∧ EntsAre es.toList kvs
theorem KD.mk {K : PySem.W.Frag} {w : World} {d : Addr} {kvs : List (Str × V)} {es : Array DictEntry} {n : Nat} (l : K.lookup d = some ⟨.type "dict", none, .dict es n, #[]⟩) (k : PySem.W.KeysLit w.params es.toList) (s : (d == sysModules) = false) (e : EntsAre es.toList kvs) : KD K w d kvs := ⟨es, n, l, k, s, e⟩
def getS (kvs : List (Str × V)) (y : V) : Option V := match y with
  | .str k => (kvs.find? fun kv => decide (kv.1 = k)).map (·.2)
  | _ => none
def OptR : Option V → Option Value → Prop
  | some v, some u => RelV v u
  | none, none => True
  | _, _ => False
theorem OptR.getD {o : Option V} {r : Option Value} (h : OptR o r) {z : V} {u : Value} (hz : RelV z u) : RelV (o.getD z) (r.getD u) := by
  cases o with
  | none =>
    cases r with
    | none => exact hz
    | some u => exact h.elim
  | some v =>
    cases r with
    | none => exact h.elim
    | some u => exact h
theorem OptR.isSome {o : Option V} {r : Option Value} (h : OptR o r) : r.isSome = o.isSome := by
  cases o with
  | none =>
    cases r with
    | none => rfl
    | some u => exact h.elim
  | some v =>
    cases r with
    | none => exact h.elim
    | some u => rfl
theorem ents_get (k : Key) : ∀ {es : List DictEntry} {kvs : List (Str × V)}, EntsAre es kvs → OptR (getS kvs (kV k)) ((es.find? fun e => keyIs k e.key).map (·.val))
  | [], [], _ => by cases k <;> exact True.intro
  | [], _ :: _, h => h.elim
  | _ :: _, [], h => h.elim
  | e :: r, (x, v) :: s, h => by
    obtain ⟨⟨t, ek⟩, hv, hr⟩ := h
    have ih := ents_get k hr
    cases k with
    | inl i =>
      have e0 : keyIs (.inl i) e.key = false := by rw [ek]; rfl
      rw [List.find?_cons, e0]
      exact ih
    | inr y =>
      have e0 : keyIs (.inr y) e.key = decide (x = y) := by
        rw [ek]
        show (x == y) = _
        by_cases c : x = y
        · rw [c]; simp
        · rw [decide_eq_false c]
          exact beq_eq_false_iff_ne.mpr c
      rw [List.find?_cons, e0]
      by_cases c : x = y
      · subst c
        rw [decide_eq_true rfl]
        show OptR (getS ((x, v) :: s) (.str x)) (some e.val)
        have : getS ((x, v) :: s) (.str x) = some v := by simp [getS]
        rw [this]
        exact hv
      · rw [decide_eq_false c]
        have : getS ((x, v) :: s) (kV (.inr y)) = getS s (kV (.inr y)) := by simp [getS, kV, c]
        rw [this]
        exact ih
theorem KD.mapOf {prog : Program} {w : World} {K : PySem.W.Frag} {h : Heap} {d : Addr} {kvs : List (Str × V)} (D : KD K w d kvs) (X : K.In h) :
    ∃ f, h.MapOf (mixKind prog w) d f ∧ ∀ k : Key, OptR (getS kvs (kV k)) (f k) := by
  obtain ⟨es, n, hl, hk, low, he⟩ := D
  refine ⟨fun k => findBy keyIs es k, ⟨_, es, n, X _ _ hl, ⟨rfl, rfl, rfl⟩, rfl, fun e he => ?_, fun _ => rfl⟩, fun k => ?_⟩
  · obtain ⟨x, t, e1, e2⟩ := hk.all e (Array.mem_toList_iff.mpr he)
    exact ⟨.inr x, by rw [e1]; exact mixKind_str prog w x t, e2⟩
  · have := ents_get k he
    show OptR (getS kvs (kV k)) (findBy keyIs es k)
    unfold findBy
    rw [← Array.find?_toList]
    exact this
theorem KD.low {K : PySem.W.Frag} {w : World} {d : Addr} {kvs : List (Str × V)} (D : KD K w d kvs) : (d == sysModules) = false := by
  obtain ⟨es, n, hl, hk, low, he⟩ := D
  exact low
/-- at a: a tuple of the module with these items -/
def KT (K : PySem.W.Frag) (a : Addr) (xs : List V) : Prop := ∃ (o : Obj) (its : Array Value) (n : Nat), K.lookup a = some o ∧ o.cls = .type "tuple" ∧ o.data = .seq its n ∧ its.size ≤ sizeLine ∧ Vals xs its.toList
theorem KT.mk {K : PySem.W.Frag} {a : Addr} {xs : List V} {o : Obj} {its : Array Value} {n : Nat} (l : K.lookup a = some o) (c : o.cls = .type "tuple") (d : o.data = .seq its n) (z : its.size ≤ sizeLine) (v : Vals xs its.toList) : KT K a xs := ⟨o, its, n, l, c, d, z, v⟩
theorem KT.sq {K : PySem.W.Frag} {a : Addr} {xs : List V} (h : KT K a xs) (H : Hp) : SqT K H a xs := .inr h
/-! NAME.get(k, x) -/
def tKGet2 (K : PySem.W.Frag) (w : World) (td ty tx : TE) : TE := fun σ H Q => td σ H fun x H1 => ∃ a kvs, x = .ref a ∧ KD K w a kvs ∧ ty σ H1 fun y H2 => tx σ H2 fun z H3 => (∃ k, y = kV k) ∧ Q ((getS kvs y).getD z) H3
section
variable {X : Cx} {o e f : Expr} {apos cpos : Pos} {td ty tx : TE}
theorem pe_kget2 (ho : PE X o td) (he : PE X e ty) (hf : PE X f tx) (m : M2 X o "get" apos e f cpos) : PE X (.Call (.Attribute o "get" apos) [e, f] [] cpos) (tKGet2 X.K X.w td ty tx) := by
  refine ⟨fun pins s σ H Q I h => ?_⟩
  refine wpAny_Call_method m.base m.few m.line PySem.F.plainAttrs_dict PySem.F.slot_dict_get PySem.F.type_dict_get (thn (ho.run pins s σ H _ I h) fun u s1 ⟨x, H1, I1, rx, a, kvs, ex, d, q1⟩ => ?_)
  subst ex
  obtain rfl : u = Value.ref a := rx
  obtain ⟨f0, hm0, _⟩ := d.mapOf (prog := X.prog) I1.kIn
  refine ⟨hm0.typeIs, hm0.noDict, ?_⟩
  rw [m.trees]
  refine Calls.callWith_builtin rfl (Calls.evalArgs_plain (Calls.spliced_cons (thn (he.run pins s1 σ H1 _ I1 q1) fun iv s2 ⟨y, H2, I2, ry, q2⟩ =>
    Calls.spliced_cons (thn (hf.run pins s2 σ H2 _ I2 q2) fun fv s3 ⟨z, H3, I3, rz, ⟨k, ek⟩, q3⟩ => Calls.spliced_nil ?_))))
  subst ek
  obtain ⟨f1, hm, hg⟩ := d.mapOf (prog := X.prog) I3.kIn
  exact call_meetsIn PySem.F.slot_dict_get hm.typeIs PySem.F.entry_dict_get (PySem.F.args_dict_get_3 _ _ _) (meets_dict_get_default (mixKind X.prog X.w) a (kV_is ry) d.low fv) ⟨_, hm, _, H3, I3.tok _, (hg k).getD rz, q3⟩
theorem op_inKD : OpR X (compareOp .In) (fun x y H Q => ∃ (a : Addr) (kvs : List (Str × V)) (k : Key), x = kV k ∧ y = .ref a ∧ KD X.K X.w a kvs ∧ Q (.bl (getS kvs x).isSome) H) := by
  intro pins s σ H x y v u Q I rx ry ⟨a, kvs, k, ex, ey, d, q⟩
  subst ex ey
  obtain rfl : u = Value.ref a := ry
  obtain ⟨f1, hm, hg⟩ := d.mapOf (prog := X.prog) I.kIn
  refine wpAny_in_of (kV_is rx) d.low hm ?_
  rw [(hg k).isSome]
  exact ⟨.bl _, H, I.tok _, rfl, q⟩
theorem op_notInKD : OpR X (compareOp .NotIn) (fun x y H Q => ∃ (a : Addr) (kvs : List (Str × V)) (k : Key), x = kV k ∧ y = .ref a ∧ KD X.K X.w a kvs ∧ Q (.bl (!(getS kvs x).isSome)) H) := by
  intro pins s σ H x y v u Q I rx ry ⟨a, kvs, k, ex, ey, d, q⟩
  subst ex ey
  obtain rfl : u = Value.ref a := ry
  obtain ⟨f1, hm, hg⟩ := d.mapOf (prog := X.prog) I.kIn
  refine wpAny_notIn_of (kV_is rx) d.low hm ?_
  rw [(hg k).isSome]
  exact ⟨.bl _, H, I.tok _, rfl, q⟩
def rIxKD (K : PySem.W.Frag) (w : World) : R2 := fun x y H Q => ∃ a kvs k v, x = .ref a ∧ y = kV k ∧ KD K w a kvs ∧ getS kvs y = some v ∧ Q v H
theorem ix_kd : IxR X (rIxKD X.K X.w) := by
  intro value slice pins s σ H x y v u Q I rx ry ⟨a, kvs, k, r, ex, ey, d, hget, q⟩ hs
  subst ex ey
  obtain rfl : v = Value.ref a := rx
  obtain ⟨f1, hm, hg⟩ := d.mapOf (prog := X.prog) I.kIn
  have hk := hg k
  rw [hget] at hk
  cases hf : f1 k with
  | none =>
    rw [hf] at hk
    exact hk.elim
  | some u0 =>
    rw [hf] at hk
    exact tail_any hm.typeIs slot_dict_getitem.lookup (wpAny_getItem_of (kV_is ry) hm hf ⟨r, H, I.tok _, hk, q⟩) hs
end
section
variable {K : PySem.W.Frag} {w : World} {σ : L2.St} {H : Hp} {Q : VK} {td ty tx : TE}
theorem w_kget2 (h : td σ H fun x H1 => ∃ a kvs, x = .ref a ∧ KD K w a kvs ∧ ty σ H1 fun y H2 => tx σ H2 fun z H3 => (∃ k, y = kV k) ∧ Q ((getS kvs y).getD z) H3) : tKGet2 K w td ty tx σ H Q := h
theorem w_kg {a : Addr} {kvs : List (Str × V)} {B : List (Str × V) → Prop} (D : KD K w a kvs) (q : B kvs) : ∃ a' kvs', V.ref a = .ref a' ∧ KD K w a' kvs' ∧ B kvs' := ⟨a, kvs, rfl, D, q⟩
end
theorem w_isRN {a : Addr} {A B : Prop} (h : B) : if decide (V.ref a = V.non) = true then A else B := iteF h
theorem w_isNN {A B : Prop} (h : A) : if decide (V.non = V.non) = true then A else B := iteT h
theorem w_isIN {i : Int} {A B : Prop} (h : B) : if decide (V.int i = V.non) = true then A else B := iteF h
theorem q_eq {Q : VK} {H : Hp} {v u : V} (q : Q u H) (e : v = u) : Q v H := by
  rw [e]
  exact q
theorem kV_int (i : Int) : ∃ k, V.int i = kV k := ⟨.inl i, rfl⟩
theorem kV_str (x : Str) : ∃ k, V.str x = kV k := ⟨.inr x, rfl⟩
end Ly
set_option Elab.async false
set_option linter.all false
set_option maxRecDepth 100000
/-! Ly: what is written with some words, parts behind their nodes -/
namespace Ly
open PySem PySem.Spec PyProof.Rows L2 Evl
def pcD (v : V) : Int := if v = .str "app" then 2 else if v = .str "to" then 2 else if v = .str "lam" then 1 else 0
def numV (m : Int) : V → Bool
  | .int i => decide (0 ≤ i) && decide (i ≤ m)
  | _ => false
def nodeW (ws : List Str) : V → Bool
  | .str x => decide (x ∈ ws)
  | v => numV 1000000 v
def scanW (ws : List Str) : Int → List V → Bool
  | m, [] => decide (m = 0)
  | m, v :: r => if m = 0 ∨ nodeW ws v = false then false else scanW ws (m + (pcD v - 1)) r
def isW (ws : List Str) (xs : List V) : Bool := decide (xs.length ≤ 1000) && scanW ws 1 xs
theorem nodeW_key {ws : List Str} {v : V} (h : nodeW ws v = true) : ∃ k, v = kV k := by
  cases v with
  | int i => exact kV_int i
  | str x => exact kV_str x
  | _ => cases h
theorem nodeV_W (v : V) : isNodeV v = nodeW ["lam", "app"] v := by
  cases v with
  | int i => rfl
  | str x =>
    show (decide (x = "lam") || decide (x = "app")) = decide (x ∈ _)
    simp
  | _ => rfl
theorem scanV_W : ∀ (xs : List V) (m : Int), scanV m xs = scanW ["lam", "app"] m xs
  | [], m => rfl
  | v :: r, m => by
    rw [scanV, scanW, nodeV_W]
    by_cases c : m = 0 ∨ nodeW ["lam", "app"] v = false
    · rw [if_pos c, if_pos c]
    · rw [if_neg c, if_neg c]
      have hn : nodeW ["lam", "app"] v = true := by
        cases h : nodeW ["lam", "app"] v with
        | true => rfl
        | false => exact absurd (.inr h) c
      have e : pcV v = pcD v := by
        cases v with
        | int i => rfl
        | str x =>
          have h2 : x = "lam" ∨ x = "app" := by simpa [nodeW] using hn
          rcases h2 with rfl | rfl <;> decide +kernel
        | _ => rfl
      rw [e]
      exact scanV_W r _
theorem isV_W (xs : List V) : isTermV xs = isW ["lam", "app"] xs := by rw [isTermV, isW, scanV_W]
theorem pcD_get {v : V} (h : ∃ k, v = kV k) : (getS [("lam", .int 1), ("app", .int 2), ("to", .int 2)] v).getD (.int 0) = .int (pcD v) := by
  obtain ⟨k, rfl⟩ := h
  cases k with
  | inl i => rfl
  | inr x =>
    by_cases h1 : x = "lam"
    · subst h1
      decide +kernel
    · by_cases h2 : x = "app"
      · subst h2
        decide +kernel
      · by_cases h3 : x = "to"
        · subst h3
          decide +kernel
        · have e1 : decide (("lam" : Str) = x) = false := decide_eq_false (Ne.symm h1)
          have e2 : decide (("app" : Str) = x) = false := decide_eq_false (Ne.symm h2)
          have e3 : decide (("to" : Str) = x) = false := decide_eq_false (Ne.symm h3)
          have e0 : pcD (.str x) = 0 := by
            unfold pcD
            rw [if_neg (fun z => h2 (V.str.inj z)), if_neg (fun z => h3 (V.str.inj z)), if_neg (fun z => h1 (V.str.inj z))]
          show (getS _ (V.str x)).getD _ = V.int (pcD (.str x))
          rw [e0]
          simp only [getS, List.find?_cons, e1, e2, e3, List.find?_nil, Option.map_none, Option.getD_none]
theorem inV_strs (x : Str) (ws : List Str) : inV (.str x) (ws.map V.str) = decide (x ∈ ws) := by
  induction ws with
  | nil => rfl
  | cons w r ih =>
    have e : inV (.str x) ((w :: r).map V.str) = ((w == x) || inV (.str x) (r.map V.str)) := rfl
    rw [e, ih]
    by_cases c : x = w
    · subst c
      simp
    · have c2 : (w == x) = false := beq_eq_false_iff_ne.mpr (Ne.symm c)
      rw [c2]
      simp [c]
theorem w_inW {K : PySem.W.Frag} {H : Hp} {Q : VK} {p : Addr} {x : Str} {ws : List Str} (h : SqT K H p (ws.map V.str)) (q : Q (.bl (decide (x ∈ ws))) H) : rIn K false (.str x) (.ref p) H Q :=
  ⟨p, ws.map V.str, rfl, .inr h, rfl, by simp [flatV], by
    show Q (.bl (inV (.str x) (ws.map V.str))) H
    rw [inV_strs]
    exact q⟩
theorem w_ninW {K : PySem.W.Frag} {H : Hp} {Q : VK} {p : Addr} {x : Str} {ws : List Str} (h : SqT K H p (ws.map V.str)) (q : Q (.bl (!decide (x ∈ ws))) H) : rIn K true (.str x) (.ref p) H Q :=
  ⟨p, ws.map V.str, rfl, .inr h, rfl, by simp [flatV], by
    show Q (.bl (!inV (.str x) (ws.map V.str))) H
    rw [inV_strs]
    exact q⟩
theorem w_br2 {c A B : Prop} [Decidable c] (h1 : ¬ c → A) (h2 : c → B) : if (!decide c) = true then A else B := by
  by_cases e : c
  · rw [decide_eq_true e]
    exact iteF (h2 e)
  · rw [decide_eq_false e]
    exact iteT (h1 e)
theorem cutV_mem {xs : List V} {lo hi : Option Int} {x : V} (h : x ∈ cutV xs lo hi) : x ∈ xs := List.mem_of_mem_drop (List.mem_of_mem_take h)
theorem cutV_len (xs : List V) (lo hi : Option Int) : (cutV xs lo hi).length ≤ xs.length := by
  unfold cutV
  rw [List.length_take, List.length_drop]
  omega
end Ly
set_option Elab.async false
set_option linter.all false
set_option maxRecDepth 100000
set_option maxHeartbeats 2000000
/-! Ly: own classes made by their __init__; enumerate; lists of ranges -/
namespace Ly
open PySem PySem.Spec PyProof.Rows L2 Evl
/-- a class that is made by calling it -/
def DefC (P : Program) (w : World) (K : PySem.W.Frag) (mg : Str → Option Value) (base : Heap) (CX : CXT) (k : Nat) (C : Addr) (ps : List Str) (sp : Sp) : Prop :=
  ∃ (f : Addr) (fd : FuncData), Mk K C f ∧ Binds K fd ps [] ∧ FnOk P w K mg base CX k f fd ps sp
theorem DefC.of {P : Program} {w : World} {K : PySem.W.Frag} {mg : Str → Option Value} {base : Heap} {CX : CXT} {k : Nat} {C : Addr} {ps : List Str} {sp : Sp} {f : Addr} {fd : FuncData} (M : Mk K C f) (b : Binds K fd ps []) (G : FnOk P w K mg base CX k f fd ps sp) : DefC P w K mg base CX k C ps sp := ⟨f, fd, M, b, G⟩
section
variable {K : PySem.W.Frag} {σ : L2.St} {H : Hp} {Q : VK} {D : Ends} {ta tb : TE} {tA : TA} {g : TG} {s1 : TS} {R : It → Hp → Prop}
theorem w_iE (h : tA σ H fun vs H1 => ∃ a xs, vs = [.ref a] ∧ SqL K H1 a xs ∧ R (Ite K a) H1) : iEnum K tA σ H R := h
theorem w_iE1 {a : Addr} {xs : List V} {B : Addr → Prop} (h : SqL K H a xs) (q : B a) : ∃ b ys, [V.ref a] = [V.ref b] ∧ SqL K H b ys ∧ B b := ⟨a, xs, rfl, h, q⟩
theorem for_enum {a : Addr} {xs : List V} (Pv : Nat → L2.St → Hp → Prop) (h0 : Pv 0 σ H) (hl : ∀ i σ H, Pv i σ H → SqL K H a xs)
    (hs : ∀ i x T σ H, xs[i]? = some x → H T = none → Pv i σ H → g (.ref T) σ (upd H T (.tup [.int (i : Nat), x])) fun σ2 H2 => s1 { D with nx := Pv (i + 1), ct := Pv (i + 1), bk := D.nx } σ2 H2) (hd : ∀ σ H, Pv xs.length σ H → D.nx σ H) : ForB (Ite K a) g s1 D σ H := by
  refine ⟨fun i m σ H => m = xs.length - i ∧ i ≤ xs.length ∧ Pv i σ H, ⟨_, rfl, Nat.zero_le _, h0⟩, ?_⟩
  rintro i m σ H ⟨rfl, hi, p⟩
  have sq := hl i σ H p
  by_cases hlt : i < xs.length
  · refine .inr ⟨⟨xs, xs[i], sq, List.getElem?_eq_getElem hlt⟩, Pv (i + 1), fun σ' H' p' => ⟨xs.length - (i + 1), by omega, rfl, hlt, p'⟩, fun x H' y => ?_⟩
    obtain ⟨T, z, rfl, hT, rfl, hz⟩ := y
    exact hs i z T σ H (hz xs sq) hT p
  · have e : i = xs.length := by omega
    subst e
    exact .inl ⟨⟨xs, sq, Nat.le_refl _⟩, hd σ H p⟩
theorem lc_enum {a : Addr} {xs : List V} {tt : TT} {te : TE} {vs : List Nat} {H1 : Hp} {Dl : Addr} (Pv : Nat → Hp → Prop) (h0 : Pv 0 (upd H1 Dl (.lst []))) (hl : ∀ i H, Pv i H → SqL K H a xs)
    (hs : ∀ i x T H, xs[i]? = some x → H T = none → Pv i H → g (.ref T) (wipe σ vs) (upd H T (.tup [.int (i : Nat), x])) fun σ2 H2 => wipe σ2 vs = wipe σ vs ∧ tt σ2 H2 fun b H3 =>
      if b = true then te σ2 H3 fun y H4 => ∃ acc, H4 Dl = some (.lst acc) ∧ acc.length < sizeLine ∧ Pv (i + 1) (upd H4 Dl (.lst (acc ++ [y]))) else Pv (i + 1) H3) (hd : ∀ H, Pv xs.length H → Q (.ref Dl) H) : LcB (Ite K a) g tt te vs Q σ H1 Dl := by
  refine ⟨fun i m H => m = xs.length - i ∧ i ≤ xs.length ∧ Pv i H, ⟨_, rfl, Nat.zero_le _, h0⟩, ?_⟩
  rintro i m H ⟨rfl, hi, p⟩
  have sq := hl i H p
  by_cases hlt : i < xs.length
  · refine .inr ⟨⟨xs, xs[i], sq, List.getElem?_eq_getElem hlt⟩, Pv (i + 1), fun H' p' => ⟨xs.length - (i + 1), by omega, rfl, hlt, p'⟩, fun x H' y => ?_⟩
    obtain ⟨T, z, rfl, hT, rfl, hz⟩ := y
    exact hs i z T H (hz xs sq) hT p
  · have e : i = xs.length := by omega
    subst e
    exact .inl ⟨⟨xs, sq, Nat.le_refl _⟩, hd H p⟩
theorem rgV_nat (a b : Nat) : rgV (a : Int) (b : Int) = nums (List.range' a (b - a)) := by
  unfold rgV
  apply List.ext_getElem
  · simp
  · intro i h1 h2
    simp
theorem w_lstRg {te : L2.St → Hp → (Int → Int → Hp → Prop) → Prop} (h : te σ H fun a b H1 => RgOk a b ∧ ∀ q, H1 q = none → Q (.ref q) (upd H1 q (.lst (rgV a b)))) : tLstRg te σ H Q := h
theorem w_rg1 {R : Int → Int → Hp → Prop} (h : ta σ H fun x H1 => ∃ n, x = .int n ∧ R 0 n H1) : tRg1 ta σ H R := h
theorem w_rg2 {R : Int → Int → Hp → Prop} (h : ta σ H fun x H1 => tb σ H1 fun y H2 => ∃ i j, x = .int i ∧ y = .int j ∧ R i j H2) : tRg2 ta tb σ H R := h
theorem w_rg1a {i : Int} {B : Int → Prop} (q : B i) : ∃ n, V.int i = .int n ∧ B n := ⟨i, rfl, q⟩
theorem w_rg2a {i j : Int} {B : Int → Int → Prop} (q : B i j) : ∃ a b, V.int i = .int a ∧ V.int j = .int b ∧ B a b := ⟨i, j, rfl, rfl, q⟩
theorem pg_tupK {X : Cx} {es : List Expr} {k : Nat} {pos : Pos} {t : TGs} {n : Nat} (e : X.K = K) (hc : X.calm = true) (h : PGs X es t) (hn : (assignEach es X.env).length = n := by rfl) (hst : (assignEach es X.env).findIdx? (·.1) = none := by rfl) : PG X (.Tuple es k pos) (gTup K n t) := by
  subst e
  exact pg_tup hc h hn hst
theorem w_sfld {f : Str} {to tv : TE} (h : tv σ H fun y H1 => to σ H1 fun x H2 => ∃ a C dx fs, x = .ref a ∧ H2 a = some (.ins C dx fs) ∧ Cls K C ∧ NoAttr K C f ∧ fs.length < 1000 ∧ D.nx σ (upd H2 a (.ins C dx (putF f y fs)))) : sFld K to tv f D σ H := h
theorem w_tfld {f : Str} (h : ta σ H fun x H1 => ∃ a C dx fs v, x = .ref a ∧ H1 a = some (.ins C dx fs) ∧ Cls K C ∧ NoAttr K C f ∧ fs.lookup f = some v ∧ Q v H1) : tFld K ta f σ H Q := h
theorem w_make {C : Addr} {sp : Sp} {dvs : List V} {E : XK} (h : tA σ H fun vs H1 => ∀ x dx, H1 x = none → H1 dx = none → dx ≠ x → sp (.ref x :: (vs ++ dvs)) (upd (upd H1 dx (.own x)) x (.ins C dx [])) (fun v H2 => v = .non ∧ Q (.ref x) H2) E) : tMake C sp dvs E tA σ H Q := h
/-- a field read -/
theorem w_fld {f : Str} {a C dx : Addr} {fs : List (Str × V)} {v : V} (h : H a = some (.ins C dx fs)) (c : Cls K C) (n : NoAttr K C f) (l : fs.lookup f = some v) (q : Q v H) : ∃ a' C' dx' fs' v', V.ref a = .ref a' ∧ H a' = some (.ins C' dx' fs') ∧ Cls K C' ∧ NoAttr K C' f ∧ fs'.lookup f = some v' ∧ Q v' H := ⟨a, C, dx, fs, v, rfl, h, c, n, l, q⟩
end
end Ly
set_option Elab.async false
set_option linter.all false
set_option maxRecDepth 100000
/-! Ly: dicts whose keys are numbers; kinds -/
namespace Ly
open PySem PySem.Spec PyProof.Rows L2 Evl
/-! ### dicts -/
def rDGet (x y : V) (H : Hp) (Q : VK) : Prop := ∃ a v, x = .ref a ∧ DGet H a y (some v) ∧ Q v H
def rDIn (x y : V) (H : Hp) (Q : VK) : Prop := ∃ a o, x = .ref a ∧ DGet H a y o ∧ Q (.bl o.isSome) H
def rDNotIn (x y : V) (H : Hp) (Q : VK) : Prop := ∃ a o, x = .ref a ∧ DGet H a y o ∧ Q (.bl (!o.isSome)) H
def rDPut (x y v : V) (H : Hp) (N : Hp → Prop) : Prop := ∃ a H4, x = .ref a ∧ DPut H a y v H4 ∧ N H4
section
variable {σ : L2.St} {H : Hp} {Q : VK} {D : Ends} {td ty tx tv : TE} {a : Addr} {kvs : List (L2.Key × V)} {i : Int} {v : V}
theorem w_tdget (h : td σ H fun x H1 => ty σ H1 fun y H2 => rDGet x y H2 Q) : tDGet td ty σ H Q := h
theorem w_tdin (h : ty σ H fun y H1 => td σ H1 fun x H2 => rDIn x y H2 Q) : tDIn ty td σ H Q := h
theorem w_tdnotin (h : ty σ H fun y H1 => td σ H1 fun x H2 => rDNotIn x y H2 Q) : tDNotIn ty td σ H Q := h
theorem w_sdput (h : tv σ H fun v H1 => td σ H1 fun x H2 => ty σ H2 fun y H3 => rDPut x y v H3 fun H4 => D.nx σ H4) : sDPut td ty tv D σ H := h
theorem w_dnew (h : ∀ p, H p = none → Q (.ref p) (upd H p (.dK []))) : tDNewK σ H Q := h
theorem w_dget (e : H a = some (.dK kvs)) (hv : valV kvs (.inl i) = some v) (q : Q v H) : rDGet (.ref a) (.int i) H Q :=
  ⟨a, v, rfl, by rw [← hv]; exact DGet.k (k := .inl i) e, q⟩
theorem w_din (e : H a = some (.dK kvs)) (q : Q (.bl (valV kvs (.inl i)).isSome) H) : rDIn (.ref a) (.int i) H Q :=
  ⟨a, _, rfl, DGet.k (k := .inl i) e, q⟩
theorem w_dnotin (e : H a = some (.dK kvs)) (q : Q (.bl (!(valV kvs (.inl i)).isSome)) H) : rDNotIn (.ref a) (.int i) H Q :=
  ⟨a, _, rfl, DGet.k (k := .inl i) e, q⟩
theorem w_dput {N : Hp → Prop} (e : H a = some (.dK kvs)) (z : kvs.length < sizeLine) (q : N (upd H a (.dK (putK kvs (.inl i) v)))) : rDPut (.ref a) (.int i) v H N :=
  ⟨a, _, rfl, DPut.k (k := .inl i) e z, q⟩
def rDSetd (tx : TE) (σ : L2.St) (a : Addr) (y : V) (H : Hp) (Q : VK) : Prop := tx σ H fun z H3 => ∃ (kvs : List (L2.Key × V)) (k : L2.Key), H3 a = some (.dK kvs) ∧ y = kV k ∧ kvs.length < sizeLine ∧
  (∀ v, valV kvs k = some v → Q v H3) ∧ (valV kvs k = none → Q z (upd H3 a (.dK (putK kvs k z))))
theorem w_tdsetd (h : td σ H fun x H1 => ∃ a, x = .ref a ∧ IsD H1 a ∧ ty σ H1 fun y H2 => tx σ H2 fun z H3 => ∃ (kvs : List (L2.Key × V)) (k : L2.Key), H3 a = some (.dK kvs) ∧ y = kV k ∧ kvs.length < sizeLine ∧
  (∀ v, valV kvs k = some v → Q v H3) ∧ (valV kvs k = none → Q z (upd H3 a (.dK (putK kvs k z))))) : tDSetd td ty tx σ H Q := h
theorem isD (e : H a = some (.dK kvs)) : IsD H a := .inl ⟨kvs, .inl e⟩
end
theorem call_lenD {X : Cx} : CallR X (.builtin "len") (fun xs H Q => ∃ a kvs, xs = [.ref a] ∧ H a = some (.dK kvs) ∧ Q (.int kvs.length) H) := by
  intro pins s σ H xs us Q I r h
  obtain ⟨a, kvs, rfl, e, q⟩ := h
  obtain ⟨u, rfl, rx⟩ := vals1 r
  cases rx
  exact d_len I (.inl e) fun t s' I' => ⟨.int kvs.length, H, I', ⟨t, rfl⟩, q⟩
/-! ### numbers in the order of their first occurrence -/
def nodeNo (vs : List Nat) (n : Nat) : List Nat := if n ∈ vs then vs else vs ++ [n]
def renL : List Nat → List V → List V × List Nat
  | vs, [] => ([], vs)
  | vs, x :: r => match x with
    | .int z => (.int ((nodeNo vs z.toNat).idxOf z.toNat : Nat) :: (renL (nodeNo vs z.toNat) r).1, (renL (nodeNo vs z.toNat) r).2)
    | x => (x :: (renL vs r).1, (renL vs r).2)
def renRows : List Nat → List (List V) → List (List V)
  | _, [] => []
  | vs, xs :: r => (renL vs xs).1 :: renRows (renL vs xs).2 r
/-- the dict that numbers vs -/
def NumD (vs : List Nat) (kvs : List (L2.Key × V)) : Prop := kvs.length = vs.length ∧ ∀ n : Nat, valV kvs (.inl (n : Int)) = if n ∈ vs then some (.int (vs.idxOf n : Nat)) else none
theorem NumD.nil : NumD [] [] := ⟨rfl, fun n => rfl⟩
theorem NumD.put {vs : List Nat} {kvs : List (L2.Key × V)} {n : Nat} (h : NumD vs kvs) (hn : n ∉ vs) : NumD (vs ++ [n]) (putK kvs (.inl (n : Int)) (.int (vs.length : Nat))) := by
  have h0 : valV kvs (.inl (n : Int)) = none := by rw [h.2 n, if_neg hn]
  refine ⟨?_, fun m => ?_⟩
  · rw [putK_new _ h0, List.length_append, List.length_append, h.1]
    rfl
  · rw [valV_put, h.2 m]
    by_cases e : m = n
    · subst e
      rw [if_pos rfl, if_pos (by simp), List.idxOf_append, if_neg hn]
      simp
    · have e2 : ¬ ((.inl (m : Int) : L2.Key) = .inl (n : Int)) := fun z => e (by have := Sum.inl.inj z; omega)
      rw [if_neg e2]
      by_cases hm : m ∈ vs
      · rw [if_pos hm, if_pos (by simp [hm]), List.idxOf_append, if_pos hm]
      · rw [if_neg hm, if_neg (by simp [hm, e])]
end Ly
set_option linter.all false
/-! a statement that is never reached -/
namespace Ly
open PySem PySem.Spec PyProof.Rows L2 Evl
theorem ps_dead {X : Cx} {st : Stmt} : PS X st (fun _ _ _ => False) := ⟨fun _ _ _ _ _ _ h => h.elim⟩
end Ly
set_option Elab.async false
set_option linter.all false
set_option maxRecDepth 100000
/-! LyOw: what one owns of a heap: addresses and what stands there, all new since H0 -/
namespace Ly
open PySem PySem.Spec PyProof.Rows L2 Evl
abbrev Fp := List (Addr × HO)
structure Own (H0 H : Hp) (F : Fp) : Prop where
  ex : Ex H0 H
  nd : (F.map (·.1)).Nodup
  on : ∀ p ∈ F, H p.1 = some p.2
  nw : ∀ p ∈ F, H0 p.1 = none
section
variable {H0 H H' : Hp} {F G F1 F2 : Fp} {a b : Addr} {o u : HO}
theorem Own.nil (e : Ex H0 H) : Own H0 H [] := ⟨e, List.nodup_nil, fun p h => (nomatch h), fun p h => (nomatch h)⟩
theorem Own.perm (h : Own H0 H F) (p : F.Perm G) : Own H0 H G :=
  ⟨h.ex, (p.map _).nodup_iff.mp h.nd, fun q m => h.on q (p.mem_iff.mpr m), fun q m => h.nw q (p.mem_iff.mpr m)⟩
theorem Own.sub (h : Own H0 H F) (s : G.Sublist F) : Own H0 H G :=
  ⟨h.ex, (s.map _).nodup h.nd, fun q m => h.on q (s.subset m), fun q m => h.nw q (s.subset m)⟩
theorem Own.at (h : Own H0 H F) (m : (a, o) ∈ F) : H a = some o := h.on _ m
theorem Own.mono (h : Own H0 H F) (e : Ex H H') : Own H0 H' F := ⟨h.ex.trans e, h.nd, fun p m => e _ _ (h.on p m), h.nw⟩
theorem Own.new (h : Own H0 H F) (hp : H a = none) : Own H0 (upd H a u) ((a, u) :: F) := by
  have h0 : H0 a = none := fresh_back h.ex hp
  have na : ∀ p ∈ F, p.1 ≠ a := fun p m z => by
    have := h.on p m
    rw [z, hp] at this
    cases this
  refine ⟨ex_new h.ex hp, ?_, fun p m => ?_, fun p m => ?_⟩
  · rw [List.map_cons, List.nodup_cons]
    refine ⟨fun m => ?_, h.nd⟩
    obtain ⟨p, mp, e⟩ := List.mem_map.mp m
    exact na p mp e
  · rcases List.mem_cons.mp m with rfl | m
    · exact upd_same
    · rw [upd_ne (na p m)]
      exact h.on p m
  · rcases List.mem_cons.mp m with rfl | m
    · exact h0
    · exact h.nw p m
theorem Own.mid (h : Own H0 H (F1 ++ (a, o) :: F2)) : Own H0 (upd H a u) (F1 ++ (a, u) :: F2) := by
  have nd := h.nd
  rw [List.map_append, List.map_cons] at nd
  have h0 : H0 a = none := h.nw (a, o) (by simp)
  have nd2 := (List.perm_middle.nodup_iff).mp nd
  rw [List.nodup_cons] at nd2
  have na : ∀ p, p ∈ F1 ∨ p ∈ F2 → p.1 ≠ a := fun p m z => nd2.1 (by
    rw [List.mem_append]
    rcases m with m | m
    · exact .inl (z ▸ List.mem_map.mpr ⟨p, m, rfl⟩)
    · exact .inr (z ▸ List.mem_map.mpr ⟨p, m, rfl⟩))
  refine ⟨ex_upd h.ex h0, by rw [List.map_append, List.map_cons]; exact nd, fun p m => ?_, fun p m => ?_⟩
  · rcases List.mem_append.mp m with m | m
    · rw [upd_ne (na p (.inl m))]
      exact h.on p (by simp [m])
    · rcases List.mem_cons.mp m with rfl | m
      · exact upd_same
      · rw [upd_ne (na p (.inr m))]
        exact h.on p (by simp [m])
  · rcases List.mem_append.mp m with m | m
    · exact h.nw p (by simp [m])
    · rcases List.mem_cons.mp m with rfl | m
      · exact h0
      · exact h.nw p (by simp [m])
theorem Own.put (h : Own H0 H ((a, o) :: F)) : Own H0 (upd H a u) ((a, u) :: F) := Own.mid (F1 := []) h
theorem Own.set (i : Nat) (h : Own H0 H F) (e : F[i]? = some (a, o)) : Own H0 (upd H a u) (F.set i (a, u)) := by
  obtain ⟨hi, e⟩ := List.getElem?_eq_some_iff.mp e
  have e1 : F = F.take i ++ (a, o) :: F.drop (i + 1) := by
    rw [← e, List.getElem_cons_drop, List.take_append_drop]
  have e2 : F.set i (a, u) = F.take i ++ (a, u) :: F.drop (i + 1) := List.set_eq_take_append_cons_drop .. |>.trans (if_pos hi)
  rw [e2]
  rw [e1] at h
  exact h.mid
theorem Own.keys (h : Own H0 H F) {i j : Nat} {p q : Addr × HO} (hi : F[i]? = some p) (hj : F[j]? = some q) (n : i ≠ j) : p.1 ≠ q.1 := fun z => by
  have nd := h.nd
  obtain ⟨li, ei⟩ := List.getElem?_eq_some_iff.mp hi
  obtain ⟨lj, ej⟩ := List.getElem?_eq_some_iff.mp hj
  have h1 : i < (F.map fun p => p.1).length := by simpa using li
  have h2 : j < (F.map fun p => p.1).length := by simpa using lj
  have e : (F.map fun p => p.1)[i] = (F.map fun p => p.1)[j] := by
    rw [List.getElem_map, List.getElem_map, ei, ej]
    exact z
  exact n ((List.getElem_inj nd).mp e)
theorem Own.pickN (h : Own H0 H F) : ∀ (I : List Nat) (G : Fp), I.Nodup → I.map (fun i => F[i]?) = G.map some → (G.map (·.1)).Nodup ∧ ∀ p ∈ G, ∃ i ∈ I, F[i]? = some p
  | [], G, _, e => by
    have : G = [] := by simpa using e.symm
    subst this
    exact ⟨List.nodup_nil, fun p m => (nomatch m)⟩
  | i :: I, [], _, e => by simp at e
  | i :: I, p :: G, n, e => by
    rw [List.map_cons, List.map_cons, List.cons.injEq] at e
    rw [List.nodup_cons] at n
    obtain ⟨h1, h2⟩ := Own.pickN h I G n.2 e.2
    refine ⟨?_, fun q m => ?_⟩
    · rw [List.map_cons, List.nodup_cons]
      refine ⟨fun m => ?_, h1⟩
      obtain ⟨q, mq, eq⟩ := List.mem_map.mp m
      obtain ⟨j, mj, ej⟩ := h2 q mq
      exact h.keys ej e.1 (fun z => n.1 (z ▸ mj)) eq
    · rcases List.mem_cons.mp m with rfl | m
      · exact ⟨i, List.mem_cons_self, e.1⟩
      · obtain ⟨j, mj, ej⟩ := h2 q m
        exact ⟨j, List.mem_cons_of_mem _ mj, ej⟩
/-- some of what one owns, in any order -/
theorem Own.pick (I : List Nat) (h : Own H0 H F) (n : I.Nodup) (e : I.map (fun i => F[i]?) = G.map some) : Own H0 H G := by
  obtain ⟨h1, h2⟩ := Own.pickN h I G n e
  refine ⟨h.ex, h1, fun p m => ?_, fun p m => ?_⟩
  · obtain ⟨i, _, ei⟩ := h2 p m
    exact h.on p (List.mem_of_getElem? ei)
  · obtain ⟨i, _, ei⟩ := h2 p m
    exact h.nw p (List.mem_of_getElem? ei)
theorem Own.ne (h : Own H0 H F) (m1 : (a, o) ∈ F) (m2 : (b, u) ∈ F) (n : o ≠ u) : a ≠ b := fun z => by
  have e1 := h.on _ m1
  have e2 := h.on _ m2
  rw [z] at e1
  exact n (Option.some.inj (e1.symm.trans e2))
end
end Ly
set_option Elab.async false
set_option linter.all false
set_option maxRecDepth 100000
/-! LyPa: reading a text, level by level -/
namespace Ly
open PySem PySem.Spec PyProof.Rows L2 Evl
structure Lv where
  op : Str
  nm : Bool
  ns : List Str
  pt : Nat
  nd : List V
def Lv.new (o : Str) : Lv := ⟨o, decide (o = "\\"), [], 0, []⟩
def Lv.whole (l : Lv) : Bool := !l.nm && decide (0 < l.pt)
def Lv.add (l : Lv) (xs : List V) : Lv := { l with pt := l.pt + 1, nd := l.nd ++ xs }
def Lv.all (l : Lv) : List V := List.replicate l.ns.length (V.str "lam") ++ List.replicate (l.pt - 1) (V.str "app") ++ l.nd
def Lv.size (l : Lv) : Nat := l.ns.length + l.pt + l.nd.length
def scp : List Lv → List Str
  | [] => []
  | l :: r => scp r ++ l.ns
def sizes : List Lv → Nat
  | [] => 0
  | l :: r => l.size + sizes r
/-- the number that a name stands for -/
def numOf (fs sc : List Str) (n : Str) : Option Nat := if n ∈ sc then some (sc.reverse.idxOf n) else if n ∈ fs then some (sc.length + fs.idxOf n) else none
def closeAbs : Lv → List Lv → Lv × List Lv
  | l, [] => (l, [])
  | l, p :: r => if l.op = "\\" then closeAbs (p.add l.all) r else (l, p :: r)
def stepT (fs : List Str) (l : Lv) (r : List Lv) (tok : Str) : Option (Lv × List Lv) :=
  if tok = "(" ∨ tok = "\\" then (if l.nm = true ∨ 60 < r.length + 1 then none else some (Lv.new tok, l :: r))
  else if tok = "." then (if l.nm = false ∨ l.ns = [] then none else some ({ l with nm := false }, r))
  else if tok = ")" then (if l.whole = false then none else if (closeAbs l r).1.op = "(" then match (closeAbs l r).2 with
      | [] => none
      | p :: r2 => some (p.add (closeAbs l r).1.all, r2) else none)
  else if l.nm = true then some ({ l with ns := l.ns ++ [tok] }, r)
  else match numOf fs (scp (l :: r)) tok with
    | none => none
    | some k => some (l.add [V.int (k : Int)], r)
def finT (l : Lv) (r : List Lv) : Option (List V) := if l.whole = false then none else match (closeAbs l r).2 with
  | [] => some (closeAbs l r).1.all
  | _ :: _ => none
/-- the last level is the text's -/
def Bot : Lv → List Lv → Prop
  | l, [] => l.op = ""
  | _, p :: r => Bot p r
/-! ### tokens -/
def isLow (c : Nat) : Bool := decide (97 ≤ c ∧ c ≤ 122)
def isDig (c : Nat) : Bool := decide (48 ≤ c ∧ c ≤ 57)
def isSgn (c : Nat) : Bool := c == 92 || c == 46 || c == 40 || c == 41
/-- the length of the token that begins here; or the index where it fails -/
def tokL : List Nat → Sum Nat Nat
  | [] => .inr 0
  | c :: r => if isLow c = true then (if 10 ≤ (r.takeWhile isDig).length then .inr 10 else .inl (1 + (r.takeWhile isDig).length))
    else if isSgn c = true then .inl 1 else .inr 0
def readT (fs : List Str) : Nat → Lv → List Lv → Nat → List Nat → Except Nat (Lv × List Lv)
  | 0, l, r, _, _ => .ok (l, r)
  | _ + 1, l, r, _, [] => .ok (l, r)
  | n + 1, l, r, i, c :: cs => if c = 32 then readT fs n l r (i + 1) cs else match tokL (c :: cs) with
    | .inr k => .error (i + k)
    | .inl k => match stepT fs l r (⟨((c :: cs).take k).toArray⟩) with
      | none => .error i
      | some (l', r') => readT fs n l' r' (i + k) ((c :: cs).drop k)
def parseT (fs : List Str) (cs : List Nat) : Except Nat (List V) := match readT fs cs.length (Lv.new "") [] 0 cs with
  | .error i => .error i
  | .ok (l, r) => match finT l r with
    | none => .error cs.length
    | some xs => .ok xs
/-! ### positions of a name -/
def posL (n : Str) : Nat → List Str → List Nat
  | _, [] => []
  | i, m :: r => if m = n then i :: posL n (i + 1) r else posL n (i + 1) r
theorem posL_app (n : Str) : ∀ (a b : List Str) (i : Nat), posL n i (a ++ b) = posL n i a ++ posL n (i + a.length) b
  | [], b, i => rfl
  | m :: a, b, i => by
    have ih := posL_app n a b (i + 1)
    rw [show i + 1 + a.length = i + (m :: a).length by simp; omega] at ih
    simp only [List.cons_append, posL]
    rw [ih]
    split <;> simp
theorem posL_len (n : Str) : ∀ (a : List Str) (i : Nat), (posL n i a).length = a.count n
  | [], i => rfl
  | m :: a, i => by
    have ih := posL_len n a (i + 1)
    simp only [posL, List.count_cons]
    split
    · rename_i h
      simp [h, ih]
    · rename_i h
      simp [h, ih]
theorem posL_nil {n : Str} {a : List Str} {i : Nat} (h : n ∉ a) : posL n i a = [] := by
  have := posL_len n a i
  rw [List.count_eq_zero_of_not_mem h] at this
  exact List.length_eq_zero_iff.mp this
/-- the last position: counted from behind -/
theorem posL_last (n : Str) : ∀ (k : Nat) (a : List Str), a.length = k → n ∈ a → ∃ xs k, posL n 0 a = xs ++ [k] ∧ k + 1 + a.reverse.idxOf n = a.length
  | 0, a, hk, h => by
    rw [List.length_eq_zero_iff.mp hk] at h
    cases h
  | k + 1, a, hk, h => by
    rcases List.eq_nil_or_concat a with rfl | ⟨b, m, rfl⟩
    · cases h
    rw [List.concat_eq_append] at h ⊢
    rw [posL_app, List.reverse_append]
    by_cases e : m = n
    · subst e
      refine ⟨posL m 0 b, b.length, by simp [posL], ?_⟩
      simp
    · have hn : n ∈ b := by
        rcases List.mem_append.mp h with h | h
        · exact h
        · exact absurd (List.mem_singleton.mp h).symm e
      obtain ⟨xs, j, e1, e2⟩ := posL_last n k b (by simpa using hk) hn
      refine ⟨xs, j, by rw [e1]; simp [posL, e], ?_⟩
      have e3 : (m == n) = false := beq_eq_false_iff_ne.mpr e
      rw [show ([m].reverse ++ b.reverse) = m :: b.reverse from rfl, List.idxOf_cons, e3, List.length_append, List.length_singleton]
      show j + 1 + (b.reverse.idxOf n + 1) = _
      omega
end Ly
set_option Elab.async false
set_option linter.all false
set_option maxRecDepth 100000
/-! LyPr2: the reader's objects -/
namespace Ly
open PySem PySem.Spec PyProof.Rows L2 Evl
abbrev LA := Addr × Addr × Addr × Addr
def lvFs (l : Lv) (nl dl : Addr) : List (Str × V) := [("opener", .str l.op), ("naming", .bl l.nm), ("names", .ref nl), ("parts", .int (l.pt : Int)), ("nodes", .ref dl)]
def rdFs (dn db ll : Addr) (d : Nat) : List (Str × V) := [("numbers", .ref dn), ("bound", .ref db), ("depth", .int (d : Int)), ("levels", .ref ll)]
abbrev txts (ns : List Str) : List V := ns.map V.str
def lvFp (CL : Addr) (a : LA) (l : Lv) : Fp := [(a.1, .ins CL a.2.1 (lvFs l a.2.2.1 a.2.2.2)), (a.2.2.1, .lst (txts l.ns)), (a.2.2.2, .lst l.nd)]
def lvsFp (CL : Addr) : List LA → List Lv → Fp
  | a :: as, l :: ls => lvFp CL a l ++ lvsFp CL as ls
  | _, _ => []
def bdFp (g : Str → List V) (BA : List (Str × Addr)) : Fp := BA.map fun p => (p.2, .lst (g p.1))
abbrev pos0 (sc : List Str) (n : Str) : List V := nums (posL n 0 sc)
abbrev headFp (CR : Addr) (x dx dn db ll : Addr) (kn kb : List (L2.Key × V)) (d : Nat) (xs : List V) : Fp := [(x, .ins CR dx (rdFs dn db ll d)), (dn, .dK kn), (db, .dK kb), (ll, .lst xs)]
def NumS (fs : List Str) (kn : List (L2.Key × V)) : Prop := ∀ n, valV kn (.inr n) = if n ∈ fs then some (.int (fs.idxOf n : Nat)) else none
structure Bnd (BA : List (Str × Addr)) (kb : List (L2.Key × V)) (sc : List Str) (N : Nat) : Prop where
  nd : (BA.map (·.1)).Nodup
  val : ∀ n, valV kb (.inr n) = (BA.lookup n).map V.ref
  cov : ∀ n ∈ sc, (BA.lookup n).isSome = true
  len : kb.length ≤ N
def lls (as : List LA) : List V := (as.map fun a => V.ref a.1).reverse
theorem lls_cons (a : LA) (as : List LA) : lls (a :: as) = lls as ++ [V.ref a.1] := by simp [lls]
structure RdF (CR CL : Addr) (H0 H : Hp) (x dx dn db ll : Addr) (kn kb : List (L2.Key × V)) (BA : List (Str × Addr)) (a : LA) (as : List LA) (fs : List Str) (N : Nat) (l : Lv) (r : List Lv) : Prop where
  own : Own H0 H (headFp CR x dx dn db ll kn kb (scp (l :: r)).length (lls (a :: as)) ++ (lvFp CL a l ++ (lvsFp CL as r ++ bdFp (pos0 (scp (l :: r))) BA)))
  len : as.length = r.length
  num : NumS fs kn
  bd : Bnd BA kb (scp (l :: r)) N
  sz : sizes (l :: r) ≤ 2 * N
  bot : Bot l r
/-- the reader at x has read so far -/
def RdAt (CR CL : Addr) (H0 H : Hp) (x : Addr) (fs : List Str) (N : Nat) (l : Lv) (r : List Lv) : Prop := ∃ dx dn db ll kn kb BA a as, RdF CR CL H0 H x dx dn db ll kn kb BA a as fs N l r
section
variable {CR CL : Addr} {H0 H H' : Hp} {x : Addr} {fs : List Str} {N M : Nat} {l : Lv} {r : List Lv}
theorem RdAt.mono (h : RdAt CR CL H0 H x fs N l r) (e : Ex H H') : RdAt CR CL H0 H' x fs N l r := by
  obtain ⟨dx, dn, db, ll, kn, kb, BA, a, as, h⟩ := h
  exact ⟨dx, dn, db, ll, kn, kb, BA, a, as, h.own.mono e, h.len, h.num, h.bd, h.sz, h.bot⟩
theorem RdAt.more (h : RdAt CR CL H0 H x fs N l r) (e : N ≤ M) : RdAt CR CL H0 H x fs M l r := by
  obtain ⟨dx, dn, db, ll, kn, kb, BA, a, as, h⟩ := h
  exact ⟨dx, dn, db, ll, kn, kb, BA, a, as, h.own, h.len, h.num, ⟨h.bd.nd, h.bd.val, h.bd.cov, Nat.le_trans h.bd.len e⟩, by have := h.sz; omega, h.bot⟩
end
theorem RdAt.top {CR CL : Addr} {H0 H : Hp} {x : Addr} {fs : List Str} {N : Nat} {l : Lv} {r : List Lv} (h : RdAt CR CL H0 H x fs N l r) : ∃ (dx dn db ll ax adx nl dl : Addr) (d : Nat) (ys : List V), H x = some (.ins CR dx (rdFs dn db ll d)) ∧ H ll = some (.lst (ys ++ [V.ref ax])) ∧
    H ax = some (.ins CL adx (lvFs l nl dl)) ∧ H nl = some (.lst (txts l.ns)) ∧ H dl = some (.lst l.nd) ∧ ys.length = r.length := by
  obtain ⟨dx, dn, db, ll, kn, kb, BA, a, as, h⟩ := h
  have ow := h.own
  rw [lls_cons] at ow
  exact ⟨dx, dn, db, ll, a.1, a.2.1, a.2.2.1, a.2.2.2, (scp (l :: r)).length, lls as, ow.at (by simp), ow.at (by simp), ow.at (by simp [lvFp]), ow.at (by simp [lvFp]), ow.at (by simp [lvFp]), by simp [lls, h.len]⟩
theorem RdAt.ex {CR CL : Addr} {H0 H : Hp} {x : Addr} {fs : List Str} {N : Nat} {l : Lv} {r : List Lv} (h : RdAt CR CL H0 H x fs N l r) : Ex H0 H := by
  obtain ⟨_, _, _, _, _, _, _, _, _, h⟩ := h
  exact h.own.ex
theorem RdAt.bot {CR CL : Addr} {H0 H : Hp} {x : Addr} {fs : List Str} {N : Nat} {l : Lv} {r : List Lv} (h : RdAt CR CL H0 H x fs N l r) : Bot l r := by
  obtain ⟨_, _, _, _, _, _, _, _, _, h⟩ := h
  exact h.bot
theorem RdAt.size {CR CL : Addr} {H0 H : Hp} {x : Addr} {fs : List Str} {N : Nat} {l : Lv} {r : List Lv} (h : RdAt CR CL H0 H x fs N l r) : sizes (l :: r) ≤ 2 * N := by
  obtain ⟨_, _, _, _, _, _, _, _, _, h⟩ := h
  exact h.sz
theorem close_stop {l : Lv} {r : List Lv} (h : l.op ≠ "\\") : closeAbs l r = (l, r) := by
  cases r with
  | nil => rfl
  | cons p r => rw [closeAbs, if_neg h]
theorem close_go {l p : Lv} {r : List Lv} (h : l.op = "\\") : closeAbs l (p :: r) = closeAbs (p.add l.all) r := by rw [closeAbs, if_pos h]
theorem close_pt : ∀ (r : List Lv) (l : Lv), 0 < l.pt → 0 < (closeAbs l r).1.pt
  | [], l, h => h
  | p :: r, l, h => by
    rw [closeAbs]
    split
    · exact close_pt r _ (Nat.succ_pos _)
    · exact h
theorem lookup_split {n : Str} {b : Addr} : ∀ {BA : List (Str × Addr)}, BA.lookup n = some b → ∃ B1 B2, BA = B1 ++ (n, b) :: B2
  | (m, c) :: BA, h => by
    rw [List.lookup_cons] at h
    cases e : n == m with
    | true =>
      rw [e] at h
      cases h
      rw [beq_iff_eq] at e
      subst e
      exact ⟨[], BA, rfl⟩
    | false =>
      rw [e] at h
      obtain ⟨B1, B2, rfl⟩ := lookup_split h
      exact ⟨(m, c) :: B1, B2, rfl⟩
theorem bdFp_upd {g g' : Str → List V} {n : Str} {b : Addr} {B1 B2 : List (Str × Addr)} (nd : ((B1 ++ (n, b) :: B2).map (·.1)).Nodup) (h : ∀ m, m ≠ n → g' m = g m) :
    bdFp g' (B1 ++ (n, b) :: B2) = bdFp g B1 ++ (b, .lst (g' n)) :: bdFp g B2 := by
  rw [List.map_append, List.map_cons] at nd
  have nd2 := (List.perm_middle.nodup_iff).mp nd
  rw [List.nodup_cons] at nd2
  have same : ∀ B : List (Str × Addr), (∀ p ∈ B, p.1 ≠ n) → bdFp g' B = bdFp g B := fun B hB => List.map_congr_left fun p hp => by rw [h p.1 (hB p hp)]
  unfold bdFp
  rw [List.map_append, List.map_cons]
  have s1 := same B1 fun p hp z => nd2.1 (by rw [List.mem_append]; exact .inl (z ▸ List.mem_map.mpr ⟨p, hp, rfl⟩))
  have s2 := same B2 fun p hp z => nd2.1 (by rw [List.mem_append]; exact .inr (z ▸ List.mem_map.mpr ⟨p, hp, rfl⟩))
  unfold bdFp at s1 s2
  rw [s1, s2]
theorem bdFp_split {g : Str → List V} {n : Str} {b : Addr} {B1 B2 : List (Str × Addr)} : bdFp g (B1 ++ (n, b) :: B2) = bdFp g B1 ++ (b, .lst (g n)) :: bdFp g B2 := by
  unfold bdFp
  rw [List.map_append, List.map_cons]
theorem bdFp_congr {g g' : Str → List V} {BA : List (Str × Addr)} (h : ∀ m, g' m = g m) : bdFp g' BA = bdFp g BA := List.map_congr_left fun p hp => by rw [h p.1]
theorem scp_cons (l : Lv) (r : List Lv) : scp (l :: r) = scp r ++ l.ns := rfl
theorem scp_len : ∀ ls : List Lv, (scp ls).length ≤ sizes ls
  | [] => Nat.le_refl _
  | l :: r => by
    have ih := scp_len r
    show (scp r ++ l.ns).length ≤ l.size + sizes r
    rw [List.length_append]
    unfold Lv.size
    omega
theorem all_len {l : Lv} (h : 0 < l.pt) : l.all.length + 1 = l.size := by
  unfold Lv.all Lv.size
  simp
  omega
theorem size_add (l : Lv) (xs : List V) : (l.add xs).size = l.size + xs.length + 1 := by
  unfold Lv.add Lv.size
  simp
  omega
/-! ### readings for dicts with texts for keys, fields -/
section
variable {σ : L2.St} {H : Hp} {Q : VK} {D : Ends} {td ty tx tv ta : TE} {a : Addr} {kvs : List (L2.Key × V)} {n : Str} {v : V} {K : PySem.W.Frag}
theorem w_tdget2 (h : td σ H fun x H1 => ∃ a, x = .ref a ∧ IsD H1 a ∧ ty σ H1 fun y H2 => tx σ H2 fun z H3 => ∃ o, DGet H3 a y o ∧ Q (o.getD z) H3) : tDGet2 td ty tx σ H Q := h
theorem w_dgetS (e : H a = some (.dK kvs)) (hv : valV kvs (.inr n) = some v) (q : Q v H) : rDGet (.ref a) (.str n) H Q :=
  ⟨a, v, rfl, by rw [← hv]; exact DGet.k (k := .inr n) e, q⟩
theorem w_dinS (e : H a = some (.dK kvs)) (q : Q (.bl (valV kvs (.inr n)).isSome) H) : rDIn (.ref a) (.str n) H Q :=
  ⟨a, _, rfl, DGet.k (k := .inr n) e, q⟩
theorem w_dnotinS (e : H a = some (.dK kvs)) (q : Q (.bl (!(valV kvs (.inr n)).isSome)) H) : rDNotIn (.ref a) (.str n) H Q :=
  ⟨a, _, rfl, DGet.k (k := .inr n) e, q⟩
theorem w_dputS {N : Hp → Prop} (e : H a = some (.dK kvs)) (z : kvs.length < sizeLine) (q : N (upd H a (.dK (putK kvs (.inr n) v)))) : rDPut (.ref a) (.str n) v H N :=
  ⟨a, _, rfl, DPut.k (k := .inr n) e z, q⟩
theorem w_sfa {f : Str} {rd : V → V → Hp → VK → Prop} (h : ta σ H fun x H1 => ∃ a C dx fs v, x = .ref a ∧ H1 a = some (.ins C dx fs) ∧ Cls K C ∧ NoAttr K C f ∧ fs.lookup f = some v ∧
  tv σ H1 fun y H2 => rd v y H2 fun z H3 => ∃ dx' fs', H3 a = some (.ins C dx' fs') ∧ fs'.length < 1000 ∧ D.nx σ (upd H3 a (.ins C dx' (putF f z fs')))) : sFldAug K ta tv rd f D σ H := h
theorem w_tmP {C : Addr} {m : Str} {sp : Sp} {dvs : List V} {E : XK} {t : TA} (h : ta σ H fun x H1 => ∃ a dx fs, x = .ref a ∧ H1 a = some (.ins C dx fs) ∧ List.lookup m fs = none ∧ t σ H1 fun vs H2 => sp (x :: (vs ++ dvs)) H2 Q E) : tMeth C m sp dvs E ta t σ H Q := h
theorem dgetS (e : H a = some (.dK kvs)) : DGet H a (.str n) (valV kvs (.inr n)) := DGet.k (k := .inr n) e
end
end Ly
set_option Elab.async false
set_option linter.all false
set_option maxRecDepth 100000
/-! LyPx: rows of words that stand for terms, and how they are read -/
namespace Ly
open PySem PySem.Spec PyProof.Rows L2 Evl
structure IsNm (w : List Nat) : Prop where
  ex : ∃ c ds, w = c :: ds ∧ isLow c = true ∧ ds.all isDig = true ∧ ds.length ≤ 8
inductive Kd4 | part | row | abs | opn
def wrapW (ws : List (List Nat)) : List (List Nat) := [40] :: ws ++ [[41]]
def nmOf (fs sc : List (List Nat)) (w : List Nat) : Option Nat := numOf (fs.map pl) (sc.map pl) (pl w)
inductive Mk (fs : List (List Nat)) : List (List Nat) → Nat → List (List Nat) → Tm → Kd4 → Prop
  | name {sc D w k} : IsNm w → nmOf fs sc w = some k → Mk fs sc D [w] (.var k) .part
  | abs {sc D own ws t kd} : own ≠ [] → own.length ≤ 3 → (∀ w ∈ own, IsNm w) → Mk fs (sc ++ own) D ws t kd → Mk fs sc (D + 1) ([92] :: (own ++ [46] :: ws)) (Tm.lamN own.length t) .abs
  | app {sc D l r L R f a k1 k2 kd} : Mk fs sc D l f k1 → Mk fs sc D r a k2 → (L = wrapW l ∨ (L = l ∧ (k1 = .part ∨ k1 = .row))) → ((R = wrapW r ∧ kd = .row) ∨ (R = r ∧ k2 = .part ∧ kd = .row) ∨ (R = r ∧ k2 = .abs ∧ kd = .opn)) → Mk fs sc (D + 1) (L ++ R) (.app f a) kd
theorem Mk.mono {fs sc D ws t kd} (h : Mk fs sc D ws t kd) : ∀ {D'}, D ≤ D' → Mk fs sc D' ws t kd := by
  induction h with
  | name h1 h2 => exact fun _ => .name h1 h2
  | abs h1 h2 h3 h4 ih =>
    intro D' hD
    obtain ⟨D2, rfl⟩ : ∃ k, D' = k + 1 := ⟨D' - 1, by omega⟩
    exact .abs h1 h2 h3 (ih (by omega))
  | app h1 h2 hl hr ih1 ih2 =>
    intro D' hD
    obtain ⟨D2, rfl⟩ : ∃ k, D' = k + 1 := ⟨D' - 1, by omega⟩
    exact .app (ih1 (by omega)) (ih2 (by omega)) hl hr
def kdStr : Kd4 → Str
  | .part => "part"
  | .row => "row"
  | .abs => "open"
  | .opn => "open"
theorem Mk.head {fs sc D ws t kd} (h : Mk fs sc D ws t kd) : ∃ w r, ws = w :: r ∧ (kd ≠ .abs → w ≠ [92]) := by
  induction h with
  | name hn _ =>
    obtain ⟨c, ds, rfl, hc, _⟩ := hn.ex
    refine ⟨_, _, rfl, fun _ z => ?_⟩
    cases z
    exact absurd hc (by decide)
  | abs => exact ⟨_, _, rfl, fun z => absurd rfl z⟩
  | app h1 h2 hl hr ih1 ih2 =>
    obtain ⟨w, r, rfl, hw⟩ := ih1
    rcases hl with rfl | ⟨rfl, hk⟩
    · exact ⟨[40], _, rfl, fun _ z => by cases z⟩
    · refine ⟨w, _, rfl, fun _ => hw ?_⟩
      rcases hk with rfl | rfl <;> exact fun z => nomatch z
theorem Mk.size {fs sc D ws t kd} (h : Mk fs sc D ws t kd) : ws.length + 5 ≤ 6 * 2 ^ D ∧ t.enc.length + 3 ≤ 4 * 2 ^ D := by
  induction h with
  | @name sc D w k _ _ =>
    have := Nat.one_le_two_pow (n := D)
    simp only [Tm.enc, List.length_singleton]
    omega
  | abs h1 h2 h3 h4 ih =>
    rw [Nat.pow_succ]
    simp only [List.length_cons, List.length_append, Tm.enc_lamN, List.length_flatten, List.map_replicate, List.sum_replicate_nat]
    simp only [List.length_nil]
    omega
  | app h1 h2 hl hr ih1 ih2 =>
    have e1 : ∀ ws : List (List Nat), (wrapW ws).length = ws.length + 2 := fun ws => by simp [wrapW]
    rw [Nat.pow_succ]
    simp only [List.length_cons, List.length_append, Tm.enc]
    have l1 : ∀ {L l : List (List Nat)} {k1 : Kd4}, (L = wrapW l ∨ (L = l ∧ (k1 = .part ∨ k1 = .row))) → L.length ≤ l.length + 2 := by
      rintro L l k1 (rfl | ⟨rfl, _⟩)
      · exact Nat.le_of_eq (e1 l)
      · omega
    have l2 := l1 hl
    rcases hr with ⟨rfl, _⟩ | ⟨rfl, _⟩ | ⟨rfl, _⟩
    · rw [e1]
      omega
    · omega
    · omega
theorem numOf_lt {fs sc : List Str} {n : Str} {k : Nat} (h : numOf fs sc n = some k) : k < sc.length + fs.length := by
  unfold numOf at h
  split at h
  · rename_i hm
    cases h
    have := List.idxOf_lt_length_of_mem (List.mem_reverse.mpr hm)
    rw [List.length_reverse] at this
    omega
  · split at h
    · rename_i hm
      cases h
      have := List.idxOf_lt_length_of_mem hm
      omega
    · cases h
theorem Mk.vars {fs sc D ws t kd} (h : Mk fs sc D ws t kd) : ∀ M, sc.length + fs.length + 3 * D ≤ M → t.vars M := by
  induction h with
  | name _ hk =>
    intro M hM
    have := numOf_lt hk
    simp only [List.length_map] at this
    show _ ≤ M
    omega
  | abs h1 h2 h3 h4 ih =>
    intro M hM
    exact Tm.vars_lamN (ih M (by rw [List.length_append]; omega))
  | app h1 h2 hl hr ih1 ih2 =>
    intro M hM
    exact ⟨ih1 M (by omega), ih2 M (by omega)⟩
/-- words one after the other -/
def runW (fs : List Str) : Lv → List Lv → List (List Nat) → Option (Lv × List Lv)
  | l, r, [] => some (l, r)
  | l, r, w :: ws => match stepT fs l r (pl w) with
    | none => none
    | some x => runW fs x.1 x.2 ws
theorem runW_cons {fs : List Str} {l l' : Lv} {r r' : List Lv} {w : List Nat} {ws : List (List Nat)} (h : stepT fs l r (pl w) = some (l', r')) : runW fs l r (w :: ws) = runW fs l' r' ws := by
  rw [runW, h]
theorem runW_app {fs : List Str} : ∀ {a b : List (List Nat)} {l l' : Lv} {r r' : List Lv}, runW fs l r a = some (l', r') → runW fs l r (a ++ b) = runW fs l' r' b
  | [], b, l, l', r, r', h => by
    cases h
    rfl
  | w :: a, b, l, l', r, r', h => by
    rw [runW] at h
    rw [List.cons_append, runW]
    cases e : stepT fs l r (pl w) with
    | none => rw [e] at h; cases h
    | some x =>
      rw [e] at h
      exact runW_app h
theorem nm_ne {w : List Nat} (h : IsNm w) : pl w ≠ "(" ∧ pl w ≠ "\\" ∧ pl w ≠ "." ∧ pl w ≠ ")" := by
  obtain ⟨c, ds, rfl, hc, _⟩ := h.ex
  have e1 : ("(" : Str) = pl [40] := by decide +kernel
  have e2 : ("\\" : Str) = pl [92] := by decide +kernel
  have e3 : ("." : Str) = pl [46] := by decide +kernel
  have e4 : (")" : Str) = pl [41] := by decide +kernel
  have key : ∀ d, isLow d = false → pl (c :: ds) ≠ pl [d] := fun d hd z => by
    have := pl_inj z
    cases this
    rw [hc] at hd
    cases hd
  rw [e1, e2, e3, e4]
  exact ⟨key 40 (by decide), key 92 (by decide), key 46 (by decide), key 41 (by decide)⟩
theorem step_nm {fs : List Str} {l : Lv} {r : List Lv} {w : List Nat} (h : IsNm w) (hl : l.nm = true) : stepT fs l r (pl w) = some ({ l with ns := l.ns ++ [pl w] }, r) := by
  obtain ⟨a, b, c, d⟩ := nm_ne h
  unfold stepT
  rw [if_neg (by simp [a, b]), if_neg c, if_neg d, if_pos hl]
theorem step_use {fs : List Str} {l : Lv} {r : List Lv} {w : List Nat} {k : Nat} (h : IsNm w) (hl : l.nm = false) (hk : numOf fs (scp (l :: r)) (pl w) = some k) : stepT fs l r (pl w) = some (l.add [V.int (k : Int)], r) := by
  obtain ⟨a, b, c, d⟩ := nm_ne h
  unfold stepT
  rw [if_neg (by simp [a, b]), if_neg c, if_neg d, if_neg (by rw [hl]; exact Bool.false_ne_true), hk]
theorem pl_lp : pl [40] = ("(" : Str) := by decide +kernel
theorem pl_bs : pl [92] = ("\\" : Str) := by decide +kernel
theorem pl_pd : pl [46] = ("." : Str) := by decide +kernel
theorem pl_rp : pl [41] = (")" : Str) := by decide +kernel
theorem step_lp {fs : List Str} {l : Lv} {r : List Lv} (hl : l.nm = false) (hr : r.length + 1 ≤ 60) : stepT fs l r (pl [40]) = some (Lv.new "(", l :: r) := by
  rw [pl_lp]
  unfold stepT
  rw [if_pos (.inl rfl), if_neg (by rw [hl]; simp; omega)]
theorem step_bs {fs : List Str} {l : Lv} {r : List Lv} (hl : l.nm = false) (hr : r.length + 1 ≤ 60) : stepT fs l r (pl [92]) = some (Lv.new "\\", l :: r) := by
  rw [pl_bs]
  unfold stepT
  rw [if_pos (.inr rfl), if_neg (by rw [hl]; simp; omega)]
theorem step_pd {fs : List Str} {l : Lv} {r : List Lv} (hl : l.nm = true) (hn : l.ns ≠ []) : stepT fs l r (pl [46]) = some ({ l with nm := false }, r) := by
  rw [pl_pd]
  unfold stepT
  rw [if_neg (by decide +kernel), if_pos rfl, if_neg (by rw [hl]; simp [hn])]
theorem step_rp {fs : List Str} {l p : Lv} {r r2 : List Lv} {c : Lv} (hl : l.whole = true) (hc : closeAbs l r = (c, p :: r2)) (ho : c.op = "(") : stepT fs l r (pl [41]) = some (p.add c.all, r2) := by
  rw [pl_rp]
  unfold stepT
  rw [if_neg (by decide +kernel), if_neg (by decide +kernel), if_pos rfl, if_neg (by rw [hl]; simp), hc, if_pos ho]
theorem run_names {fs : List Str} : ∀ {own : List (List Nat)} {l : Lv} {r : List Lv}, (∀ w ∈ own, IsNm w) → l.nm = true → runW fs l r own = some ({ l with ns := l.ns ++ own.map pl }, r)
  | [], l, r, _, _ => by simp [runW]
  | w :: own, l, r, h, hl => by
    rw [runW_cons (step_nm (h w List.mem_cons_self) hl), run_names (fun v hv => h v (List.mem_cons_of_mem _ hv)) (by exact hl)]
    simp
/-- what stands on a level, read: the nodes xs of n parts -/
def Ful (n : Nat) (xs : List V) (t : Tm) : Prop := 1 ≤ n ∧ List.replicate (n - 1) (V.str "app") ++ xs = t.enc
def Fresh (fs : List Str) (l : Lv) (r : List Lv) (ws : List (List Nat)) (t : Tm) : Prop := ∃ l' r' n xs, runW fs l r ws = some (l', r') ∧ l'.whole = true ∧ closeAbs l' r' = closeAbs { l with pt := n, nd := xs } r ∧ Ful n xs t
def Left (fs : List Str) (l : Lv) (r : List Lv) (ws : List (List Nat)) (t : Tm) : Prop := ∃ n xs, runW fs l r ws = some ({ l with pt := n, nd := xs }, r) ∧ Ful n xs t
def Add (fs : List Str) (l : Lv) (r : List Lv) (ws : List (List Nat)) (t : Tm) : Prop := runW fs l r ws = some (l.add t.enc, r)
def AddO (fs : List Str) (l : Lv) (r : List Lv) (ws : List (List Nat)) (t : Tm) : Prop := ∃ l' r', runW fs l r ws = some (l', r') ∧ l'.whole = true ∧ closeAbs l' r' = closeAbs (l.add t.enc) r
theorem whole_of {l : Lv} {n : Nat} {xs : List V} (hl : l.nm = false) (hn : 1 ≤ n) : ({ l with pt := n, nd := xs } : Lv).whole = true := by
  unfold Lv.whole
  simp only [hl, Bool.not_false, Bool.true_and]
  exact decide_eq_true hn
theorem wrapped {fs : List Str} {l : Lv} {r : List Lv} {ws : List (List Nat)} {t : Tm} (hl : l.nm = false) (hr : r.length + 1 ≤ 60) (h : Fresh fs (Lv.new "(") (l :: r) ws t) : Add fs l r (wrapW ws) t := by
  obtain ⟨l', r', n, xs, h1, h2, h3, h4, h5⟩ := h
  unfold Add wrapW
  rw [List.cons_append, runW_cons (step_lp hl hr), runW_app h1]
  have e : closeAbs { Lv.new "(" with pt := n, nd := xs } (l :: r) = ({ Lv.new "(" with pt := n, nd := xs }, l :: r) := by
    rw [closeAbs]
    exact if_neg (show ¬ ("(" : Str) = "\\" by decide +kernel)
  rw [e] at h3
  rw [runW_cons (step_rp h2 h3 rfl), runW]
  have ea : ({ Lv.new "(" with pt := n, nd := xs } : Lv).all = t.enc := by
    show List.replicate 0 (V.str "lam") ++ List.replicate (n - 1) (V.str "app") ++ xs = _
    rw [← h5]
    rfl
  rw [ea]
theorem add_left {fs : List Str} {l : Lv} {r : List Lv} {ws : List (List Nat)} {t : Tm} (hp : l.pt = 0) (hn : l.nd = []) (h : Add fs l r ws t) : Left fs l r ws t := by
  refine ⟨1, t.enc, ?_, Nat.le_refl 1, rfl⟩
  rw [h]
  unfold Lv.add
  rw [hp, hn]
  rfl
theorem left_fresh {fs : List Str} {l : Lv} {r : List Lv} {ws : List (List Nat)} {t : Tm} (hl : l.nm = false) (h : Left fs l r ws t) : Fresh fs l r ws t := by
  obtain ⟨n, xs, h1, h2⟩ := h
  exact ⟨_, _, n, xs, h1, whole_of hl h2.1, rfl, h2⟩
theorem addo_fresh {fs : List Str} {l : Lv} {r : List Lv} {ws : List (List Nat)} {t : Tm} (hp : l.pt = 0) (hn : l.nd = []) (h : AddO fs l r ws t) : Fresh fs l r ws t := by
  obtain ⟨l', r', h1, h2, h3⟩ := h
  refine ⟨l', r', 1, t.enc, h1, h2, ?_, Nat.le_refl 1, rfl⟩
  rw [h3]
  unfold Lv.add
  rw [hp, hn]
  rfl
theorem ful_app {n : Nat} {xs : List V} {f a : Tm} (h : Ful n xs f) : Ful (n + 1) (xs ++ a.enc) (.app f a) := by
  obtain ⟨h1, h2⟩ := h
  refine ⟨by omega, ?_⟩
  rw [Tm.enc, ← h2, show n + 1 - 1 = (n - 1) + 1 by omega, List.replicate_succ]
  simp
theorem Mk.read {fs sc D ws t kd} (h : Mk fs sc D ws t kd) : ∀ (l : Lv) (r : List Lv), l.nm = false → scp (l :: r) = sc.map pl → r.length + 1 + 2 * D ≤ 59 →
    (kd = .part → Add (fs.map pl) l r ws t) ∧ (kd = .abs → AddO (fs.map pl) l r ws t) ∧ (l.pt = 0 → l.nd = [] → (kd = .part ∨ kd = .row → Left (fs.map pl) l r ws t) ∧ Fresh (fs.map pl) l r ws t) := by
  induction h with
  | @name sc D w k hw hk =>
    intro l r hl hs hr
    have hA : Add (fs.map pl) l r [w] (.var k) := by
      unfold Add
      rw [runW_cons (step_use hw hl (by rw [hs]; exact hk)), runW]
      rfl
    refine ⟨fun _ => hA, (fun z => nomatch z), fun hp hn => ⟨fun _ => add_left hp hn hA, left_fresh hl (add_left hp hn hA)⟩⟩
  | @abs sc D own ws t kd h1 h2 h3 h4 ih =>
    intro l r hl hs hr
    have hO : AddO (fs.map pl) l r ([92] :: (own ++ [46] :: ws)) (Tm.lamN own.length t) := by
      obtain ⟨_, _, hf⟩ := ih ⟨"\\", false, own.map pl, 0, []⟩ (l :: r) rfl (by
        show scp (l :: r) ++ own.map pl = _
        rw [hs, List.map_append]) (by simp only [List.length_cons]; omega)
      obtain ⟨_, l', r', n, xs, g1, g2, g3, g4, g5⟩ := hf rfl rfl
      refine ⟨l', r', ?_, g2, ?_⟩
      · rw [runW_cons (step_bs hl (by omega)), runW_app (run_names h3 (by show decide (("\\" : Str) = "\\") = true; exact decide_eq_true rfl)), runW_cons (step_pd (by show decide (("\\" : Str) = "\\") = true; exact decide_eq_true rfl) (by
          show [] ++ own.map pl ≠ []
          simpa using h1))]
        exact g1
      · rw [g3, closeAbs, if_pos rfl]
        have ea : ({ op := "\\", nm := false, ns := own.map pl, pt := n, nd := xs } : Lv).all = (Tm.lamN own.length t).enc := by
          show List.replicate (own.map pl).length (V.str "lam") ++ List.replicate (n - 1) (V.str "app") ++ xs = _
          rw [Tm.enc_lamN, ← g5, List.length_map, List.flatten_replicate_singleton, List.append_assoc]
        rw [ea]
    exact ⟨(fun z => nomatch z), fun _ => hO, fun hp hn => ⟨fun z => (by rcases z with z | z <;> cases z), addo_fresh hp hn hO⟩⟩
  | @app sc D l0 r0 L R f a k1 k2 kd h1 h2 hL hR ih1 ih2 =>
    intro l r hl hs hr
    have hlen : ∀ x : Lv, (x :: r).length + 1 + 2 * D ≤ 59 := fun x => by simp only [List.length_cons]; omega
    have hleft : l.pt = 0 → l.nd = [] → Left (fs.map pl) l r L f := by
      intro hp hn
      rcases hL with rfl | ⟨rfl, hk⟩
      · refine add_left hp hn (wrapped hl (by omega) ?_)
        have hs2 : scp (Lv.new "(" :: l :: r) = sc.map pl := by
          show scp (l :: r) ++ [] = _
          rw [List.append_nil, hs]
        exact ((ih1 (Lv.new "(") (l :: r) (by decide +kernel) hs2 (hlen l)).2.2 rfl rfl).2
      · exact ((ih1 l r hl hs (by omega)).2.2 hp hn).1 hk
    have hrest : ∀ n xs, (kd = .row → Add (fs.map pl) { l with pt := n, nd := xs } r R a) ∧ (kd = .opn → AddO (fs.map pl) { l with pt := n, nd := xs } r R a) := by
      intro n xs
      have hs3 : scp ({ l with pt := n, nd := xs } :: r) = sc.map pl := hs
      rcases hR with ⟨rfl, rfl⟩ | ⟨rfl, rfl, rfl⟩ | ⟨rfl, rfl, rfl⟩
      · refine ⟨fun _ => wrapped hl (by omega) ?_, (fun z => nomatch z)⟩
        have hs2 : scp (Lv.new "(" :: { l with pt := n, nd := xs } :: r) = sc.map pl := by
          show scp ({ l with pt := n, nd := xs } :: r) ++ [] = _
          rw [List.append_nil, hs3]
        exact ((ih2 (Lv.new "(") ({ l with pt := n, nd := xs } :: r) (by decide +kernel) hs2 (hlen _)).2.2 rfl rfl).2
      · exact ⟨fun _ => (ih2 { l with pt := n, nd := xs } r hl hs3 (by omega)).1 rfl, (fun z => nomatch z)⟩
      · exact ⟨(fun z => nomatch z), fun _ => (ih2 { l with pt := n, nd := xs } r hl hs3 (by omega)).2.1 rfl⟩
    have hkd : kd = .row ∨ kd = .opn := by
      rcases hR with ⟨_, rfl⟩ | ⟨_, _, rfl⟩ | ⟨_, _, rfl⟩
      · exact .inl rfl
      · exact .inl rfl
      · exact .inr rfl
    refine ⟨fun z => ?_, fun z => ?_, fun hp hn => ?_⟩
    · rcases hkd with e | e <;> rw [e] at z <;> cases z
    · rcases hkd with e | e <;> rw [e] at z <;> cases z
    · obtain ⟨n, xs, g1, g2⟩ := hleft hp hn
      obtain ⟨q1, q2⟩ := hrest n xs
      rcases hkd with rfl | rfl
      · have hq := q1 rfl
        have hLf : Left (fs.map pl) l r (L ++ R) (.app f a) := by
          refine ⟨n + 1, xs ++ a.enc, ?_, ful_app g2⟩
          rw [runW_app g1]
          exact hq
        exact ⟨fun _ => hLf, left_fresh hl hLf⟩
      · obtain ⟨l', r', p1, p2, p3⟩ := q2 rfl
        refine ⟨fun z => (by rcases z with z | z <;> cases z), l', r', n + 1, xs ++ a.enc, ?_, p2, p3, ful_app g2⟩
        rw [runW_app g1]
        exact p1
/-- the whole, with parentheses around it or without -/
theorem Mk.whole {fs D ws t kd} (h : Mk fs [] D ws t kd) (hD : D ≤ 20) : (∃ l r, runW (fs.map pl) (Lv.new "") [] ws = some (l, r) ∧ finT l r = some t.enc) ∧ (∃ l r, runW (fs.map pl) (Lv.new "") [] (wrapW ws) = some (l, r) ∧ finT l r = some t.enc) := by
  have e0 : (Lv.new "").nm = false := by decide +kernel
  constructor
  · obtain ⟨l', r', n, xs, g1, g2, g3, g4, g5⟩ := ((h.read (Lv.new "") [] e0 rfl (by simp only [List.length_nil]; omega)).2.2 rfl rfl).2
    refine ⟨l', r', g1, ?_⟩
    unfold finT
    rw [if_neg (by rw [g2]; simp), g3]
    show some ({ Lv.new "" with pt := n, nd := xs } : Lv).all = _
    have ea : ({ Lv.new "" with pt := n, nd := xs } : Lv).all = t.enc := by
      show List.replicate 0 (V.str "lam") ++ List.replicate (n - 1) (V.str "app") ++ xs = _
      rw [← g5]
      rfl
    rw [ea]
  · have hf := ((h.read (Lv.new "(") [Lv.new ""] (by decide +kernel) rfl (by simp only [List.length_cons, List.length_nil]; omega)).2.2 rfl rfl).2
    have ha := wrapped e0 (by simp) hf
    refine ⟨_, _, ha, ?_⟩
    unfold finT
    rw [if_neg (by
      show ¬ (({ Lv.new "" with pt := 1, nd := t.enc } : Lv).whole = false)
      rw [whole_of e0 (Nat.le_refl 1)]
      simp)]
    show some ((Lv.new "").add t.enc).all = _
    rfl
/-! ### the text of words -/
def IsTok (w : List Nat) : Prop := IsNm w ∨ w = [40] ∨ w = [41] ∨ w = [92] ∨ w = [46]
theorem tok_head {w : List Nat} (h : IsTok w) : ∃ c ds, w = c :: ds ∧ c ≠ 32 ∧ isDig c = false := by
  rcases h with h | rfl | rfl | rfl | rfl
  · obtain ⟨c, ds, rfl, hc, _⟩ := h.ex
    refine ⟨c, ds, rfl, fun z => ?_, ?_⟩
    · rw [z] at hc
      exact absurd hc (by decide)
    · have := of_decide_eq_true hc
      exact decide_eq_false (by omega)
  · exact ⟨_, _, rfl, by decide, by decide⟩
  · exact ⟨_, _, rfl, by decide, by decide⟩
  · exact ⟨_, _, rfl, by decide, by decide⟩
  · exact ⟨_, _, rfl, by decide, by decide⟩
def rend : List Nat → List (List Nat) → List Nat
  | g :: gs, w :: ws => List.replicate g 32 ++ w ++ rend gs ws
  | _, _ => []
theorem rend_snoc : ∀ {gs : List Nat} {ws : List (List Nat)} (g : Nat) (w : List Nat), gs.length = ws.length → rend (gs ++ [g]) (ws ++ [w]) = rend gs ws ++ List.replicate g 32 ++ w
  | [], [], g, w, _ => by simp [rend]
  | [], _ :: _, g, w, h => by cases h
  | _ :: _, [], g, w, h => by cases h
  | a :: gs, v :: ws, g, w, h => by
    have ih := rend_snoc (gs := gs) (ws := ws) g w (by simpa using h)
    simp only [List.cons_append, rend, ih, List.append_assoc]
theorem rend_nodig {b : Nat} : ∀ {gs : List Nat} {ws : List (List Nat)}, (∀ w ∈ ws, IsTok w) → (rend gs ws ++ List.replicate b 32).takeWhile isDig = [] := by
  have sp : ∀ (b : Nat) (xs : List Nat), xs.takeWhile isDig = [] → (List.replicate b 32 ++ xs).takeWhile isDig = [] := by
    intro b xs h
    cases b with
    | zero => exact h
    | succ b => rfl
  intro gs ws h
  match gs, ws, h with
  | g :: gs, w :: ws, h =>
    obtain ⟨c, ds, rfl, _, hc⟩ := tok_head (h w List.mem_cons_self)
    rw [rend, List.append_assoc, List.append_assoc]
    refine sp g _ ?_
    rw [List.cons_append, List.takeWhile_cons, hc]
    rfl
  | [], ws, _ =>
    rw [show rend [] ws = [] by cases ws <;> rfl, List.nil_append]
    have := sp b [] rfl
    rwa [List.append_nil] at this
  | g :: gs, [], _ =>
    rw [show rend (g :: gs) [] = [] from rfl, List.nil_append]
    have := sp b [] rfl
    rwa [List.append_nil] at this
theorem readT_sp {fs : List Str} {l : Lv} {r : List Lv} : ∀ (g n i : Nat) (cs : List Nat), g ≤ n → readT fs n l r i (List.replicate g 32 ++ cs) = readT fs (n - g) l r (i + g) cs
  | 0, n, i, cs, _ => rfl
  | g + 1, 0, i, cs, h => absurd h (by omega)
  | g + 1, n + 1, i, cs, h => by
    rw [List.replicate_succ, List.cons_append, readT, if_pos rfl, readT_sp g n (i + 1) cs (by omega), show n + 1 - (g + 1) = n - g by omega, show i + 1 + g = i + (g + 1) by omega]
theorem readT_nil2 (fs : List Str) (n : Nat) (l : Lv) (r : List Lv) (i : Nat) : readT fs n l r i [] = .ok (l, r) := by cases n <;> rfl
theorem readT_end {fs : List Str} {l : Lv} {r : List Lv} (b n i : Nat) (h : b ≤ n) : readT fs n l r i (List.replicate b 32) = .ok (l, r) := by
  have := readT_sp (fs := fs) (l := l) (r := r) b n i [] h
  rw [List.append_nil] at this
  rw [this, readT_nil2]
theorem tok_len {w rest : List Nat} (h : IsTok w) (hr : rest.takeWhile isDig = []) : tokL (w ++ rest) = .inl w.length := by
  rcases h with h | rfl | rfl | rfl | rfl
  · obtain ⟨c, ds, rfl, hc, hd, hl⟩ := h.ex
    have e : (ds ++ rest).takeWhile isDig = ds := by
      rw [List.takeWhile_append_of_pos (fun x hx => List.all_eq_true.mp hd x hx), hr, List.append_nil]
    show (if isLow c = true then (if 10 ≤ ((ds ++ rest).takeWhile isDig).length then Sum.inr 10 else .inl (1 + ((ds ++ rest).takeWhile isDig).length)) else _) = _
    rw [if_pos hc, e, if_neg (by omega), List.length_cons, Nat.add_comm]
  all_goals rfl
theorem readT_rend {fs : List Str} {b : Nat} : ∀ {ws : List (List Nat)} {gs : List Nat} {l l' : Lv} {r r' : List Lv} {i n : Nat}, (∀ w ∈ ws, IsTok w) → gs.length = ws.length → runW fs l r ws = some (l', r') → (rend gs ws ++ List.replicate b 32).length ≤ n →
    readT fs n l r i (rend gs ws ++ List.replicate b 32) = .ok (l', r')
  | [], [], l, l', r, r', i, n, _, _, h, hn => by
    cases h
    exact readT_end b n i (by simpa [rend] using hn)
  | [], _ :: _, _, _, _, _, _, _, _, h, _, _ => by cases h
  | _ :: _, [], _, _, _, _, _, _, _, h, _, _ => by cases h
  | w :: ws, g :: gs, l, l', r, r', i, n, ht, hg, h, hn => by
    obtain ⟨c, ds, hw, hc, _⟩ := tok_head (ht w List.mem_cons_self)
    have ht2 : ∀ v ∈ ws, IsTok v := fun v hv => ht v (List.mem_cons_of_mem _ hv)
    have hnd := rend_nodig (b := b) (gs := gs) ht2
    rw [runW] at h
    cases e : stepT fs l r (pl w) with
    | none => rw [e] at h; cases h
    | some x =>
      rw [e] at h
      rw [rend, List.append_assoc, List.append_assoc] at hn ⊢
      simp only [List.length_append, List.length_replicate] at hn
      rw [readT_sp g n i _ (by omega)]
      have htl := tok_len (ht w List.mem_cons_self) hnd
      have hwl : w.length = ds.length + 1 := by rw [hw]; rfl
      obtain ⟨m, hm⟩ : ∃ m, n - g = m + 1 := ⟨n - g - 1, by omega⟩
      have e1 : (w ++ (rend gs ws ++ List.replicate b 32)).take w.length = w := List.take_left ..
      have e2 : (w ++ (rend gs ws ++ List.replicate b 32)).drop w.length = rend gs ws ++ List.replicate b 32 := List.drop_left ..
      generalize hR : rend gs ws ++ List.replicate b 32 = R at *
      have e3 : w ++ R = c :: (ds ++ R) := by rw [hw]; rfl
      rw [e3] at htl e1 e2 ⊢
      rw [hm, readT, if_neg hc, htl]
      show (match stepT fs l r (pl ((c :: (ds ++ R)).take w.length)) with
        | none => Except.error (i + g)
        | some (l', r') => readT fs m l' r' (i + g + w.length) ((c :: (ds ++ R)).drop w.length)) = _
      rw [e1, e2, e]
      show readT fs m x.1 x.2 _ R = _
      rw [← hR]
      refine readT_rend ht2 (by simpa using hg) h ?_
      have hRl := congrArg List.length hR
      simp only [List.length_append, List.length_replicate] at hRl hn ⊢
      omega
theorem Mk.toks {fs sc D ws t kd} (h : Mk fs sc D ws t kd) : ∀ w ∈ ws, IsTok w := by
  have wr : ∀ {l : List (List Nat)}, (∀ w ∈ l, IsTok w) → ∀ w ∈ wrapW l, IsTok w := by
    intro l hl w hw
    simp only [wrapW, List.cons_append, List.mem_cons, List.mem_append, List.not_mem_nil, or_false] at hw
    rcases hw with rfl | hw | rfl
    · exact .inr (.inl rfl)
    · exact hl w hw
    · exact .inr (.inr (.inl rfl))
  induction h with
  | name hn _ =>
    intro w hw
    rw [List.mem_singleton.mp hw]
    exact .inl hn
  | abs h1 h2 h3 h4 ih =>
    intro w hw
    simp only [List.mem_cons, List.mem_append] at hw
    rcases hw with rfl | hw | rfl | hw
    · exact .inr (.inr (.inr (.inl rfl)))
    · exact .inl (h3 w hw)
    · exact .inr (.inr (.inr (.inr rfl)))
    · exact ih w hw
  | app h1 h2 hl hr ih1 ih2 =>
    intro w hw
    rcases List.mem_append.mp hw with hw | hw
    · rcases hl with rfl | ⟨rfl, _⟩
      · exact wr ih1 w hw
      · exact ih1 w hw
    · rcases hr with ⟨rfl, _⟩ | ⟨rfl, _⟩ | ⟨rfl, _⟩
      · exact wr ih2 w hw
      · exact ih2 w hw
      · exact ih2 w hw
theorem wrap_toks {l : List (List Nat)} (hl : ∀ w ∈ l, IsTok w) : ∀ w ∈ wrapW l, IsTok w := by
  intro w hw
  simp only [wrapW, List.cons_append, List.mem_cons, List.mem_append, List.not_mem_nil, or_false] at hw
  rcases hw with rfl | hw | rfl
  · exact .inr (.inl rfl)
  · exact hl w hw
  · exact .inr (.inr (.inl rfl))
/-- the whole text is read -/
theorem Mk.parse {fs D ws t kd} (h : Mk fs [] D ws t kd) (hD : D ≤ 20) {W : List (List Nat)} (hW : W = ws ∨ W = wrapW ws) {gs : List Nat} (hg : gs.length = W.length) (a b : Nat) :
    parseT (fs.map pl) (List.replicate a 32 ++ (rend gs W ++ List.replicate b 32)) = .ok t.enc := by
  have hw := h.whole hD
  have key : ∀ W : List (List Nat), (∀ w ∈ W, IsTok w) → gs.length = W.length → (∃ l r, runW (fs.map pl) (Lv.new "") [] W = some (l, r) ∧ finT l r = some t.enc) → parseT (fs.map pl) (List.replicate a 32 ++ (rend gs W ++ List.replicate b 32)) = .ok t.enc := by
    rintro W hT hg ⟨l, r, h1, h2⟩
    unfold parseT
    rw [readT_sp a _ 0 _ (by simp), readT_rend hT hg h1 (by simp)]
    show (match finT l r with | none => _ | some xs => Except.ok xs) = _
    rw [h2]
  rcases hW with rfl | rfl
  · exact key _ h.toks hg hw.1
  · exact key _ (wrap_toks h.toks) hg hw.2
end Ly
set_option Elab.async false
set_option linter.all false
set_option maxRecDepth 100000
/-! Ly: terms applied to the terms of a list; abstractions around -/
namespace Ly
open PySem PySem.Spec PyProof.Rows L2 Evl
def Tm.apps : Tm → List Tm → Tm
  | h, [] => h
  | h, t :: ts => Tm.apps (.app h t) ts
theorem rep_snoc {α : Type} (n : Nat) (x : α) (r : List α) : List.replicate n x ++ x :: r = List.replicate (n + 1) x ++ r := by
  induction n with
  | zero => rfl
  | succ n ih =>
    rw [List.replicate_succ, List.cons_append, ih]
    simp [List.replicate_succ]
theorem Tm.apps_enc : ∀ (ts : List Tm) (h : Tm), (Tm.apps h ts).enc = List.replicate ts.length (V.str "app") ++ (h.enc ++ encs ts)
  | [], h => by simp [Tm.apps, encs]
  | t :: ts, h => by
    show (Tm.apps (.app h t) ts).enc = _
    rw [Tm.apps_enc ts, encs_cons]
    show List.replicate ts.length (V.str "app") ++ (V.str "app" :: (h.enc ++ t.enc) ++ encs ts) = _
    rw [List.cons_append, rep_snoc]
    simp
theorem Tm.apps_snoc : ∀ (ts : List Tm) (h t : Tm), Tm.apps h (ts ++ [t]) = .app (Tm.apps h ts) t
  | [], h, t => rfl
  | x :: ts, h, t => Tm.apps_snoc ts (.app h x) t
theorem rep_flat {x : V} : ∀ n : Nat, (List.replicate n [x]).flatten = List.replicate n x
  | 0 => rfl
  | n + 1 => by rw [List.replicate_succ, List.flatten_cons, rep_flat n, List.replicate_succ]; rfl
theorem Tm.lam_enc (n : Nat) (t : Tm) : (Tm.lamN n t).enc = List.replicate n (V.str "lam") ++ t.enc := by rw [Tm.enc_lamN, rep_flat]
theorem encs_app (ts us : List Tm) : encs (ts ++ us) = encs ts ++ encs us := by simp [encs]
theorem encs_one (t : Tm) : encs [t] = t.enc := by simp [encs]
theorem encs_take {ts : List Tm} {i : Nat} {t : Tm} (h : ts[i]? = some t) : encs (ts.take (i + 1)) = encs (ts.take i) ++ t.enc := by
  rw [List.take_add_one, h]
  simp [encs]
theorem encs_pos : ∀ ts : List Tm, ts.length ≤ (encs ts).length
  | [] => by simp
  | t :: ts => by
    have h1 := encs_pos ts
    have h2 := List.length_pos_iff.mpr t.enc_ne
    rw [encs_cons, List.length_append, List.length_cons]
    omega
theorem encs_take_le (ts : List Tm) (i : Nat) : (encs (ts.take i)).length ≤ (encs ts).length := by
  have : encs ts = encs (ts.take i) ++ encs (ts.drop i) := by rw [← encs_app, List.take_append_drop]
  rw [this, List.length_append]
  omega
theorem encs_vars (f : Nat → Nat) (c : Nat) : encs ((List.range c).map fun k => Tm.var (f k)) = (List.range c).map fun k => V.int ((f k : Nat) : Int) := by
  unfold encs
  rw [List.map_map]
  induction c with
  | zero => rfl
  | succ c ih =>
    rw [List.range_succ, List.map_append, List.flatten_append, ih, List.map_append]
    simp [Tm.enc]
theorem w_neAt0 {K : PySem.W.Frag} {H : Hp} {Q : VK} (q : Q (.bl false) H) : rNeD K .non .non H Q := ⟨.none, .none, .non, .non, by decide, by decide, q⟩
theorem w_eqAt0 {K : PySem.W.Frag} {H : Hp} {Q : VK} (q : Q (.bl true) H) : rEqD K .non .non H Q := ⟨.none, .none, .non, .non, by decide, by decide, q⟩
section
variable {K : PySem.W.Frag} {H : Hp} {Q : VK} {l : Addr} {xs : List V}
theorem w_repL {k : Int} (h : H l = some (.lst xs)) (h1 : -(2 ^ 63) ≤ k) (h2 : k < 2 ^ 63) (z : xs.length * k.toNat ≤ sizeLine) (q : ∀ p, H p = none → Q (.ref p) (upd H p (.lst (List.replicate k.toNat xs).flatten))) : rRep (.ref l) (.int k) H Q := ⟨l, k, xs, rfl, rfl, h, h1, h2, z, q⟩
theorem sq_upd {a : Addr} {ys zs : List V} (h : H l = some (.lst ys)) (s : SqT K H a xs) : SqT K (upd H l (.lst zs)) a xs := by
  rcases s with (s | ⟨ob, s⟩) | s
  · exact .inl (.inl (by rw [upd_ne (fun z => by rw [z, h] at s; cases s)]; exact s))
  · exact .inl (.inr ⟨ob, by rw [upd_ne (fun z => by rw [z, h] at s; cases s)]; exact s⟩)
  · exact .inr s
theorem w_allB {bs : List Bool} (h : SqL K H l (bs.map V.bl)) (q : Q (.bl (bs.all id)) H) : rAll K [.ref l] H Q := ⟨l, bs, rfl, h, q⟩
end
end Ly
set_option Elab.async false
set_option linter.all false
set_option maxRecDepth 100000
/-! Ly: heads of terms -/
namespace Ly
open PySem PySem.Spec PyProof.Rows L2 Evl
/-- n abstractions around the head h applied to the terms as -/
def SpineOf (t : Tm) (n : Nat) (h : Tm) (as : List Tm) : Prop := t = Tm.lamN n (Tm.apps h as) ∧ (∀ f a, h ≠ .app f a) ∧ (as = [] → ∀ b, h ≠ .lam b)
theorem apps_ex : ∀ t : Tm, ∃ h as, t = Tm.apps h as ∧ ∀ f a, h ≠ .app f a
  | .var n => ⟨.var n, [], rfl, (fun _ _ z => nomatch z)⟩
  | .lam b => ⟨.lam b, [], rfl, (fun _ _ z => nomatch z)⟩
  | .app f a => by
    obtain ⟨h, as, e, hh⟩ := apps_ex f
    exact ⟨h, as ++ [a], by rw [Tm.apps_snoc, ← e], hh⟩
theorem spine_ex : ∀ t : Tm, ∃ n h as, SpineOf t n h as
  | .var n => ⟨0, .var n, [], rfl, (fun _ _ z => nomatch z), (fun _ _ z => nomatch z)⟩
  | .lam b => by
    obtain ⟨n, h, as, e, h1, h2⟩ := spine_ex b
    exact ⟨n + 1, h, as, by rw [e]; rfl, h1, h2⟩
  | .app f a => by
    obtain ⟨h, as, e, h1⟩ := apps_ex (.app f a)
    refine ⟨0, h, as, e, h1, fun z b => ?_⟩
    subst z
    exact fun y => by
      rw [y] at e
      cases e
section
variable {t h : Tm} {n : Nat} {as : List Tm}
theorem SpineOf.enc (s : SpineOf t n h as) : t.enc = List.replicate n (V.str "lam") ++ (List.replicate as.length (V.str "app") ++ (h.enc ++ encs as)) := by
  rw [s.1, Tm.lam_enc, Tm.apps_enc]
theorem SpineOf.len (s : SpineOf t n h as) : t.enc.length = n + as.length + h.enc.length + (encs as).length := by
  rw [s.enc]
  simp
  omega
theorem SpineOf.at1 (s : SpineOf t n h as) {j : Nat} (hj : j < n) : t.enc[j]? = some (.str "lam") := by
  rw [s.enc, List.getElem?_append_left (by simpa using hj), List.getElem?_replicate, if_pos hj]
theorem SpineOf.at2 (s : SpineOf t n h as) {j : Nat} (h1 : n ≤ j) (h2 : j < n + as.length) : t.enc[j]? = some (.str "app") := by
  rw [s.enc, List.getElem?_append_right (by simpa using h1), List.length_replicate, List.getElem?_append_left (by simp; omega), List.getElem?_replicate, if_pos (by omega)]
theorem SpineOf.drop (s : SpineOf t n h as) : t.enc.drop (n + as.length) = h.enc ++ encs as := by
  rw [s.enc, ← List.append_assoc]
  have e : n + as.length = (List.replicate n (V.str "lam") ++ List.replicate as.length (V.str "app")).length := by simp
  rw [e, List.drop_left]
/-- what stands at the head -/
theorem SpineOf.at3 (s : SpineOf t n h as) : ∃ v, t.enc[n + as.length]? = some v ∧ ((∃ m, h = .var m ∧ v = .int (m : Int)) ∨ (∃ b, h = .lam b ∧ v = .str "lam" ∧ as ≠ [])) := by
  have hd := s.drop
  cases h with
  | var m =>
    have g := drop_get (i := n + as.length) (v := .int (m : Int)) (r := encs as) (by rw [hd]; rfl)
    exact ⟨_, g.1, .inl ⟨m, rfl, rfl⟩⟩
  | lam b =>
    have g := drop_get (i := n + as.length) (v := .str "lam") (r := b.enc ++ encs as) (by rw [hd]; rfl)
    exact ⟨_, g.1, .inr ⟨b, rfl, rfl, fun z => s.2.2 z b rfl⟩⟩
  | app f a => exact absurd rfl (s.2.1 f a)
theorem SpineOf.at0 (s : SpineOf t n h as) : ∃ v, t.enc[n]? = some v ∧ (v = .str "app" ∨ ∃ m : Nat, v = .int (m : Int)) := by
  by_cases c : as = []
  · obtain ⟨v, h1, h2⟩ := s.at3
    rw [c] at h1
    refine ⟨v, h1, ?_⟩
    rcases h2 with ⟨m, _, e⟩ | ⟨b, _, _, z⟩
    · exact .inr ⟨m, e⟩
    · exact absurd c z
  · exact ⟨_, s.at2 (Nat.le_refl _) (by have := List.length_pos_iff.mpr c; omega), .inl rfl⟩
theorem SpineOf.arg (s : SpineOf t n h as) {m i : Nat} (hm : h = .var m) {u : Tm} (hu : as[i]? = some u) : t.enc.drop (n + as.length + 1 + (encs (as.take i)).length) = u.enc ++ encs (as.drop (i + 1)) := by
  have hd := s.drop
  rw [hm] at hd
  rw [Nat.add_assoc (n + as.length), ← List.drop_drop, hd]
  show ((V.int (m : Int)) :: encs as).drop (1 + (encs (as.take i)).length) = _
  rw [Nat.add_comm, List.drop_succ_cons]
  have e : encs as = encs (as.take i) ++ (u.enc ++ encs (as.drop (i + 1))) := by
    have e1 : as = as.take i ++ u :: as.drop (i + 1) := by
      rw [← drop_at hu, List.take_append_drop]
    conv => lhs; rw [e1]
    rw [encs_app, encs_cons]
  rw [e, List.drop_left]
theorem SpineOf.argG (s : SpineOf t n h as) {i : Nat} {u : Tm} (hu : as[i]? = some u) : t.enc.drop (n + as.length + h.enc.length + (encs (as.take i)).length) = u.enc ++ encs (as.drop (i + 1)) := by
  have hd := s.drop
  rw [Nat.add_assoc (n + as.length), ← List.drop_drop, hd, ← List.drop_drop, List.drop_left]
  have e : encs as = encs (as.take i) ++ (u.enc ++ encs (as.drop (i + 1))) := by
    have e1 : as = as.take i ++ u :: as.drop (i + 1) := by
      rw [← drop_at hu, List.take_append_drop]
    conv => lhs; rw [e1]
    rw [encs_app, encs_cons]
  rw [e, List.drop_left]
end
/-- a head as data: two numbers and a list of terms -/
def headD (n v : Int) (as : List Tm) : PyData := .tuple [.int n, .int v, .list (as.map tmd)]
theorem headD_shaped (n v : Int) (as : List Tm) : SeqAt.shaped (headD n v as) = true := by
  have h1 : (headD n v as).canLay0 = true := by
    show (true && (true && (PyData.canLayAll0 (as.map tmd) && true))) = true
    rw [lay_tms]
    rfl
  have h2 : (headD n v as).depth ≤ 4 := by
    have h := depth_tms as
    simp only [headD, PyData.depth, PyData.depthAll]
    omega
  unfold SeqAt.shaped
  rw [h1, Bool.true_and]
  exact decide_eq_true (by omega)
theorem headD_eqv (n v : Int) (as : List Tm) : PyData.eqv (headD n v as) (headD n v as) = true := by
  have h := eqv_tms as
  simp [headD, PyData.eqv, PyData.eqvAll, h]
section
variable {K : PySem.W.Frag} {H : Hp} {Q : VK} {p q l m : Addr} {n v : Int} {bs cs : List Addr} {as : List Tm}
theorem headD_dp (h : SqT K H p [.int n, .int v, .ref l]) (hl : H l = some (.lst (refs bs))) (ht : Ts K H bs as) : Dp K H (.ref p) (headD n v as) := .tup h (.cons (.int n) (.cons (.int v) (.cons (.lst (SqL.of hl) ht.dp) .nil)))
theorem w_neHd (h : SqT K H p [.int n, .int v, .ref l]) (hl : H l = some (.lst (refs bs))) (ht : Ts K H bs as) (k : SqT K H q [.int n, .int v, .ref m]) (kl : H m = some (.lst (refs cs))) (kt : Ts K H cs as) (qq : Q (.bl false) H) : rNeD K (.ref p) (.ref q) H Q :=
  ⟨_, _, headD_dp h hl ht, headD_dp k kl kt, headD_shaped _ _ _, headD_shaped _ _ _, by rw [headD_eqv]; exact qq⟩
theorem w_eqHd (h : SqT K H p [.int n, .int v, .ref l]) (hl : H l = some (.lst (refs bs))) (ht : Ts K H bs as) (k : SqT K H q [.int n, .int v, .ref m]) (kl : H m = some (.lst (refs cs))) (kt : Ts K H cs as) (qq : Q (.bl true) H) : rEqD K (.ref p) (.ref q) H Q :=
  ⟨_, _, headD_dp h hl ht, headD_dp k kl kt, headD_shaped _ _ _, headD_shaped _ _ _, by rw [headD_eqv]; exact qq⟩
theorem w_neTs (h : H p = some (.lst (refs bs))) (k : H q = some (.lst (refs cs))) (ht : Ts K H bs as) (kt : Ts K H cs as) (qq : Q (.bl false) H) : rNeD K (.ref p) (.ref q) H Q :=
  ⟨_, _, .lst (SqL.of h) ht.dp, .lst (SqL.of k) kt.dp, shaped_tms as, shaped_tms as, by rw [PyData.eqv, eqv_tms]; exact qq⟩
theorem w_sum {ns : List Int} (h : SqL K H p (ns.map V.int)) (q : Q (.int ns.sum) H) : rSum K [.ref p] H Q := ⟨p, ns, rfl, h, q⟩
end
theorem fits_part {xs ys post : List V} {i : Nat} (h : fitsV xs = true) (hd : xs.drop i = ys ++ post) : fitsV ys = true := by
  have hl := congrArg List.length hd
  rw [List.length_drop, List.length_append] at hl
  simp only [fitsV, Bool.and_eq_true, decide_eq_true_eq, List.all_eq_true] at h ⊢
  refine ⟨by omega, fun x hx => h.2 x ?_⟩
  exact List.mem_of_mem_drop (i := i) (by rw [hd]; exact List.mem_append_left _ hx)
end Ly
set_option Elab.async false
set_option linter.all false
set_option maxRecDepth 100000
set_option maxHeartbeats 2000000
/-! Ly: steps at the head redex; a letter so many times -/
namespace Ly
open PySem PySem.Spec PyProof.Rows L2 Evl
theorem fold_rep {α : Type} (c : α) : ∀ (k : Nat) (xs : List α), (List.replicate k #[c]).foldl (· ++ ·) xs.toArray = (xs ++ List.replicate k c).toArray
  | 0, xs => by simp
  | k + 1, xs => by
    rw [List.replicate_succ, List.foldl_cons]
    have e : xs.toArray ++ #[c] = (xs ++ [c]).toArray := by simp
    rw [e, fold_rep c k (xs ++ [c]), List.replicate_succ]
    simp
def rRepC : R2 := fun x y H Q => ∃ (c k : Nat), x = .str (pl [c]) ∧ y = .int (k : Int) ∧ k ≤ 3000000 ∧ Q (.str (pl (List.replicate k c))) H
theorem op_repC {X : Cx} : OpR X (binaryOp .Mult) rRepC := by
  intro pins s σ H x y v u Q I rx ry ⟨c, k, ex, ey, hk, q⟩
  subst ex ey
  obtain ⟨t1, e1⟩ := rx
  obtain ⟨t2, e2⟩ := ry
  subst e1 e2
  have sl := sizeLine_eq
  have hl1 : (pl [c]).length = 1 := by simp [pl, Str.length]
  refine PySem.P.mul_str (by simp; omega) (fun h1 _ => ?_) (fun h1 _ => ?_) ?_
  · rw [hl1]
    have h2 : (1 : Int) ≤ (2 ^ 63 - 1) / (k : Int) := (Int.le_ediv_iff_mul_le (by omega)).mpr (by omega)
    omega
  · rw [hl1]
    exact decide_eq_false (by omega)
  · by_cases h0 : (k : Int) < 1
    · rw [if_pos h0]
      have e : k = 0 := by omega
      subst e
      exact ⟨by simp [Str.empty, Str.length], .str (pl []), H, I.tok _, ⟨_, rfl⟩, q⟩
    · rw [if_neg h0]
      by_cases h1 : k = 1
      · subst h1
        rw [if_pos (by simp)]
        exact ⟨.str (pl [c]), H, I, ⟨_, rfl⟩, q⟩
      · rw [if_neg (by simp [pl, Str.length]; omega)]
        have e : (⟨(List.replicate (k : Int).toNat (pl [c]).cps).foldl (· ++ ·) #[]⟩ : Str) = pl (List.replicate k c) := by
          have := fold_rep c k []
          simp only [List.nil_append] at this
          unfold pl
          rw [Int.toNat_natCast]
          exact congrArg Str.mk this
        refine ⟨?_, .str (pl (List.replicate k c)), H, I.tok _, ⟨s.toks, ?_⟩, q⟩
        · rw [e, pl_len, List.length_replicate]
          omega
        · rw [e]
theorem w_repCb {H : Hp} {Q : VK} {k : Nat} (z : k ≤ 3000000) (q : Q (.str (pl (List.replicate k 98))) H) : rRepC (.str "b") (.int (k : Int)) H Q := ⟨98, k, by rw [pl_b], rfl, z, q⟩
theorem w_repCf {H : Hp} {Q : VK} {k : Nat} (z : k ≤ 3000000) (q : Q (.str (pl (List.replicate k 102))) H) : rRepC (.str "f") (.int (k : Int)) H Q := ⟨102, k, by rw [pl_f], rfl, z, q⟩
/-! ### the head redex -/
/-- the place of the head redex -/
def Tm.hd : Tm → Option (List Nat)
  | .var _ => none
  | .lam b => (Tm.hd b).map (98 :: ·)
  | .app f _ => if f.isLam = true then some [] else (Tm.hd f).map (102 :: ·)
theorem hd_apps : ∀ (ts : List Tm) (f a : Tm), Tm.hd (Tm.apps (.app f a) ts) = (Tm.hd (.app f a)).map (List.replicate ts.length 102 ++ ·)
  | [], f, a => by
    show Tm.hd (.app f a) = _
    cases Tm.hd (.app f a) <;> simp
  | t :: ts, f, a => by
    show Tm.hd (Tm.apps (.app (.app f a) t) ts) = _
    rw [hd_apps ts (.app f a) t]
    have e : Tm.hd (.app (.app f a) t) = (Tm.hd (.app f a)).map (102 :: ·) := by
      rw [Tm.hd, if_neg (by simp [Tm.isLam])]
    rw [e, Option.map_map]
    congr 1
    funext x
    show List.replicate ts.length 102 ++ 102 :: x = _
    rw [rep_snoc]
    rfl
theorem hd_lamN : ∀ (n : Nat) (t : Tm), Tm.hd (Tm.lamN n t) = (Tm.hd t).map (List.replicate n 98 ++ ·)
  | 0, t => by
    show Tm.hd t = _
    cases Tm.hd t <;> simp
  | n + 1, t => by
    show (Tm.hd (Tm.lamN n t)).map (98 :: ·) = _
    rw [hd_lamN n t, Option.map_map]
    rfl
theorem sub_apps : ∀ (ts : List Tm) (x : Tm) (p : List Nat) (i : Nat) (u : Tm), x.sub p = some (i, u) → (Tm.apps x ts).sub (List.replicate ts.length 102 ++ p) = some (ts.length + i, u)
  | [], x, p, i, u, h => by simpa [Tm.apps] using h
  | t :: ts, x, p, i, u, h => by
    have h1 : (Tm.app x t).sub (102 :: p) = some (i + 1, u) := by simp [Tm.sub, h]
    have h2 := sub_apps ts (.app x t) (102 :: p) (i + 1) u h1
    rw [rep_snoc] at h2
    show (Tm.apps (.app x t) ts).sub (List.replicate (ts.length + 1) 102 ++ p) = some (ts.length + 1 + i, u)
    rw [h2]
    simp only [Option.some.injEq, Prod.mk.injEq, and_true]
    omega
theorem sub_lamN : ∀ (n : Nat) (x : Tm) (p : List Nat) (i : Nat) (u : Tm), x.sub p = some (i, u) → (Tm.lamN n x).sub (List.replicate n 98 ++ p) = some (n + i, u)
  | 0, x, p, i, u, h => by simpa [Tm.lamN] using h
  | n + 1, x, p, i, u, h => by
    have h2 := sub_lamN n x p i u h
    show (Tm.lam (Tm.lamN n x)).sub (98 :: (List.replicate n 98 ++ p)) = some (n + 1 + i, u)
    simp only [Tm.sub, if_pos, h2, Option.map_some, Option.some.injEq, Prod.mk.injEq, and_true]
    omega
/-- the place of the head redex, in letters of a spine -/
def spPl (n : Nat) (as : List Tm) : List Nat := List.replicate n 98 ++ List.replicate (as.length - 1) 102
section
variable {t h : Tm} {n : Nat} {as : List Tm}
theorem SpineOf.noHd (s : SpineOf t n h as) {v : Nat} (e : h = .var v) : Tm.hd t = none := by
  rw [s.1, hd_lamN, e]
  cases as with
  | nil => rfl
  | cons a ts =>
    show ((Tm.apps (.app (.var v) a) ts).hd).map _ = none
    rw [hd_apps]
    rfl
theorem SpineOf.hasHd (s : SpineOf t n h as) {b : Tm} (e : h = .lam b) : ∃ a, Tm.hd t = some (spPl n as) ∧ t.Red (spPl n as) (n + (as.length - 1)) b a ∧ as ≠ [] := by
  cases as with
  | nil => exact absurd e (s.2.2 rfl b)
  | cons a ts =>
    refine ⟨a, ?_, ?_, by simp⟩
    · rw [s.1, hd_lamN, e]
      show ((Tm.apps (.app (.lam b) a) ts).hd).map _ = _
      rw [hd_apps]
      simp [Tm.hd, Tm.isLam, spPl]
    · have h1 := sub_apps ts (.app (.lam b) a) [] 0 _ (Tm.sub_nil _)
      have h2 := sub_lamN n _ _ _ _ h1
      unfold Tm.Red
      rw [s.1, e]
      show (Tm.lamN n (Tm.apps (.app (.lam b) a) ts)).sub (spPl n (a :: ts)) = _
      simp only [spPl, List.length_cons, Nat.add_sub_cancel]
      simpa using h2
end
/-- what steps at the head redex come to -/
def Tm.hf : Nat → Tm → Nat × Wk
  | 0, t => (0, match t.hd with | none => .done t | _ => .out)
  | k + 1, t => match t.hd with
    | none => (0, .done t)
    | some p => if fitsV (t.step p).enc = false then (1, .large) else ((Tm.hf k (t.step p)).1 + 1, (Tm.hf k (t.step p)).2)
def addW (n : Nat) (x : Nat × Wk) : Nat × Wk := (n + x.1, x.2)
theorem addW_zero (x : Nat × Wk) : addW 0 x = x := by simp [addW]
theorem addW_add (m n : Nat) (x : Nat × Wk) : addW m (addW n x) = addW (m + n) x := by simp [addW, Nat.add_assoc]
theorem Tm.hf_none {t : Tm} (h : t.hd = none) : ∀ k, Tm.hf k t = (0, .done t)
  | 0 => by unfold Tm.hf; rw [h]
  | k + 1 => by unfold Tm.hf; rw [h]
theorem Tm.hf_zero {t : Tm} {p : List Nat} (h : t.hd = some p) : Tm.hf 0 t = (0, .out) := by unfold Tm.hf; rw [h]
theorem Tm.hf_large {t : Tm} {p : List Nat} (h : t.hd = some p) (hf : fitsV (t.step p).enc = false) (k : Nat) : Tm.hf (k + 1) t = (1, .large) := by
  rw [Tm.hf, h]
  exact if_pos hf
theorem Tm.hf_step {t : Tm} {p : List Nat} (h : t.hd = some p) (hf : fitsV (t.step p).enc = true) (k : Nat) : Tm.hf (k + 1) t = addW 1 (Tm.hf k (t.step p)) := by
  rw [Tm.hf, h]
  refine (if_neg (by rw [hf]; simp)).trans ?_
  simp [addW, Nat.add_comm]
/-- the value that stands for the head redex -/
def Hst (u : Tm) (v : V) : Prop := (∃ (p : List Nat) (i : Nat) (b c : Tm), v = .int (i : Int) ∧ u.hd = some p ∧ u.Red p i b c) ∨ (v = .non ∧ u.hd = none)
end Ly
set_option Elab.async false
set_option linter.all false
set_option maxRecDepth 100000
set_option maxHeartbeats 8000000
namespace Ly
open PySem PySem.Spec PyProof.Rows L2 Evl
local macro_rules | `(tactic| walk_at "ne") => `(tactic| first
  | assumption
  | ((refine' Ne.symm ?hq); (case hq => assumption))
  | ((refine' ne_of_none ?nh1 ?nh2); (case nh2 => assumption); (case nh1 => walk_at "hp"))
  | ((refine' Ne.symm (ne_of_none ?nh1 ?nh2)); (case nh2 => assumption); (case nh1 => walk_at "hp")))
local macro_rules | `(tactic| walk_at "hp") => `(tactic| first
  | assumption
  | exact upd_same
  | ((refine' SqL.of ?hq); (case hq => walk_at "hp"))
  | ((refine' SqT.of ?hq); (case hq => walk_at "hp"))
  | ((refine' (upd_ne ?hne).trans ?hrest); (case hne => walk_at "ne"); (case hrest => walk_at "hp"))
  | ((refine' ly_at ?hex ?hh); (case hex => assumption); (case hh => walk_at "hp"))
  | ((refine' ly_atF ?hex ?hnn ?hh); (case hex => assumption); (case hh => walk_at "hp"); (case hnn => walk_at "ne"))
  | ((refine' ex_t ?hex ?hh); (case hh => assumption); (case hex => walk_at "ex"))
  | ((refine' ex_l ?hex ?hh); (case hh => assumption); (case hex => walk_at "ex")))
local macro_rules | `(tactic| walk_at "ex") => `(tactic| first
  | assumption
  | exact Ex.refl _
  | ((refine' ex_new ?xa ?xb); (case xb => assumption); (case xa => walk_at "ex"))
  | ((refine' ex_upd ?xa ?xb); (case xb => walk_at "free"); (case xa => walk_at "ex"))
  | ((refine' Ex.trans ?xa ?xb); (case xb => assumption); (case xa => walk_at "ex")))
local macro_rules | `(tactic| walk_at "free") => `(tactic| first
  | assumption
  | ((refine' fresh_back ?xa ?xb); (case xb => assumption); (case xa => walk_at "ex")))
local macro_rules | `(tactic| walk_at "fr") => `(tactic| first
  | assumption
  | exact Fr.refl _ _
  | ((refine' Fr.own ?hq); (case hq => walk_at "fr"))
  | ((refine' Fr.new ?xa ?xb); (case xb => assumption); (case xa => walk_at "fr"))
  | ((refine' Fr.mut ?xa ?xb); (case xb => assumption); (case xa => walk_at "fr"))
  | ((refine' Fr.trans ?xa ?xb); (case xb => assumption); (case xa => walk_at "fr"))
  | ((refine' Fr.trans ?xa (Fr.ex ?xb)); (case xb => assumption); (case xa => walk_at "fr")))
local macro_rules | `(tactic| walk_at "go1") => `(tactic| first
  | (with_reducible refine' w_seq ?_)
  | (with_reducible refine' w_asg ?_)
  | (with_reducible refine' w_ret ?_)
  | (with_reducible refine' w_drop ?_)
  | (with_reducible refine' w_if ?_)
  | (with_reducible refine' w_next ?_)
  | (with_reducible refine' w_name ?_)
  | (with_reducible refine' w_sub ?_)
  | ((with_reducible refine' w_var ?hv ?_); (case hv => exact rfl))
  | (with_reducible refine' w_c ?_)
  | (with_reducible refine' w_op ?_)
  | (with_reducible refine' w_un ?_)
  | (with_reducible refine' w_ch ?_)
  | (with_reducible refine' w_I0 ?_)
  | ((with_reducible refine' w_I ?hc ?_); (case hc => first | (exact ly_mulL (by decide) (by decide)) | (exact ly_mulR (by decide) (by decide)) | (exact ly_mulL (by omega) (by omega)) | (show (_ : Int) ≠ 0; decide) | (show (_ : Int) ≠ 0; omega) | (exact ⟨by decide, by decide⟩) | (exact ⟨by omega, by omega⟩)))
  | (with_reducible refine' w_U ?_)
  | ((with_reducible refine' w_eq ?hs ?_); (case hs => exact rfl))
  | ((with_reducible refine' w_ne ?hs ?_); (case hs => exact rfl))
  | (with_reducible refine' w_isB ?_)
  | (with_reducible refine' w_notB ?_)
  | (with_reducible refine' w_nil ?_)
  | (with_reducible refine' w_cons ?_)
  | (with_reducible refine' w_tup ?_)
  | (with_reducible refine' w_lst ?_)
  | (with_reducible refine' w_cb ?_)
  | (with_reducible refine' w_call ?_)
  | (with_reducible refine' w_bm ?_)
  | (with_reducible refine' w_bm0 ?_)
  | ((with_reducible refine' w_app ?hh ?hz ?_); (case hh => walk_at "hp"); (case hz => first | exact ly_lt (by omega) | exact ly_lt (by simp only [List.length_append, List.length_map, List.length_cons, List.length_nil]; omega)))
  | ((with_reducible refine' w_popA ?hh ?_); (case hh => walk_at "hp"))
  | ((with_reducible refine' w_ext ?hh ?hh2 ?hz ?_); (case hh => walk_at "hp"); (case hh2 => walk_at "hp"))
  | ((with_reducible refine' w_ixL ?hh ?ha ?_); (case hh => walk_at "hp"); (case ha => first | exact rfl | exact at_map (by omega) | exact atI_last _ _ | ((refine' at_of ?ae ?ah); (case ah => assumption); (case ae => omega))))
  | ((with_reducible refine' w_ixT ?hh ?ha ?_); (case hh => walk_at "hp"); (case ha => first | exact rfl | exact at_map (by omega) | exact atI_last _ _ | ((refine' at_of ?ae ?ah); (case ah => assumption); (case ae => omega))))
  | ((with_reducible refine' w_cat ?hh ?hh2 ?hz ?_); (case hh => walk_at "hp"); (case hh2 => walk_at "hp"))
  | ((with_reducible refine' w_setL ?hh ?ha ?_); (case hh => walk_at "hp"); (case ha => exact rfl))
  | (with_reducible refine' w_test ?_)
  | (with_reducible refine' w_tB ?_)
  | (with_reducible refine' w_bl ?_)
  | (with_reducible refine' w_and ?_)
  | (with_reducible refine' w_or ?_)
  | (with_reducible refine' w_not ?_)
  | (with_reducible refine' w_andV ?_)
  | (with_reducible refine' w_orV ?_)
  | (with_reducible refine' w_notV ?_)
  | (with_reducible refine' w_ifE ?_)
  | (with_reducible refine' w_for ?_)
  | ((with_reducible refine' w_nin ?hh ?_); (case hh => walk_at "hp"))
  | ((with_reducible refine' w_sorted ?hh ?_); (case hh => walk_at "hp"))
  | (with_reducible refine' w_tsadd ?_)
  | ((with_reducible refine' w_tsadd1 ?hh ?_); (case hh => walk_at "hp"))
  | ((with_reducible refine' w_sadd ?hh ?hr ?_); (case hh => walk_at "hp"); (case hr => omega))
  | (with_reducible refine' w_iZ ?_)
  | ((with_reducible refine' w_iZ1 ?hh ?hh2 ?_); (case hh => walk_at "hp"); (case hh2 => walk_at "hp"))
  | (with_reducible refine' w_iS ?_)
  | (with_reducible refine' w_iS1 ?_)
  | ((with_reducible refine' w_gtup ?hh ?hn ?_); (case hh => walk_at "hp"); (case hn => exact rfl))
  | (with_reducible refine' w_gcons ?_)
  | (with_reducible refine' w_gnil ?_)
  | (with_reducible refine' w_js ?_)
  | (with_reducible refine' w_jsn ?_)
  | ((with_reducible refine' w_js1 ?hl ?_); (case hl => decide +kernel))
  | (with_reducible refine' w_fmt ?_)
  | ((with_reducible refine' w_fmt1 ?hl ?_); (case hl => decide +kernel))
  | (with_reducible refine' w_callS ?_)
  | ((with_reducible refine' w_truL ?hh ?_); (case hh => walk_at "hp"))
  | (with_reducible refine' w_lc ?_)
  | (with_reducible refine' w_yes ?_)
  | ((with_reducible refine' w_wipe ?he ?_); (case he => exact rfl))
  | (with_reducible refine' w_iL ?_)
  | (with_reducible refine' w_iT ?_)
  | (with_reducible refine' w_iR ?_)
  | ((with_reducible refine' w_iL1 ?hh ?_); (case hh => walk_at "hp"))
  | ((with_reducible refine' w_iT1 ?hh ?_); (case hh => walk_at "hp"))
  | ((with_reducible refine' w_iR1 ?h1 ?h2 ?_); (case h1 => omega); (case h2 => omega))
  | ((with_reducible refine' w_aug ?hv ?_); (case hv => exact rfl))
  | (with_reducible refine' w_ipI ?_)
  | ((with_reducible refine' w_isi ?hy ?hk ?_); (case hy => walk_at "ty"); (case hk => walk_at "kit"))
  | ((with_reducible refine' w_int ?_))
  | ((with_reducible refine' w_intB ?_))
  | ((with_reducible refine' w_abs ?_))
  | ((with_reducible refine' w_lenL ?hh ?_); (case hh => walk_at "hp"))
  | ((with_reducible refine' w_lenT ?hh ?_); (case hh => walk_at "hp"))
  | ((with_reducible refine' w_tupL ?hh ?_); (case hh => walk_at "hp"))
  | ((with_reducible refine' w_tupT ?hh ?_); (case hh => walk_at "hp"))
  | ((with_reducible refine' w_catA ?hh ?hh2 ?hz ?_); (case hh => walk_at "hp"); (case hh2 => walk_at "hp"); (case hz => walk_at "len"))
  | ((with_reducible refine' w_repB ?hh ?hne ?h2 ?h3 ?hz ?_); (case hh => walk_at "hp"); (case hne => simp); (case h2 => omega); (case h3 => omega); (case hz => exact Nat.le_of_ble_eq_true rfl))
  | ((with_reducible refine' w_eqN ?hh ?hh2 ?n1 ?n2 ?_); (case hh => walk_at "hp"); (case hh2 => walk_at "hp"); (case n1 => walk_at "nd"); (case n2 => walk_at "nd"))
  | ((with_reducible refine' w_neN ?hh ?hh2 ?n1 ?n2 ?_); (case hh => walk_at "hp"); (case hh2 => walk_at "hp"); (case n1 => walk_at "nd"); (case n2 => walk_at "nd"))
  | ((with_reducible refine' w_eqL ?hh ?hh2 ?n1 ?n2 ?_); (case hh => walk_at "hp"); (case hh2 => walk_at "hp"); (case n1 => walk_at "nd"); (case n2 => walk_at "nd"))
  | ((with_reducible refine' w_neL ?hh ?hh2 ?n1 ?n2 ?_); (case hh => walk_at "hp"); (case hh2 => walk_at "hp"); (case n1 => walk_at "nd"); (case n2 => walk_at "nd"))
  | ((with_reducible refine' w_neNon ?hh2 ?n2 ?_); (case hh2 => walk_at "hp"); (case n2 => walk_at "nd"))
  | ((with_reducible refine' w_eqNon ?hh2 ?n2 ?_); (case hh2 => walk_at "hp"); (case n2 => walk_at "nd"))
  | ((with_reducible refine' w_slA ?hh ?_); (case hh => walk_at "hp"))
  | ((with_reducible refine' w_disp ?hz ?_); (case hz => exact sz_of (Nat.le_of_ble_eq_true rfl)))
  | ((with_reducible refine' w_tyL ?hh ?_); (case hh => walk_at "hp"))
  | (with_reducible refine' iteT ?_)
  | (with_reducible refine' iteF ?_)
  | (with_reducible refine' w_nT ?_)
  | (with_reducible refine' w_nn ?_)
  | (with_reducible refine' w_nnT ?_)
  | (with_reducible refine' w_nnR ?_)
  | (with_reducible refine' w_neG ?_)
  | (with_reducible refine' w_eqG ?_)
  | (with_reducible refine' w_neS ?_)
  | (with_reducible refine' w_eqS ?_)
  | (with_reducible refine' w_neSb ?_)
  | (with_reducible refine' w_eqSb ?_)
  | (with_reducible refine' w_deIS ?_)
  | (with_reducible refine' w_deSI ?_)
  | (with_reducible refine' w_deISn ?_)
  | ((with_reducible refine' w_deST ?he ?_); (case he => decide +kernel))
  | ((with_reducible refine' w_deSF ?he ?_); (case he => decide +kernel))
  | ((with_reducible refine' w_deSTn ?he ?_); (case he => decide +kernel))
  | ((with_reducible refine' w_deSFn ?he ?_); (case he => decide +kernel))
  | (with_reducible refine' w_nF ?_)
  | dsimp only [Bool.not_true, Bool.not_false])
local macro_rules | `(tactic| walk_at "ty") => `(tactic| first
  | exact .base (.int _) | exact .base (.str _) | exact .base (.bl _) | exact .base .non
  | ((refine' tyx_t ?hq); (case hq => walk_at "hp")) | ((refine' tyx_l ?hq); (case hq => walk_at "hp")) | ((refine' .base (.tup ?hq)); (case hq => walk_at "hp")) | assumption)
local macro_rules | `(tactic| walk_at "go") => `(tactic| repeat walk_at "go1")
local macro_rules | `(tactic| walk_at "st") => `(tactic| try dsimp only [cxOf, Cx.nox, Cx.wish])
local macro_rules | `(tactic| walk_at "kit") => `(tactic| with_reducible first | exact kit_int_int | exact kit_int_str | exact kit_int_bool | exact kit_int_tuple | exact kit_int_list | exact kit_str_int | exact kit_str_str | exact kit_str_bool | exact kit_str_tuple | exact kit_str_list | exact kit_bool_int | exact kit_bool_str | exact kit_bool_bool | exact kit_bool_tuple | exact kit_bool_list | exact kit_NoneType_int | exact kit_NoneType_str | exact kit_NoneType_bool | exact kit_NoneType_tuple | exact kit_NoneType_list | exact kit_list_int | exact kit_list_str | exact kit_list_bool | exact kit_list_tuple | exact kit_list_list | exact kit_tuple_int | exact kit_tuple_str | exact kit_tuple_bool | exact kit_tuple_tuple | exact kit_tuple_list)
local macro_rules | `(tactic| walk_at "nd") => `(tactic| first
  | assumption
  | exact Tm.nds _
  | exact Nds.nil
  | exact Nds.ofInts _
  | ((refine' Nds.cons ?na ?nb); (case na => first | exact Nds.I _ | exact Nds.L | exact Nds.A); (case nb => walk_at "nd"))
  | ((refine' Nds.app ?na ?nb); (case na => walk_at "nd"); (case nb => walk_at "nd"))
  | ((refine' Nds.rep ?na _); (case na => walk_at "nd")))
local macro_rules | `(tactic| walk_at "len") => `(tactic| first
  | exact ly_sz (by omega)
  | ((simp only [List.length_append, List.length_cons, List.length_nil, List.length_map, PyProof.Rows.lm_len_rep_flat]); exact ly_sz (by omega)))
local macro_rules | `(tactic| walk_at "go1") => `(tactic| first
  | (with_reducible refine' w_kget2 ?_)
  | (with_reducible refine' w_isRN ?_)
  | (with_reducible refine' w_isNN ?_)
  | (with_reducible refine' w_isIN ?_)
  | ((with_reducible refine' w_kg ?hd ?_); (case hd => assumption)))
def topS (i : Nat) : Stmt := PySem.Challenge.pw_lydite_k10_parse.main.body.getD i (.Pass ⟨0, 0, 0, 0⟩)
abbrev s_is_number : Stmt := topS 8
abbrev N_is_number : List Str := ["value", "most"]
theorem sc_is_number : FnScope ["value", "most"] ["value", "most"] (defScope s_is_number) := ⟨rfl, rfl, rfl, by decide +kernel, rfl, by decide +kernel, by decide +kernel⟩
abbrev s_is_node : Stmt := topS 9
abbrev N_is_node : List Str := ["value", "words"]
theorem sc_is_node : FnScope ["value", "words"] ["value", "words"] (defScope s_is_node) := ⟨rfl, rfl, rfl, by decide +kernel, rfl, by decide +kernel, by decide +kernel⟩
abbrev s_part_count : Stmt := topS 10
abbrev N_part_count : List Str := ["node"]
theorem sc_part_count : FnScope ["node"] ["node"] (defScope s_part_count) := ⟨rfl, rfl, rfl, by decide +kernel, rfl, by decide +kernel, by decide +kernel⟩
abbrev s_is_written : Stmt := topS 11
abbrev N_is_written : List Str := ["value", "words", "missing", "node"]
theorem sc_is_written : FnScope ["value", "words", "missing", "node"] ["value", "words"] (defScope s_is_written) := ⟨rfl, rfl, rfl, by decide +kernel, rfl, by decide +kernel, by decide +kernel⟩
abbrev s_is_term : Stmt := topS 12
abbrev N_is_term : List Str := ["value"]
theorem sc_is_term : FnScope ["value"] ["value"] (defScope s_is_term) := ⟨rfl, rfl, rfl, by decide +kernel, rfl, by decide +kernel, by decide +kernel⟩
abbrev s_check_size : Stmt := topS 13
abbrev N_check_size : List Str := ["size"]
theorem sc_check_size : FnScope ["size"] ["size"] (defScope s_check_size) := ⟨rfl, rfl, rfl, by decide +kernel, rfl, by decide +kernel, by decide +kernel⟩
abbrev s_checked : Stmt := topS 14
abbrev N_checked : List Str := ["term", "node"]
theorem sc_checked : FnScope ["term", "node"] ["term"] (defScope s_checked) := ⟨rfl, rfl, rfl, by decide +kernel, rfl, by decide +kernel, by decide +kernel⟩
abbrev s_name_end : Stmt := topS 21
abbrev N_name_end : List Str := ["text", "start", "end"]
theorem sc_name_end : FnScope ["text", "start", "end"] ["text", "start"] (defScope s_name_end) := ⟨rfl, rfl, rfl, by decide +kernel, rfl, by decide +kernel, by decide +kernel⟩
abbrev s_token_end : Stmt := topS 22
abbrev N_token_end : List Str := ["text", "start"]
theorem sc_token_end : FnScope ["text", "start"] ["text", "start"] (defScope s_token_end) := ⟨rfl, rfl, rfl, by decide +kernel, rfl, by decide +kernel, by decide +kernel⟩
abbrev s_parse : Stmt := topS 25
abbrev N_parse : List Str := ["text", "names", "reader", "at", "end"]
theorem sc_parse : FnScope ["text", "names", "reader", "at", "end"] ["text", "names"] (defScope s_parse) := ⟨rfl, rfl, rfl, by decide +kernel, rfl, by decide +kernel, by decide +kernel⟩
abbrev s_law_stream : Stmt := topS 27
abbrev N_law_stream : List Str := ["script", "mixed", "cell"]
theorem sc_law_stream : FnScope ["script", "mixed", "cell"] ["script"] (defScope s_law_stream) := ⟨rfl, rfl, rfl, by decide +kernel, rfl, by decide +kernel, by decide +kernel⟩
abbrev s_law_draw : Stmt := topS 28
abbrev N_law_draw : List Str := ["stream", "many", "value"]
theorem sc_law_draw : FnScope ["stream", "many", "value"] ["stream", "many"] (defScope s_law_draw) := ⟨rfl, rfl, rfl, by decide +kernel, rfl, by decide +kernel, by decide +kernel⟩
abbrev s_law_drawn_name : Stmt := topS 29
abbrev N_law_drawn_name : List Str := ["stream", "name", "k"]
theorem sc_law_drawn_name : FnScope ["stream", "name", "k"] ["stream"] (defScope s_law_drawn_name) := ⟨rfl, rfl, rfl, by decide +kernel, rfl, by decide +kernel, by decide +kernel⟩
abbrev s_law_drawn_names : Stmt := topS 30
abbrev N_law_drawn_names : List Str := ["stream", "found", "k", "name"]
theorem sc_law_drawn_names : FnScope ["stream", "found", "k", "name"] ["stream"] (defScope s_law_drawn_names) := ⟨rfl, rfl, rfl, by decide +kernel, rfl, by decide +kernel, by decide +kernel⟩
abbrev s_law_scope_names : Stmt := topS 31
abbrev N_law_scope_names : List Str := ["scope", "names", "found", "name"]
theorem sc_law_scope_names : FnScope ["scope", "names", "found", "name"] ["scope", "names"] (defScope s_law_scope_names) := ⟨rfl, rfl, rfl, by decide +kernel, rfl, by decide +kernel, by decide +kernel⟩
abbrev s_law_use : Stmt := topS 32
abbrev N_law_use : List Str := ["name", "scope", "names", "k"]
theorem sc_law_use : FnScope ["name", "scope", "names", "k"] ["name", "scope", "names"] (defScope s_law_use) := ⟨rfl, rfl, rfl, by decide +kernel, rfl, by decide +kernel, by decide +kernel⟩
abbrev s_law_wrapped : Stmt := topS 33
abbrev N_law_wrapped : List Str := ["words"]
theorem sc_law_wrapped : FnScope ["words"] ["words"] (defScope s_law_wrapped) := ⟨rfl, rfl, rfl, by decide +kernel, rfl, by decide +kernel, by decide +kernel⟩
abbrev s_law_make : Stmt := topS 34
abbrev N_law_make : List Str := ["stream", "depth", "scope", "names", "known", "pick", "name", "own", "k", "words", "term", "kind", "left", "first", "right", "second", "other"]
theorem sc_law_make : FnScope ["stream", "depth", "scope", "names", "known", "pick", "name", "own", "k", "words", "term", "kind", "left", "first", "right", "second", "other"] ["stream", "depth", "scope", "names"] (defScope s_law_make) := ⟨rfl, rfl, rfl, by decide +kernel, rfl, by decide +kernel, by decide +kernel⟩
abbrev s_law_text : Stmt := topS 35
abbrev N_law_text : List Str := ["stream", "words", "text", "k"]
theorem sc_law_text : FnScope ["stream", "words", "text", "k"] ["stream", "words"] (defScope s_law_text) := ⟨rfl, rfl, rfl, by decide +kernel, rfl, by decide +kernel, by decide +kernel⟩
abbrev s_law : Stmt := topS 36
abbrev N_law : List Str := ["script", "stream", "names", "words", "term", "kind", "text", "given", "actual"]
theorem sc_law : FnScope ["script", "stream", "names", "words", "term", "kind", "text", "given", "actual"] ["script"] (defScope s_law) := ⟨rfl, rfl, rfl, by decide +kernel, rfl, by decide +kernel, by decide +kernel⟩
abbrev s_Level_init : Stmt := inClass (topS 23) 0
abbrev N_Level_init : List Str := ["self", "opener"]
theorem sc_Level_init : FnScope ["self", "opener"] ["self", "opener"] (defScope s_Level_init) := ⟨rfl, rfl, rfl, by decide +kernel, rfl, by decide +kernel, by decide +kernel⟩
abbrev s_Level_is_whole : Stmt := inClass (topS 23) 1
abbrev N_Level_is_whole : List Str := ["self"]
theorem sc_Level_is_whole : FnScope ["self"] ["self"] (defScope s_Level_is_whole) := ⟨rfl, rfl, rfl, by decide +kernel, rfl, by decide +kernel, by decide +kernel⟩
abbrev s_Level_add_part : Stmt := inClass (topS 23) 2
abbrev N_Level_add_part : List Str := ["self", "nodes"]
theorem sc_Level_add_part : FnScope ["self", "nodes"] ["self", "nodes"] (defScope s_Level_add_part) := ⟨rfl, rfl, rfl, by decide +kernel, rfl, by decide +kernel, by decide +kernel⟩
abbrev s_Level_all_nodes : Stmt := inClass (topS 23) 3
abbrev N_Level_all_nodes : List Str := ["self"]
theorem sc_Level_all_nodes : FnScope ["self"] ["self"] (defScope s_Level_all_nodes) := ⟨rfl, rfl, rfl, by decide +kernel, rfl, by decide +kernel, by decide +kernel⟩
abbrev s_Reader_init : Stmt := inClass (topS 24) 0
abbrev N_Reader_init : List Str := ["self", "names", "number", "name"]
theorem sc_Reader_init : FnScope ["self", "names", "number", "name"] ["self", "names"] (defScope s_Reader_init) := ⟨rfl, rfl, rfl, by decide +kernel, rfl, by decide +kernel, by decide +kernel⟩
abbrev s_Reader_read : Stmt := inClass (topS 24) 1
abbrev N_Reader_read : List Str := ["self", "token", "at"]
theorem sc_Reader_read : FnScope ["self", "token", "at"] ["self", "token", "at"] (defScope s_Reader_read) := ⟨rfl, rfl, rfl, by decide +kernel, rfl, by decide +kernel, by decide +kernel⟩
abbrev s_Reader_read_opener : Stmt := inClass (topS 24) 2
abbrev N_Reader_read_opener : List Str := ["self", "token", "at"]
theorem sc_Reader_read_opener : FnScope ["self", "token", "at"] ["self", "token", "at"] (defScope s_Reader_read_opener) := ⟨rfl, rfl, rfl, by decide +kernel, rfl, by decide +kernel, by decide +kernel⟩
abbrev s_Reader_read_period : Stmt := inClass (topS 24) 3
abbrev N_Reader_read_period : List Str := ["self", "at", "level"]
theorem sc_Reader_read_period : FnScope ["self", "at", "level"] ["self", "at"] (defScope s_Reader_read_period) := ⟨rfl, rfl, rfl, by decide +kernel, rfl, by decide +kernel, by decide +kernel⟩
abbrev s_Reader_read_closing : Stmt := inClass (topS 24) 4
abbrev N_Reader_read_closing : List Str := ["self", "at"]
theorem sc_Reader_read_closing : FnScope ["self", "at"] ["self", "at"] (defScope s_Reader_read_closing) := ⟨rfl, rfl, rfl, by decide +kernel, rfl, by decide +kernel, by decide +kernel⟩
abbrev s_Reader_read_name : Stmt := inClass (topS 24) 5
abbrev N_Reader_read_name : List Str := ["self", "name", "at", "level"]
theorem sc_Reader_read_name : FnScope ["self", "name", "at", "level"] ["self", "name", "at"] (defScope s_Reader_read_name) := ⟨rfl, rfl, rfl, by decide +kernel, rfl, by decide +kernel, by decide +kernel⟩
abbrev s_Reader_variable : Stmt := inClass (topS 24) 6
abbrev N_Reader_variable : List Str := ["self", "name", "at", "around"]
theorem sc_Reader_variable : FnScope ["self", "name", "at", "around"] ["self", "name", "at"] (defScope s_Reader_variable) := ⟨rfl, rfl, rfl, by decide +kernel, rfl, by decide +kernel, by decide +kernel⟩
abbrev s_Reader_end_abstractions : Stmt := inClass (topS 24) 7
abbrev N_Reader_end_abstractions : List Str := ["self", "at"]
theorem sc_Reader_end_abstractions : FnScope ["self", "at"] ["self", "at"] (defScope s_Reader_end_abstractions) := ⟨rfl, rfl, rfl, by decide +kernel, rfl, by decide +kernel, by decide +kernel⟩
abbrev s_Reader_end_level : Stmt := inClass (topS 24) 8
abbrev N_Reader_end_level : List Str := ["self", "level", "name"]
theorem sc_Reader_end_level : FnScope ["self", "level", "name"] ["self"] (defScope s_Reader_end_level) := ⟨rfl, rfl, rfl, by decide +kernel, rfl, by decide +kernel, by decide +kernel⟩
abbrev s_Reader_finish : Stmt := inClass (topS 24) 9
abbrev N_Reader_finish : List Str := ["self", "at"]
theorem sc_Reader_finish : FnScope ["self", "at"] ["self", "at"] (defScope s_Reader_finish) := ⟨rfl, rfl, rfl, by decide +kernel, rfl, by decide +kernel, by decide +kernel⟩
structure Txt (w : World) (K : PySem.W.Frag) (mg : Str → Option Value) (tk : Nat → Tok) (cl : Nat → Addr) : Prop where
  n_int : mg "int" = none
  n_list : mg "list" = none
  n_len : mg "len" = none
  n_abs : mg "abs" = none
  n_isinstance : mg "isinstance" = none
  n_tuple : mg "tuple" = none
  n_range : mg "range" = none
  n_str : mg "str" = none
  n_max : mg "max" = none
  n_enumerate : mg "enumerate" = none
  n_bool : mg "bool" = none
  g_MOST_NODES : mg "MOST_NODES" = some (.int 1000 (tk 0))
  g_MOST_VARIABLE : mg "MOST_VARIABLE" = some (.int 1000000 (tk 1))
  g_MOST_LENGTH : mg "MOST_LENGTH" = some (.int 10 (tk 2))
  g_MOST_OPEN : mg "MOST_OPEN" = some (.int 60 (tk 3))
  g_LETTERS : mg "LETTERS" = some (.str "abcdefghijklmnopqrstuvwxyz" (tk 100))
  g_DIGITS : mg "DIGITS" = some (.str "0123456789" (tk 101))
  g_SIGNS : mg "SIGNS" = some (.str "\\.()" (tk 102))
  g_PART_COUNTS : mg "PART_COUNTS" = some (.ref (cl 40))
  d_PART_COUNTS : KD K w (cl 40) [("lam", .int 1), ("app", .int 2), ("to", .int 2)]
  n_ValueError : mg "ValueError" = none
  g_LyditeError : mg "LyditeError" = some (.ref (cl 0))
  t_LyditeError : PySem.W.typeIn K (.ref (cl 0)) = some (.type "type")
  h3_LyditeError : PySem.W.hasDictIn K (cl 0) = true
  g_TooLarge : mg "TooLarge" = some (.ref (cl 1))
  x_TooLarge : PySem.W.excIn K (cl 1) [.type "ValueError", .type "Exception", .type "BaseException", .type "object"] "ValueError.__new__" = true
  k_TooLarge : PySem.W.keepIn K (.ref (cl 1)) = true
  b_TooLarge : PySem.W.subIn K (.ref (cl 1)) (.type "BaseException") = some true
  t_TooLarge : PySem.W.typeIn K (.ref (cl 1)) = some (.type "type")
  s0_TooLarge : PySem.W.subIn K (.ref (cl 1)) (.ref (cl 0)) = some true
  sv_TooLarge : PySem.W.subIn K (.ref (cl 1)) (.type "ValueError") = some true
  s1_TooLarge : PySem.W.subIn K (.ref (cl 1)) (.ref (cl 1)) = some true
  h1_TooLarge : PySem.W.findIn K (.ref (cl 1)) "__getattribute__" = some (some (.builtin "BaseException.__getattribute__"))
  h2_TooLarge : PySem.W.findIn K (.ref (cl 1)) "__getattr__" = some none
  h3_TooLarge : PySem.W.hasDictIn K (cl 1) = true
  h4_TooLarge : PySem.W.findIn K (.ref (cl 1)) "__class__" = some (some (.builtin "object.__class__"))
  h7_TooLarge : PySem.W.mroIn K (cl 1) (.type "object") = some true
  h5_TooLarge : PySem.W.specialIn K (.builtin "object.__class__") "__get__" = some (some (.builtin "getset_descriptor.__get__"))
  h6_TooLarge : PySem.W.takesIn K (.builtin "object.__class__") = some true
  g_Level : mg "Level" = some (.ref (cl 21))
  pg_Level : PySem.W.plainGet K (cl 21) Str.empty = true
  hd_Level : PySem.W.hasDictIn K (cl 21) = true
  po_Level : PySem.W.plainOver K (cl 21) = true
  sa_Level : PySem.W.findIn K (.ref (cl 21)) "__setattr__" = some (some (.builtin "object.__setattr__"))
  mk_Level : PySem.W.makesIn K (cl 21) = true
  kc_Level : PySem.W.keepIn K (.ref (cl 21)) = true
  nf_Level_opener : PySem.W.findIn K (.ref (cl 21)) "opener" = some none
  nf_Level_naming : PySem.W.findIn K (.ref (cl 21)) "naming" = some none
  nf_Level_names : PySem.W.findIn K (.ref (cl 21)) "names" = some none
  nf_Level_parts : PySem.W.findIn K (.ref (cl 21)) "parts" = some none
  nf_Level_nodes : PySem.W.findIn K (.ref (cl 21)) "nodes" = some none
  g_Reader : mg "Reader" = some (.ref (cl 22))
  pg_Reader : PySem.W.plainGet K (cl 22) Str.empty = true
  hd_Reader : PySem.W.hasDictIn K (cl 22) = true
  po_Reader : PySem.W.plainOver K (cl 22) = true
  sa_Reader : PySem.W.findIn K (.ref (cl 22)) "__setattr__" = some (some (.builtin "object.__setattr__"))
  mk_Reader : PySem.W.makesIn K (cl 22) = true
  kc_Reader : PySem.W.keepIn K (.ref (cl 22)) = true
  nf_Reader_numbers : PySem.W.findIn K (.ref (cl 22)) "numbers" = some none
  nf_Reader_bound : PySem.W.findIn K (.ref (cl 22)) "bound" = some none
  nf_Reader_depth : PySem.W.findIn K (.ref (cl 22)) "depth" = some none
  nf_Reader_levels : PySem.W.findIn K (.ref (cl 22)) "levels" = some none
  nf_Reader_naming : PySem.W.findIn K (.ref (cl 22)) "naming" = some none
theorem Txt.e_TooLarge_TooLarge {w : World} {K : PySem.W.Frag} {mg : Str → Option Value} {tk : Nat → Tok} {cl : Nat → Addr} (T : Txt w K mg tk cl) : PySem.W.exmOne K (.ref (cl 1)) (.ref (cl 1)) = some true := exm_mk T.b_TooLarge T.h3_TooLarge T.t_TooLarge T.s1_TooLarge
theorem Txt.i_TooLarge_L {w : World} {K : PySem.W.Frag} {mg : Str → Option Value} {tk : Nat → Tok} {cl : Nat → Addr} (T : Txt w K mg tk cl) : PySem.W.kitOne K (.ref (cl 1)) (.ref (cl 0)) = some true := kitOne_mk T.h3_LyditeError T.t_LyditeError T.s0_TooLarge
theorem Txt.i_TooLarge_V {w : World} {K : PySem.W.Frag} {mg : Str → Option Value} {tk : Nat → Tok} {cl : Nat → Addr} (T : Txt w K mg tk cl) : PySem.W.kitOne K (.ref (cl 1)) (.type "ValueError") = some true := kitVE T.sv_TooLarge
theorem Txt.exc_TooLarge {w : World} {K : PySem.W.Frag} {mg : Str → Option Value} {tk : Nat → Tok} {cl : Nat → Addr} (T : Txt w K mg tk cl) : ExcC K (cl 1) := ⟨T.h1_TooLarge, T.h2_TooLarge, T.b_TooLarge, T.h3_TooLarge, T.h4_TooLarge, T.h5_TooLarge, T.h6_TooLarge, T.h7_TooLarge⟩
theorem Txt.cls_Level {w : World} {K : PySem.W.Frag} {mg : Str → Option Value} {tk : Nat → Tok} {cl : Nat → Addr} (T : Txt w K mg tk cl) : Cls K (cl 21) := ⟨T.pg_Level, T.hd_Level, T.po_Level, T.sa_Level⟩
theorem Txt.cls_Reader {w : World} {K : PySem.W.Frag} {mg : Str → Option Value} {tk : Nat → Tok} {cl : Nat → Addr} (T : Txt w K mg tk cl) : Cls K (cl 22) := ⟨T.pg_Reader, T.hd_Reader, T.po_Reader, T.sa_Reader⟩

section
variable {P : Program} {w : World} {K : PySem.W.Frag} {mg : Str → Option Value} {base : Heap} {tk : Nat → Tok} {cl : Nat → Addr}
/-! ### the stream's start, a draw -/
def spStream (K : PySem.W.Frag) : Sp := fun vs H Q _ => ∃ (a : Addr) (ns : List Int), vs = [.ref a] ∧ SqL K H a (ns.map V.int) ∧ ns.length ≤ 63 ∧ ∀ H' p l, Ex H H' → H p = none → StAt H' p ⟨l, ns, 0, 0, mixOf ns⟩ → Q (.ref p) H'
theorem ok_stream {f : Addr} {fd : FuncData} {k : Nat} (F : Fun K "_law_stream" "_law_stream" s_law_stream f fd) (T : Txt w K mg tk cl) : FnOk P w K mg base CX0 (k + 1) f fd ["script"] (spStream K) := by
  refine F.ok sc_law_stream (fun vs H Q E h => ?_) (fun cdv A outer s H vs Q E hr h => ?_)
  · obtain ⟨a, ns, rfl, _⟩ := h
    rfl
  · obtain ⟨a, ns, rfl, hS, hlen, q⟩ := h
    refine ⟨_, (pss_cons (ps_set (i := 1) sc_law_stream.nd rfl (.inl rfl) pe_int) (pss_cons (ps_for PassesOwn.never rfl (pi_list (pv 0)) (pg_name (i := 2) sc_law_stream.nd rfl (.inl rfl)) (pss_one (ps_set (i := 1) sc_law_stream.nd rfl (.inl rfl) (pe_op op_modN (pe_callTy call_int1 (by rfl) T.n_int (by decide +kernel) (pa_cons (pe_op op_add (pe_op op_add (pe_op op_mul (pv 1) pe_int) (pe_op op_modN (pe_callTy call_int1 (by rfl) T.n_int (by decide +kernel) (pa_cons (pv 2) pa_nil)) pe_int)) pe_int) pa_nil)) pe_int)))) (pss_one (ps_ret (pe_lst (pa_cons (pe_callTy call_list_of (by rfl) T.n_list (by decide +kernel) (pa_cons (pv 0) pa_nil)) (pa_cons pe_int (pa_cons pe_int (pa_cons (pv 1) pa_nil))))))))), ?_⟩
    refine sl_of (σ2 := [some _, none, none]) rfl ?_
    walk_at "st"
    walk_at "go"
    refine for_list (K := K) (a := a) (xs := ns.map V.int) (fun i σ H' => H' = H ∧ ∃ y, σ = [some (.ref a), some (.int (mixOf (ns.take i))), y]) ⟨rfl, none, rfl⟩ (fun i σ H' _ e => by rw [e.1]; exact hS) ?_ ?_
    · rintro i x σ H' hi ⟨rfl, y, rfl⟩
      obtain ⟨z, hz, rfl⟩ := get_int hi
      walk_at "go"
      exact ⟨rfl, _, by rw [mixOf_take hz]; rfl⟩
    · rintro σ H' ⟨rfl, y, rfl⟩
      walk_at "go"
      intro l hl
      walk_at "go"
      intro p hp
      rw [List.take_of_length_le (by simp)]
      refine q _ _ l ?_ ?_ ⟨?_, ?_, ?_⟩
      · walk_at "ex"
      · walk_at "free"
      · walk_at "ne"
      · walk_at "hp"
      · walk_at "hp"
def spDraw : Sp := fun vs H Q _ => ∃ (s : Addr) (m : Stm) (n : Int), vs = [.ref s, .int n] ∧ StAt H s m ∧ 0 < n ∧ n < 1073741824 ∧ ∀ H', Fr s H H' → StAt H' s (m.next n) → Q (.int (m.val n)) H'
theorem ok_draw {f : Addr} {fd : FuncData} {k : Nat} (F : Fun K "_law_draw" "_law_draw" s_law_draw f fd) (T : Txt w K mg tk cl) : FnOk P w K mg base CX0 (k + 1) f fd ["stream", "many"] spDraw := by
  refine F.ok sc_law_draw (fun vs H Q E h => ?_) (fun cdv A outer s H vs Q E hr h => ?_)
  · obtain ⟨a, m, n, rfl, _⟩ := h
    rfl
  · obtain ⟨a, m, n, rfl, ⟨hla, ha, hl⟩, n0, n1, q⟩ := h
    refine ⟨_, (pss_cut (ps_if (PW.pt (pw_and (pt_cmpR op_eq (pe_ix ix_list (pv 0) pe_int (fun _ _ => rfl)) pe_int (nomark _)) (pw_and1 (pt_cmpR op_lt (pe_ix ix_list (pv 0) pe_int (fun _ _ => rfl)) (pe_callB call_len_seq (by rfl) T.n_len (by decide +kernel) (pa_cons (pe_ix ix_list (pv 0) pe_int (fun _ _ => rfl)) pa_nil)) (nomark _))))) (pss_cons (ps_asg (pe_callB call_abs (by rfl) T.n_abs (by decide +kernel) (pa_cons (pe_callTy call_int1 (by rfl) T.n_int (by decide +kernel) (pa_cons (pe_ix ix_list (pe_ix ix_list (pv 0) pe_int (fun _ _ => rfl)) (pe_ix ix_list (pv 0) pe_int (fun _ _ => rfl)) (fun _ _ => rfl)) pa_nil)) pa_nil)) (pg_sub (pv 0) pe_int set_list)) (pss_one (ps_asg (pe_op op_add (pe_ix ix_list (pv 0) pe_int (fun _ _ => rfl)) pe_int) (pg_sub (pv 0) pe_int set_list)))) pss_nil) (pss_cons (ps_if (pt_cmpR op_eq (pe_ix ix_list (pv 0) pe_int (fun _ _ => rfl)) pe_int (nomark _)) (pss_cons (ps_asg (pe_op op_modN (pe_callTy call_int1 (by rfl) T.n_int (by decide +kernel) (pa_cons (pe_op op_add (pe_op op_mul (pe_ix ix_list (pv 0) pe_int (fun _ _ => rfl)) pe_int) pe_int) pa_nil)) pe_int) (pg_sub (pv 0) pe_int set_list)) (pss_one (ps_ret (pe_op op_modN (pe_callTy call_int1 (by rfl) T.n_int (by decide +kernel) (pa_cons (pe_op op_fdivN (pe_ix ix_list (pv 0) pe_int (fun _ _ => rfl)) pe_int) pa_nil)) (pv 1))))) pss_nil) (pss_cons (ps_set (i := 2) sc_law_draw.nd rfl (.inl rfl) (pe_op op_modN (pe_callTy call_int1 (by rfl) T.n_int (by decide +kernel) (pa_cons (pe_ix ix_list (pv 0) pe_int (fun _ _ => rfl)) pa_nil)) (pv 1))) (pss_cons (ps_asg (pe_op op_fdivN (pe_ix ix_list (pv 0) pe_int (fun _ _ => rfl)) (pv 1)) (pg_sub (pv 0) pe_int set_list)) (pss_one (ps_ret (pv 2))))))), ?_⟩
    refine sl_of (σ2 := [some _, some _, none]) rfl ?_
    walk_at "st"
    walk_at "go"
    refine w_cut (M := fun σ' H' => σ' = [some (.ref a), some (.int n), none] ∧ Fr a H H' ∧ H' a = some (.lst [.ref m.home, .int m.take.cur, .int m.take.pos, .int m.take.mix]) ∧ H' m.home = some (.lst (m.cells.map V.int))) ?_ ?_
    · walk_at "go"
      refine w_brI (fun hc => ?_) (fun hc => ?_)
      · walk_at "go"
        refine w_br (fun hp => ?_) (fun hp => ?_)
        · rw [List.length_map] at hp
          have hp2 : m.pos < m.cells.length := by omega
          have e : m.take = { m with cur := (if m.cells.getD m.pos 0 < 0 then -(m.cells.getD m.pos 0) else m.cells.getD m.pos 0), pos := m.pos + 1 } := if_pos ⟨hc, hp2⟩
          walk_at "go"
          refine ⟨rfl, ?_, ?_, ?_⟩
          · walk_at "fr"
          · rw [e]
            exact upd_same
          · walk_at "hp"
        · rw [List.length_map] at hp
          have e : m.take = m := if_neg (fun z => hp (by omega))
          walk_at "go"
          rw [e]
          exact ⟨rfl, Fr.refl _ _, ha, hl⟩
      · have e : m.take = m := if_neg (fun z => hc z.1)
        walk_at "go"
        rw [e]
        exact ⟨rfl, Fr.refl _ _, ha, hl⟩
    · rintro σ' H' ⟨rfl, fr, ea, el⟩
      walk_at "go"
      refine w_brI (fun hc => ?_) (fun hc => ?_)
      · walk_at "go"
        have e1 : m.next n = m.take.turn := if_pos hc
        have e2 : m.val n = (m.take.turn.mix.fdiv 97).fmod n := if_pos hc
        rw [e1, e2] at q
        refine q _ ?_ ⟨?_, ?_, ?_⟩
        · walk_at "fr"
        · show m.take.home ≠ a
          rw [m.take_home]
          exact hla
        · show _ = some (HO.lst [.ref m.take.home, _, _, _])
          rw [upd_same, m.take_home]
          rfl
        · show _ = some (HO.lst (List.map V.int m.take.cells))
          rw [m.take_cells]
          show upd _ a _ m.take.home = _
          rw [m.take_home]
          walk_at "hp"
      · walk_at "go"
        have e1 : m.next n = { m.take with cur := m.take.cur.fdiv n } := if_neg hc
        have e2 : m.val n = m.take.cur.fmod n := if_neg hc
        rw [e1, e2] at q
        refine q _ ?_ ⟨?_, ?_, ?_⟩
        · walk_at "fr"
        · show m.take.home ≠ a
          rw [m.take_home]
          exact hla
        · show _ = some (HO.lst [.ref m.take.home, _, _, _])
          rw [upd_same, m.take_home]
          rfl
        · show _ = some (HO.lst (List.map V.int m.take.cells))
          rw [m.take_cells]
          show upd _ a _ m.take.home = _
          rw [m.take_home]
          walk_at "hp"
def spDepths (K : PySem.W.Frag) : Sp := fun vs H Q _ => ∃ (a : Addr) (t : Tm), vs = [.ref a] ∧ SqT K H a t.enc ∧ t.enc.length ≤ 2000000 ∧ ∀ H' p, Ex H H' → H p = none → H' p = some (.lst (nums (t.deps 0))) → Q (.ref p) H'
def spEnd (K : PySem.W.Frag) : Sp := fun vs H Q _ => ∃ (a : Addr) (xs : List V) (s : Nat) (u : Tm) (post : List V), vs = [.ref a, .int (s : Int)] ∧ SqT K H a xs ∧ xs.drop s = u.enc ++ post ∧ xs.length ≤ 2000000 ∧ Q (.int ((s + u.enc.length : Nat) : Int)) H
end
end Ly
set_option Elab.async false
set_option linter.all false
set_option maxRecDepth 100000
set_option maxHeartbeats 8000000
namespace Ly
open PySem PySem.Spec PyProof.Rows L2 Evl
local macro_rules | `(tactic| walk_at "ne") => `(tactic| first
  | assumption
  | ((refine' Ne.symm ?hq); (case hq => assumption))
  | ((refine' ne_of_none ?nh1 ?nh2); (case nh2 => assumption); (case nh1 => walk_at "hp"))
  | ((refine' Ne.symm (ne_of_none ?nh1 ?nh2)); (case nh2 => assumption); (case nh1 => walk_at "hp")))
local macro_rules | `(tactic| walk_at "hp") => `(tactic| first
  | assumption
  | exact upd_same
  | ((refine' SqL.of ?hq); (case hq => walk_at "hp"))
  | ((refine' SqT.of ?hq); (case hq => walk_at "hp"))
  | ((refine' (upd_ne ?hne).trans ?hrest); (case hne => walk_at "ne"); (case hrest => walk_at "hp"))
  | ((refine' ly_at ?hex ?hh); (case hex => assumption); (case hh => walk_at "hp"))
  | ((refine' ly_atF ?hex ?hnn ?hh); (case hex => assumption); (case hh => walk_at "hp"); (case hnn => walk_at "ne"))
  | ((refine' ex_t ?hex ?hh); (case hh => assumption); (case hex => walk_at "ex"))
  | ((refine' ex_l ?hex ?hh); (case hh => assumption); (case hex => walk_at "ex")))
local macro_rules | `(tactic| walk_at "ex") => `(tactic| first
  | assumption
  | exact Ex.refl _
  | ((refine' ex_new ?xa ?xb); (case xb => assumption); (case xa => walk_at "ex"))
  | ((refine' ex_upd ?xa ?xb); (case xb => walk_at "free"); (case xa => walk_at "ex"))
  | ((refine' Ex.trans ?xa ?xb); (case xb => assumption); (case xa => walk_at "ex")))
local macro_rules | `(tactic| walk_at "free") => `(tactic| first
  | assumption
  | ((refine' fresh_back ?xa ?xb); (case xb => assumption); (case xa => walk_at "ex")))
local macro_rules | `(tactic| walk_at "fr") => `(tactic| first
  | assumption
  | exact Fr.refl _ _
  | ((refine' Fr.own ?hq); (case hq => walk_at "fr"))
  | ((refine' Fr.new ?xa ?xb); (case xb => assumption); (case xa => walk_at "fr"))
  | ((refine' Fr.mut ?xa ?xb); (case xb => assumption); (case xa => walk_at "fr"))
  | ((refine' Fr.trans ?xa ?xb); (case xb => assumption); (case xa => walk_at "fr"))
  | ((refine' Fr.trans ?xa (Fr.ex ?xb)); (case xb => assumption); (case xa => walk_at "fr")))
local macro_rules | `(tactic| walk_at "go1") => `(tactic| first
  | (with_reducible refine' w_seq ?_)
  | (with_reducible refine' w_asg ?_)
  | (with_reducible refine' w_ret ?_)
  | (with_reducible refine' w_drop ?_)
  | (with_reducible refine' w_if ?_)
  | (with_reducible refine' w_next ?_)
  | (with_reducible refine' w_name ?_)
  | (with_reducible refine' w_sub ?_)
  | ((with_reducible refine' w_var ?hv ?_); (case hv => exact rfl))
  | (with_reducible refine' w_c ?_)
  | (with_reducible refine' w_op ?_)
  | (with_reducible refine' w_un ?_)
  | (with_reducible refine' w_ch ?_)
  | (with_reducible refine' w_I0 ?_)
  | ((with_reducible refine' w_I ?hc ?_); (case hc => first | (exact ly_mulL (by decide) (by decide)) | (exact ly_mulR (by decide) (by decide)) | (exact ly_mulL (by omega) (by omega)) | (show (_ : Int) ≠ 0; decide) | (show (_ : Int) ≠ 0; omega) | (exact ⟨by decide, by decide⟩) | (exact ⟨by omega, by omega⟩)))
  | (with_reducible refine' w_U ?_)
  | ((with_reducible refine' w_eq ?hs ?_); (case hs => exact rfl))
  | ((with_reducible refine' w_ne ?hs ?_); (case hs => exact rfl))
  | (with_reducible refine' w_isB ?_)
  | (with_reducible refine' w_notB ?_)
  | (with_reducible refine' w_nil ?_)
  | (with_reducible refine' w_cons ?_)
  | (with_reducible refine' w_tup ?_)
  | (with_reducible refine' w_lst ?_)
  | (with_reducible refine' w_cb ?_)
  | (with_reducible refine' w_call ?_)
  | (with_reducible refine' w_bm ?_)
  | (with_reducible refine' w_bm0 ?_)
  | ((with_reducible refine' w_app ?hh ?hz ?_); (case hh => walk_at "hp"); (case hz => first | exact ly_lt (by omega) | exact ly_lt (by simp only [List.length_append, List.length_map, List.length_cons, List.length_nil]; omega)))
  | ((with_reducible refine' w_popA ?hh ?_); (case hh => walk_at "hp"))
  | ((with_reducible refine' w_ext ?hh ?hh2 ?hz ?_); (case hh => walk_at "hp"); (case hh2 => walk_at "hp"))
  | ((with_reducible refine' w_ixL ?hh ?ha ?_); (case hh => walk_at "hp"); (case ha => first | exact rfl | exact at_map (by omega) | exact atI_last _ _ | ((refine' at_of ?ae ?ah); (case ah => assumption); (case ae => omega))))
  | ((with_reducible refine' w_ixT ?hh ?ha ?_); (case hh => walk_at "hp"); (case ha => first | exact rfl | exact at_map (by omega) | exact atI_last _ _ | ((refine' at_of ?ae ?ah); (case ah => assumption); (case ae => omega))))
  | ((with_reducible refine' w_cat ?hh ?hh2 ?hz ?_); (case hh => walk_at "hp"); (case hh2 => walk_at "hp"))
  | ((with_reducible refine' w_setL ?hh ?ha ?_); (case hh => walk_at "hp"); (case ha => exact rfl))
  | (with_reducible refine' w_test ?_)
  | (with_reducible refine' w_tB ?_)
  | (with_reducible refine' w_bl ?_)
  | (with_reducible refine' w_and ?_)
  | (with_reducible refine' w_or ?_)
  | (with_reducible refine' w_not ?_)
  | (with_reducible refine' w_andV ?_)
  | (with_reducible refine' w_orV ?_)
  | (with_reducible refine' w_notV ?_)
  | (with_reducible refine' w_ifE ?_)
  | (with_reducible refine' w_for ?_)
  | ((with_reducible refine' w_nin ?hh ?_); (case hh => walk_at "hp"))
  | ((with_reducible refine' w_sorted ?hh ?_); (case hh => walk_at "hp"))
  | (with_reducible refine' w_tsadd ?_)
  | ((with_reducible refine' w_tsadd1 ?hh ?_); (case hh => walk_at "hp"))
  | ((with_reducible refine' w_sadd ?hh ?hr ?_); (case hh => walk_at "hp"); (case hr => omega))
  | (with_reducible refine' w_iZ ?_)
  | ((with_reducible refine' w_iZ1 ?hh ?hh2 ?_); (case hh => walk_at "hp"); (case hh2 => walk_at "hp"))
  | (with_reducible refine' w_iS ?_)
  | (with_reducible refine' w_iS1 ?_)
  | ((with_reducible refine' w_gtup ?hh ?hn ?_); (case hh => walk_at "hp"); (case hn => exact rfl))
  | (with_reducible refine' w_gcons ?_)
  | (with_reducible refine' w_gnil ?_)
  | (with_reducible refine' w_js ?_)
  | (with_reducible refine' w_jsn ?_)
  | ((with_reducible refine' w_js1 ?hl ?_); (case hl => decide +kernel))
  | (with_reducible refine' w_fmt ?_)
  | ((with_reducible refine' w_fmt1 ?hl ?_); (case hl => decide +kernel))
  | (with_reducible refine' w_callS ?_)
  | ((with_reducible refine' w_truL ?hh ?_); (case hh => walk_at "hp"))
  | (with_reducible refine' w_lc ?_)
  | (with_reducible refine' w_yes ?_)
  | ((with_reducible refine' w_wipe ?he ?_); (case he => exact rfl))
  | (with_reducible refine' w_iL ?_)
  | (with_reducible refine' w_iT ?_)
  | (with_reducible refine' w_iR ?_)
  | ((with_reducible refine' w_iL1 ?hh ?_); (case hh => walk_at "hp"))
  | ((with_reducible refine' w_iT1 ?hh ?_); (case hh => walk_at "hp"))
  | ((with_reducible refine' w_iR1 ?h1 ?h2 ?_); (case h1 => omega); (case h2 => omega))
  | ((with_reducible refine' w_aug ?hv ?_); (case hv => exact rfl))
  | (with_reducible refine' w_ipI ?_)
  | ((with_reducible refine' w_isi ?hy ?hk ?_); (case hy => walk_at "ty"); (case hk => walk_at "kit"))
  | ((with_reducible refine' w_int ?_))
  | ((with_reducible refine' w_intB ?_))
  | ((with_reducible refine' w_abs ?_))
  | ((with_reducible refine' w_lenL ?hh ?_); (case hh => walk_at "hp"))
  | ((with_reducible refine' w_lenT ?hh ?_); (case hh => walk_at "hp"))
  | ((with_reducible refine' w_tupL ?hh ?_); (case hh => walk_at "hp"))
  | ((with_reducible refine' w_tupT ?hh ?_); (case hh => walk_at "hp"))
  | ((with_reducible refine' w_catA ?hh ?hh2 ?hz ?_); (case hh => walk_at "hp"); (case hh2 => walk_at "hp"); (case hz => walk_at "len"))
  | ((with_reducible refine' w_repB ?hh ?hne ?h2 ?h3 ?hz ?_); (case hh => walk_at "hp"); (case hne => simp); (case h2 => omega); (case h3 => omega); (case hz => exact Nat.le_of_ble_eq_true rfl))
  | ((with_reducible refine' w_eqN ?hh ?hh2 ?n1 ?n2 ?_); (case hh => walk_at "hp"); (case hh2 => walk_at "hp"); (case n1 => walk_at "nd"); (case n2 => walk_at "nd"))
  | ((with_reducible refine' w_neN ?hh ?hh2 ?n1 ?n2 ?_); (case hh => walk_at "hp"); (case hh2 => walk_at "hp"); (case n1 => walk_at "nd"); (case n2 => walk_at "nd"))
  | ((with_reducible refine' w_eqL ?hh ?hh2 ?n1 ?n2 ?_); (case hh => walk_at "hp"); (case hh2 => walk_at "hp"); (case n1 => walk_at "nd"); (case n2 => walk_at "nd"))
  | ((with_reducible refine' w_neL ?hh ?hh2 ?n1 ?n2 ?_); (case hh => walk_at "hp"); (case hh2 => walk_at "hp"); (case n1 => walk_at "nd"); (case n2 => walk_at "nd"))
  | ((with_reducible refine' w_neNon ?hh2 ?n2 ?_); (case hh2 => walk_at "hp"); (case n2 => walk_at "nd"))
  | ((with_reducible refine' w_eqNon ?hh2 ?n2 ?_); (case hh2 => walk_at "hp"); (case n2 => walk_at "nd"))
  | ((with_reducible refine' w_slA ?hh ?_); (case hh => walk_at "hp"))
  | ((with_reducible refine' w_disp ?hz ?_); (case hz => exact sz_of (Nat.le_of_ble_eq_true rfl)))
  | ((with_reducible refine' w_tyL ?hh ?_); (case hh => walk_at "hp"))
  | (with_reducible refine' iteT ?_)
  | (with_reducible refine' iteF ?_)
  | (with_reducible refine' w_nT ?_)
  | (with_reducible refine' w_nn ?_)
  | (with_reducible refine' w_nnT ?_)
  | (with_reducible refine' w_nnR ?_)
  | (with_reducible refine' w_neG ?_)
  | (with_reducible refine' w_eqG ?_)
  | (with_reducible refine' w_neS ?_)
  | (with_reducible refine' w_eqS ?_)
  | (with_reducible refine' w_neSb ?_)
  | (with_reducible refine' w_eqSb ?_)
  | (with_reducible refine' w_deIS ?_)
  | (with_reducible refine' w_deSI ?_)
  | (with_reducible refine' w_deISn ?_)
  | ((with_reducible refine' w_deST ?he ?_); (case he => decide +kernel))
  | ((with_reducible refine' w_deSF ?he ?_); (case he => decide +kernel))
  | ((with_reducible refine' w_deSTn ?he ?_); (case he => decide +kernel))
  | ((with_reducible refine' w_deSFn ?he ?_); (case he => decide +kernel))
  | (with_reducible refine' w_nF ?_)
  | dsimp only [Bool.not_true, Bool.not_false])
local macro_rules | `(tactic| walk_at "ty") => `(tactic| first
  | exact .base (.int _) | exact .base (.str _) | exact .base (.bl _) | exact .base .non
  | ((refine' tyx_t ?hq); (case hq => walk_at "hp")) | ((refine' tyx_l ?hq); (case hq => walk_at "hp")) | ((refine' .base (.tup ?hq)); (case hq => walk_at "hp")) | assumption)
local macro_rules | `(tactic| walk_at "go") => `(tactic| repeat walk_at "go1")
local macro_rules | `(tactic| walk_at "st") => `(tactic| try dsimp only [cxOf, Cx.nox, Cx.wish])
local macro_rules | `(tactic| walk_at "kit") => `(tactic| with_reducible first | exact kit_int_int | exact kit_int_str | exact kit_int_bool | exact kit_int_tuple | exact kit_int_list | exact kit_str_int | exact kit_str_str | exact kit_str_bool | exact kit_str_tuple | exact kit_str_list | exact kit_bool_int | exact kit_bool_str | exact kit_bool_bool | exact kit_bool_tuple | exact kit_bool_list | exact kit_NoneType_int | exact kit_NoneType_str | exact kit_NoneType_bool | exact kit_NoneType_tuple | exact kit_NoneType_list | exact kit_list_int | exact kit_list_str | exact kit_list_bool | exact kit_list_tuple | exact kit_list_list | exact kit_tuple_int | exact kit_tuple_str | exact kit_tuple_bool | exact kit_tuple_tuple | exact kit_tuple_list)
local macro_rules | `(tactic| walk_at "nd") => `(tactic| first
  | assumption
  | exact Tm.nds _
  | exact Nds.nil
  | exact Nds.ofInts _
  | ((refine' Nds.cons ?na ?nb); (case na => first | exact Nds.I _ | exact Nds.L | exact Nds.A); (case nb => walk_at "nd"))
  | ((refine' Nds.app ?na ?nb); (case na => walk_at "nd"); (case nb => walk_at "nd"))
  | ((refine' Nds.rep ?na _); (case na => walk_at "nd")))
local macro_rules | `(tactic| walk_at "len") => `(tactic| first
  | exact ly_sz (by omega)
  | ((simp only [List.length_append, List.length_cons, List.length_nil, List.length_map, PyProof.Rows.lm_len_rep_flat]); exact ly_sz (by omega)))
local macro_rules | `(tactic| walk_at "go1") => `(tactic| first
  | (with_reducible refine' w_kget2 ?_)
  | (with_reducible refine' w_isRN ?_)
  | (with_reducible refine' w_isNN ?_)
  | (with_reducible refine' w_isIN ?_)
  | ((with_reducible refine' w_kg ?hd ?_); (case hd => assumption)))

section
variable {P : Program} {w : World} {K : PySem.W.Frag} {mg : Str → Option Value} {base : Heap} {tk : Nat → Tok} {cl : Nat → Addr}
/-! ### what is too large -/
def spSize (C : Addr) : Sp := fun vs H Q E => ∃ n : Int, vs = [.int n] ∧ (n ≤ 1000 → Q .non H) ∧ (¬ n ≤ 1000 → E (.ref C) none H)
theorem ok_check_size {f : Addr} {fd : FuncData} {k : Nat} (F : Fun K "check_size" "check_size" s_check_size f fd) (T : Txt w K mg tk cl) : FnOk P w K mg base (L2.CX P w) (k + 1) f fd ["size"] (spSize (cl 1)) := by
  refine F.okX sc_check_size (fun vs H Q E h => ?_) (fun cdv A outer s H vs Q E hr h => ?_)
  · obtain ⟨n, rfl, _⟩ := h
    rfl
  · obtain ⟨n, rfl, q, x⟩ := h
    refine ⟨_, (pss_one (ps_if (pt_cmpR op_gt (pv 0) (pe_glob (v := .int 1000) rfl T.g_MOST_NODES ⟨_, rfl⟩) (nomark _)) (pss_one (ps_raise rfl (takes_of rfl rfl rfl rfl) (SkE.pmk_own1 PySem.F.excBase_ValueError T.x_TooLarge T.g_TooLarge T.k_TooLarge (raises_own T.b_TooLarge T.t_TooLarge) rfl (pe_joined (.cons pe_str (.cons (pe_fmt (pe_glob (v := .int 1000) rfl T.g_MOST_NODES ⟨_, rfl⟩)) (.cons pe_str .nil))))))) pss_nil)), ?_⟩
    refine sl_of (σ2 := [some _]) rfl ?_
    walk_at "st"
    walk_at "go"
    refine w_br (fun h1 => ?_) (fun h1 => ?_)
    · walk_at "go"
      exact x (by omega)
    · walk_at "go"
      exact q (by omega)
def spChecked (K : PySem.W.Frag) (C : Addr) : Sp := fun vs H Q E => ∃ a xs, vs = [.ref a] ∧ SqT K H a xs ∧ Flat xs ∧ (fitsV xs = true → Q (.ref a) H) ∧ (fitsV xs = false → E (.ref C) none H)
theorem ok_checked {f : Addr} {fd : FuncData} (F : Fun K "checked" "checked" s_checked f fd) (T : Txt w K mg tk cl)
    (D1 : Def P w K mg base (L2.CX P w) 1 "check_size" ["size"] (spSize (cl 1))) : FnOk P w K mg base (L2.CX P w) 2 f fd ["term"] (spChecked K (cl 1)) := by
  obtain ⟨f1, fd1, g_check_size, kp_check_size, b_check_size, G_check_size⟩ := D1
  refine F.okX sc_checked (fun vs H Q E h => ?_) (fun cdv A outer s H vs Q E hr h => ?_)
  · obtain ⟨a, xs, rfl, _⟩ := h
    rfl
  · obtain ⟨a, xs, rfl, hS, hf, q, x⟩ := h
    refine ⟨_, (pss_cons (ps_expr (pe_call G_check_size (hr.mono (by first | decide | omega)) (by rfl) g_check_size kp_check_size b_check_size .nil (passes_call (takes_of rfl rfl rfl rfl) (fun _ _ _ _ h => h)) (pa_cons (pe_callB call_len_seq (by rfl) T.n_len (by decide +kernel) (pa_cons (pv 0) pa_nil)) pa_nil))) (pss_cons (ps_for (passes_of rfl) rfl (pi_tup (pv 0)) (pg_name (i := 1) sc_checked.nd rfl (.inl rfl)) (pss_one (ps_if (PW.pt (pw_and (pt_val (pe_callB call_isi (by rfl) T.n_isinstance (by decide +kernel) (pa_cons (pv 1) (pa_cons (pe_bltn (v := .ty "int") (by rfl) T.n_int (by decide +kernel) rfl) pa_nil)))) (pw_and1 (pt_cmpR op_gt (pv 1) (pe_glob (v := .int 1000000) rfl T.g_MOST_VARIABLE ⟨_, rfl⟩) (nomark _))))) (pss_one (ps_raise rfl (takes_of rfl rfl rfl rfl) (SkE.pmk_own1 PySem.F.excBase_ValueError T.x_TooLarge T.g_TooLarge T.k_TooLarge (raises_own T.b_TooLarge T.t_TooLarge) rfl (pe_joined (.cons pe_str (.cons (pe_fmt (pe_glob (v := .int 1000000) rfl T.g_MOST_VARIABLE ⟨_, rfl⟩)) .nil)))))) pss_nil))) (pss_one (ps_ret (pv 0))))), ?_⟩
    refine sl_of (σ2 := [some _, none]) rfl ?_
    walk_at "st"
    walk_at "go"
    refine ⟨_, rfl, fun h1 => ?_, fun h1 => x (by simp [fitsV]; omega)⟩
    have h2 : xs.length ≤ 1000 := by omega
    walk_at "go"
    refine for_tup (K := K) (a := a) (xs := xs) (fun i σ H' => H' = H ∧ ∃ y, σ = [some (.ref a), y] ∧ (xs.take i).all okV = true) ⟨rfl, none, rfl, rfl⟩ (fun i σ H' _ e => by rw [e.1]; exact hS) ?_ ?_
    · rintro i v σ H' hi ⟨rfl, y, rfl, hall⟩
      have hv : v ∈ xs := List.mem_of_getElem? hi
      have bad : okV v = false → fitsV xs = false := fun e => by
        have : xs.all okV = false := List.all_eq_false.mpr ⟨v, hv, by simp [e]⟩
        simp [fitsV, this]
      have good : okV v = true → (xs.take (i + 1)).all okV = true := fun e => by
        rw [List.take_add_one, hi, List.all_append, hall]
        simp [e]
      rcases hf v hv with ⟨j, rfl⟩ | ⟨z, rfl⟩
      · walk_at "go"
        refine w_br (fun h3 => ?_) (fun h3 => ?_)
        · walk_at "go"
          exact x (bad (by simp [okV]; omega))
        · walk_at "go"
          exact ⟨rfl, _, rfl, good (by simp [okV]; omega)⟩
      · walk_at "go"
        exact ⟨rfl, _, rfl, good rfl⟩
    · rintro σ H' ⟨rfl, y, rfl, hall⟩
      walk_at "go"
      rw [List.take_length] at hall
      exact q (by simp [fitsV, h2]; simpa using hall)
def freeV : V → Int → Bool
  | .int i, d => decide (d ≤ i)
  | _, _ => false
def spFree1 : Sp := fun vs H Q _ => ∃ (v : V) (d : Int), vs = [v, .int d] ∧ ((∃ i, v = .int i) ∨ ∃ z, v = .str z) ∧ Q (.bl (freeV v d)) H
def spLifted (K : PySem.W.Frag) : Sp := fun vs H Q _ => ∃ (a : Addr) (t : Tm) (c : Nat), vs = [.ref a, .int (c : Int)] ∧ SqT K H a t.enc ∧ t.enc.length ≤ 2000000 ∧
  ∀ H' p, Ex H H' → H p = none → H' p = some (.lst (t.vmap (lif c) 0).enc) → Q (.ref p) H'
def spPut (K : PySem.W.Frag) (C : Addr) : Sp := fun vs H Q E => ∃ (a b : Addr) (t u : Tm), vs = [.ref a, .ref b] ∧ SqT K H a t.enc ∧ SqT K H b u.enc ∧ t.enc.length ≤ 20000 ∧ u.enc.length ≤ 20000 ∧
  (fitsV (Tm.put u 0 t).enc = true → ∀ p H', Ex H H' → SqT K H' p (Tm.put u 0 t).enc → Q (.ref p) H') ∧ (fitsV (Tm.put u 0 t).enc = false → ∀ H', Ex H H' → E (.ref C) none H')

end
end Ly
set_option Elab.async false
set_option linter.all false
set_option maxRecDepth 100000
set_option maxHeartbeats 8000000
namespace Ly
open PySem PySem.Spec PyProof.Rows L2 Evl
local macro_rules | `(tactic| walk_at "ne") => `(tactic| first
  | assumption
  | ((refine' Ne.symm ?hq); (case hq => assumption))
  | ((refine' ne_of_none ?nh1 ?nh2); (case nh2 => assumption); (case nh1 => walk_at "hp"))
  | ((refine' Ne.symm (ne_of_none ?nh1 ?nh2)); (case nh2 => assumption); (case nh1 => walk_at "hp")))
local macro_rules | `(tactic| walk_at "hp") => `(tactic| first
  | assumption
  | exact upd_same
  | ((refine' SqL.of ?hq); (case hq => walk_at "hp"))
  | ((refine' SqT.of ?hq); (case hq => walk_at "hp"))
  | ((refine' (upd_ne ?hne).trans ?hrest); (case hne => walk_at "ne"); (case hrest => walk_at "hp"))
  | ((refine' ly_at ?hex ?hh); (case hex => assumption); (case hh => walk_at "hp"))
  | ((refine' ly_atF ?hex ?hnn ?hh); (case hex => assumption); (case hh => walk_at "hp"); (case hnn => walk_at "ne"))
  | ((refine' ex_t ?hex ?hh); (case hh => assumption); (case hex => walk_at "ex"))
  | ((refine' ex_l ?hex ?hh); (case hh => assumption); (case hex => walk_at "ex")))
local macro_rules | `(tactic| walk_at "ex") => `(tactic| first
  | assumption
  | exact Ex.refl _
  | ((refine' ex_new ?xa ?xb); (case xb => assumption); (case xa => walk_at "ex"))
  | ((refine' ex_upd ?xa ?xb); (case xb => walk_at "free"); (case xa => walk_at "ex"))
  | ((refine' Ex.trans ?xa ?xb); (case xb => assumption); (case xa => walk_at "ex")))
local macro_rules | `(tactic| walk_at "free") => `(tactic| first
  | assumption
  | ((refine' fresh_back ?xa ?xb); (case xb => assumption); (case xa => walk_at "ex")))
local macro_rules | `(tactic| walk_at "fr") => `(tactic| first
  | assumption
  | exact Fr.refl _ _
  | ((refine' Fr.own ?hq); (case hq => walk_at "fr"))
  | ((refine' Fr.new ?xa ?xb); (case xb => assumption); (case xa => walk_at "fr"))
  | ((refine' Fr.mut ?xa ?xb); (case xb => assumption); (case xa => walk_at "fr"))
  | ((refine' Fr.trans ?xa ?xb); (case xb => assumption); (case xa => walk_at "fr"))
  | ((refine' Fr.trans ?xa (Fr.ex ?xb)); (case xb => assumption); (case xa => walk_at "fr")))
local macro_rules | `(tactic| walk_at "go1") => `(tactic| first
  | (with_reducible refine' w_seq ?_)
  | (with_reducible refine' w_asg ?_)
  | (with_reducible refine' w_ret ?_)
  | (with_reducible refine' w_drop ?_)
  | (with_reducible refine' w_if ?_)
  | (with_reducible refine' w_next ?_)
  | (with_reducible refine' w_name ?_)
  | (with_reducible refine' w_sub ?_)
  | ((with_reducible refine' w_var ?hv ?_); (case hv => exact rfl))
  | (with_reducible refine' w_c ?_)
  | (with_reducible refine' w_op ?_)
  | (with_reducible refine' w_un ?_)
  | (with_reducible refine' w_ch ?_)
  | (with_reducible refine' w_I0 ?_)
  | ((with_reducible refine' w_I ?hc ?_); (case hc => first | (exact ly_mulL (by decide) (by decide)) | (exact ly_mulR (by decide) (by decide)) | (exact ly_mulL (by omega) (by omega)) | (show (_ : Int) ≠ 0; decide) | (show (_ : Int) ≠ 0; omega) | (exact ⟨by decide, by decide⟩) | (exact ⟨by omega, by omega⟩)))
  | (with_reducible refine' w_U ?_)
  | ((with_reducible refine' w_eq ?hs ?_); (case hs => exact rfl))
  | ((with_reducible refine' w_ne ?hs ?_); (case hs => exact rfl))
  | (with_reducible refine' w_isB ?_)
  | (with_reducible refine' w_notB ?_)
  | (with_reducible refine' w_nil ?_)
  | (with_reducible refine' w_cons ?_)
  | (with_reducible refine' w_tup ?_)
  | (with_reducible refine' w_lst ?_)
  | (with_reducible refine' w_cb ?_)
  | (with_reducible refine' w_call ?_)
  | (with_reducible refine' w_bm ?_)
  | (with_reducible refine' w_bm0 ?_)
  | ((with_reducible refine' w_app ?hh ?hz ?_); (case hh => walk_at "hp"); (case hz => first | exact ly_lt (by omega) | exact ly_lt (by simp only [List.length_append, List.length_map, List.length_cons, List.length_nil]; omega)))
  | ((with_reducible refine' w_popA ?hh ?_); (case hh => walk_at "hp"))
  | ((with_reducible refine' w_ext ?hh ?hh2 ?hz ?_); (case hh => walk_at "hp"); (case hh2 => walk_at "hp"))
  | ((with_reducible refine' w_ixL ?hh ?ha ?_); (case hh => walk_at "hp"); (case ha => first | exact rfl | exact at_map (by omega) | exact atI_last _ _ | ((refine' at_of ?ae ?ah); (case ah => assumption); (case ae => omega))))
  | ((with_reducible refine' w_ixT ?hh ?ha ?_); (case hh => walk_at "hp"); (case ha => first | exact rfl | exact at_map (by omega) | exact atI_last _ _ | ((refine' at_of ?ae ?ah); (case ah => assumption); (case ae => omega))))
  | ((with_reducible refine' w_cat ?hh ?hh2 ?hz ?_); (case hh => walk_at "hp"); (case hh2 => walk_at "hp"))
  | ((with_reducible refine' w_setL ?hh ?ha ?_); (case hh => walk_at "hp"); (case ha => exact rfl))
  | (with_reducible refine' w_test ?_)
  | (with_reducible refine' w_tB ?_)
  | (with_reducible refine' w_bl ?_)
  | (with_reducible refine' w_and ?_)
  | (with_reducible refine' w_or ?_)
  | (with_reducible refine' w_not ?_)
  | (with_reducible refine' w_andV ?_)
  | (with_reducible refine' w_orV ?_)
  | (with_reducible refine' w_notV ?_)
  | (with_reducible refine' w_ifE ?_)
  | (with_reducible refine' w_for ?_)
  | ((with_reducible refine' w_nin ?hh ?_); (case hh => walk_at "hp"))
  | ((with_reducible refine' w_sorted ?hh ?_); (case hh => walk_at "hp"))
  | (with_reducible refine' w_tsadd ?_)
  | ((with_reducible refine' w_tsadd1 ?hh ?_); (case hh => walk_at "hp"))
  | ((with_reducible refine' w_sadd ?hh ?hr ?_); (case hh => walk_at "hp"); (case hr => omega))
  | (with_reducible refine' w_iZ ?_)
  | ((with_reducible refine' w_iZ1 ?hh ?hh2 ?_); (case hh => walk_at "hp"); (case hh2 => walk_at "hp"))
  | (with_reducible refine' w_iS ?_)
  | (with_reducible refine' w_iS1 ?_)
  | ((with_reducible refine' w_gtup ?hh ?hn ?_); (case hh => walk_at "hp"); (case hn => exact rfl))
  | (with_reducible refine' w_gcons ?_)
  | (with_reducible refine' w_gnil ?_)
  | (with_reducible refine' w_js ?_)
  | (with_reducible refine' w_jsn ?_)
  | ((with_reducible refine' w_js1 ?hl ?_); (case hl => decide +kernel))
  | (with_reducible refine' w_fmt ?_)
  | ((with_reducible refine' w_fmt1 ?hl ?_); (case hl => decide +kernel))
  | (with_reducible refine' w_callS ?_)
  | ((with_reducible refine' w_truL ?hh ?_); (case hh => walk_at "hp"))
  | (with_reducible refine' w_lc ?_)
  | (with_reducible refine' w_yes ?_)
  | ((with_reducible refine' w_wipe ?he ?_); (case he => exact rfl))
  | (with_reducible refine' w_iL ?_)
  | (with_reducible refine' w_iT ?_)
  | (with_reducible refine' w_iR ?_)
  | ((with_reducible refine' w_iL1 ?hh ?_); (case hh => walk_at "hp"))
  | ((with_reducible refine' w_iT1 ?hh ?_); (case hh => walk_at "hp"))
  | ((with_reducible refine' w_iR1 ?h1 ?h2 ?_); (case h1 => omega); (case h2 => omega))
  | ((with_reducible refine' w_aug ?hv ?_); (case hv => exact rfl))
  | (with_reducible refine' w_ipI ?_)
  | ((with_reducible refine' w_isi ?hy ?hk ?_); (case hy => walk_at "ty"); (case hk => walk_at "kit"))
  | ((with_reducible refine' w_int ?_))
  | ((with_reducible refine' w_intB ?_))
  | ((with_reducible refine' w_abs ?_))
  | ((with_reducible refine' w_lenL ?hh ?_); (case hh => walk_at "hp"))
  | ((with_reducible refine' w_lenT ?hh ?_); (case hh => walk_at "hp"))
  | ((with_reducible refine' w_tupL ?hh ?_); (case hh => walk_at "hp"))
  | ((with_reducible refine' w_tupT ?hh ?_); (case hh => walk_at "hp"))
  | ((with_reducible refine' w_catA ?hh ?hh2 ?hz ?_); (case hh => walk_at "hp"); (case hh2 => walk_at "hp"); (case hz => walk_at "len"))
  | ((with_reducible refine' w_repB ?hh ?hne ?h2 ?h3 ?hz ?_); (case hh => walk_at "hp"); (case hne => simp); (case h2 => omega); (case h3 => omega); (case hz => exact Nat.le_of_ble_eq_true rfl))
  | ((with_reducible refine' w_eqN ?hh ?hh2 ?n1 ?n2 ?_); (case hh => walk_at "hp"); (case hh2 => walk_at "hp"); (case n1 => walk_at "nd"); (case n2 => walk_at "nd"))
  | ((with_reducible refine' w_neN ?hh ?hh2 ?n1 ?n2 ?_); (case hh => walk_at "hp"); (case hh2 => walk_at "hp"); (case n1 => walk_at "nd"); (case n2 => walk_at "nd"))
  | ((with_reducible refine' w_eqL ?hh ?hh2 ?n1 ?n2 ?_); (case hh => walk_at "hp"); (case hh2 => walk_at "hp"); (case n1 => walk_at "nd"); (case n2 => walk_at "nd"))
  | ((with_reducible refine' w_neL ?hh ?hh2 ?n1 ?n2 ?_); (case hh => walk_at "hp"); (case hh2 => walk_at "hp"); (case n1 => walk_at "nd"); (case n2 => walk_at "nd"))
  | ((with_reducible refine' w_neNon ?hh2 ?n2 ?_); (case hh2 => walk_at "hp"); (case n2 => walk_at "nd"))
  | ((with_reducible refine' w_eqNon ?hh2 ?n2 ?_); (case hh2 => walk_at "hp"); (case n2 => walk_at "nd"))
  | ((with_reducible refine' w_slA ?hh ?_); (case hh => walk_at "hp"))
  | ((with_reducible refine' w_disp ?hz ?_); (case hz => exact sz_of (Nat.le_of_ble_eq_true rfl)))
  | ((with_reducible refine' w_tyL ?hh ?_); (case hh => walk_at "hp"))
  | (with_reducible refine' iteT ?_)
  | (with_reducible refine' iteF ?_)
  | (with_reducible refine' w_nT ?_)
  | (with_reducible refine' w_nn ?_)
  | (with_reducible refine' w_nnT ?_)
  | (with_reducible refine' w_nnR ?_)
  | (with_reducible refine' w_neG ?_)
  | (with_reducible refine' w_eqG ?_)
  | (with_reducible refine' w_neS ?_)
  | (with_reducible refine' w_eqS ?_)
  | (with_reducible refine' w_neSb ?_)
  | (with_reducible refine' w_eqSb ?_)
  | (with_reducible refine' w_deIS ?_)
  | (with_reducible refine' w_deSI ?_)
  | (with_reducible refine' w_deISn ?_)
  | ((with_reducible refine' w_deST ?he ?_); (case he => decide +kernel))
  | ((with_reducible refine' w_deSF ?he ?_); (case he => decide +kernel))
  | ((with_reducible refine' w_deSTn ?he ?_); (case he => decide +kernel))
  | ((with_reducible refine' w_deSFn ?he ?_); (case he => decide +kernel))
  | (with_reducible refine' w_nF ?_)
  | dsimp only [Bool.not_true, Bool.not_false])
local macro_rules | `(tactic| walk_at "ty") => `(tactic| first
  | exact .base (.int _) | exact .base (.str _) | exact .base (.bl _) | exact .base .non
  | ((refine' tyx_t ?hq); (case hq => walk_at "hp")) | ((refine' tyx_l ?hq); (case hq => walk_at "hp")) | ((refine' .base (.tup ?hq)); (case hq => walk_at "hp")) | assumption)
local macro_rules | `(tactic| walk_at "go") => `(tactic| repeat walk_at "go1")
local macro_rules | `(tactic| walk_at "st") => `(tactic| try dsimp only [cxOf, Cx.nox, Cx.wish])
local macro_rules | `(tactic| walk_at "kit") => `(tactic| with_reducible first | exact kit_int_int | exact kit_int_str | exact kit_int_bool | exact kit_int_tuple | exact kit_int_list | exact kit_str_int | exact kit_str_str | exact kit_str_bool | exact kit_str_tuple | exact kit_str_list | exact kit_bool_int | exact kit_bool_str | exact kit_bool_bool | exact kit_bool_tuple | exact kit_bool_list | exact kit_NoneType_int | exact kit_NoneType_str | exact kit_NoneType_bool | exact kit_NoneType_tuple | exact kit_NoneType_list | exact kit_list_int | exact kit_list_str | exact kit_list_bool | exact kit_list_tuple | exact kit_list_list | exact kit_tuple_int | exact kit_tuple_str | exact kit_tuple_bool | exact kit_tuple_tuple | exact kit_tuple_list)
local macro_rules | `(tactic| walk_at "nd") => `(tactic| first
  | assumption
  | exact Tm.nds _
  | exact Nds.nil
  | exact Nds.ofInts _
  | ((refine' Nds.cons ?na ?nb); (case na => first | exact Nds.I _ | exact Nds.L | exact Nds.A); (case nb => walk_at "nd"))
  | ((refine' Nds.app ?na ?nb); (case na => walk_at "nd"); (case nb => walk_at "nd"))
  | ((refine' Nds.rep ?na _); (case na => walk_at "nd")))
local macro_rules | `(tactic| walk_at "len") => `(tactic| first
  | exact ly_sz (by omega)
  | ((simp only [List.length_append, List.length_cons, List.length_nil, List.length_map, PyProof.Rows.lm_len_rep_flat]); exact ly_sz (by omega)))
local macro_rules | `(tactic| walk_at "go1") => `(tactic| first
  | (with_reducible refine' w_kget2 ?_)
  | (with_reducible refine' w_isRN ?_)
  | (with_reducible refine' w_isNN ?_)
  | (with_reducible refine' w_isIN ?_)
  | ((with_reducible refine' w_kg ?hd ?_); (case hd => assumption)))
local macro_rules | `(tactic| walk_at "go1") => `(tactic| first
  | ((with_reducible refine' w_extT ?hh ?hh2 ?hz ?_); (case hh => walk_at "hp"); (case hh2 => walk_at "hp"))
  | ((with_reducible refine' w_I ?hc ?_); (case hc => exact ⟨by decide, by decide, by decide⟩))
  | (with_reducible refine' w_sl ?_)
  | (with_reducible refine' w_noP ?_)
  | (with_reducible refine' w_part ?_)
  | (with_reducible refine' w_part1 ?_)
  | (with_reducible refine' w_it ?_)
  | (with_reducible refine' w_it1 ?_)
  | ((with_reducible refine' w_lenZ ?hz ?_); (case hz => omega))
  | ((with_reducible refine' w_addZb ?hz ?_); (case hz => omega))
  | ((with_reducible refine' w_addZf ?hz ?_); (case hz => omega))
  | ((with_reducible refine' w_addZa ?hz ?_); (case hz => omega))
  | ((with_reducible refine' w_inS ?hh ?_); (case hh => walk_at "hp"))
  | ((with_reducible refine' w_ixT ?hh ?ha ?_); (case hh => assumption); (case ha => exact atI_nat (by assumption))))
local macro_rules | `(tactic| walk_at "go1") => `(tactic| first
  | (with_reducible refine' w_iR2 ?_)
  | ((with_reducible refine' w_iR21 ?h1 ?h2 ?h3 ?h4 ?_); (case h1 => omega); (case h2 => omega); (case h3 => omega); (case h4 => omega))
  | (with_reducible refine' w_nnI ?_)
  | (with_reducible refine' w_max ?_)
  | (with_reducible refine' w_break ?_)
  | (with_reducible refine' w_cont ?_))
local macro_rules | `(tactic| walk_at "go1") => `(tactic| first
  | (with_reducible refine' w_tdget ?_)
  | (with_reducible refine' w_tdin ?_)
  | (with_reducible refine' w_tdnotin ?_)
  | (with_reducible refine' w_sdput ?_)
  | (with_reducible refine' w_tdsetd ?_)
  | (with_reducible refine' w_dnew ?_))
local macro_rules | `(tactic| walk_at "go1") => `(tactic| first
  | (with_reducible refine' w_iZL ?_)
  | (with_reducible refine' w_sfld ?_)
  | (with_reducible refine' w_tfld ?_)
  | (with_reducible refine' w_make ?_)
  | fail)
local macro_rules | `(tactic| walk_at "go1") => `(tactic| first
  | (with_reducible refine' w_sfa ?_)
  | (with_reducible refine' w_tmP ?_)
  | (with_reducible refine' w_tdget2 ?_))
section
variable {P : Program} {w : World} {K : PySem.W.Frag} {mg : Str → Option Value} {base : Heap} {tk : Nat → Tok} {cl : Nat → Addr}
/-! ### a level -/
def spLvInit (C : Addr) : Sp := fun vs H Q _ => ∃ (x dx : Addr) (o : Str) (H0 : Hp) (F : Fp), vs = [.ref x, .str o] ∧ Own H0 H ((x, .ins C dx []) :: F) ∧ ∀ H' nl dl, Own H0 H' (lvFp C (x, dx, nl, dl) (Lv.new o) ++ F) → Q .non H'
theorem ok_lvinit {f : Addr} {fd : FuncData} {k : Nat} (F : Fun K "__init__" "Level.__init__" s_Level_init f fd) (T : Txt w K mg tk cl) : FnOk P w K mg base CX0 (k + 1) f fd ["self", "opener"] (spLvInit (cl 21)) := by
  refine F.ok sc_Level_init (fun vs H Q E h => ?_) (fun cdv A outer s H vs Q E hr h => ?_)
  · obtain ⟨_, _, _, _, _, rfl, _⟩ := h
    rfl
  · obtain ⟨x, dx, o, H0, F, rfl, ow, q⟩ := h
    refine ⟨_, (pss_cons (ps_fld (pv 0) (pv 1) rfl) (pss_cons (ps_fld (pv 0) (pe_cmpR op_eq (pv 1) pe_str (nomark _)) rfl) (pss_cons (ps_fld (pv 0) (pe_lst pa_nil) rfl) (pss_cons (ps_fld (pv 0) pe_int rfl) (pss_one (ps_fld (pv 0) (pe_lst pa_nil) rfl)))))), ?_⟩
    refine sl_of (σ2 := [some _, some _]) rfl ?_
    walk_at "st"
    walk_at "go"
    refine ⟨x, cl 21, dx, [], rfl, ow.at List.mem_cons_self, T.cls_Level, T.nf_Level_opener, by show 0 < 1000; decide, ?_⟩
    have ow := ow.put (u := .ins (cl 21) dx [("opener", .str o)])
    walk_at "go"
    refine ⟨x, cl 21, dx, [("opener", .str o)], rfl, ow.at List.mem_cons_self, T.cls_Level, T.nf_Level_naming, by show 1 < 1000; decide, ?_⟩
    have ow := ow.put (u := .ins (cl 21) dx [("opener", .str o), ("naming", .bl (decide (V.str o = V.str "\\")))])
    walk_at "go"
    intro nl hnl
    have ow := ow.new (u := .lst []) hnl
    have ow := ow.perm (List.Perm.swap ..)
    walk_at "go"
    refine ⟨x, cl 21, dx, [("opener", .str o), ("naming", .bl (decide (V.str o = V.str "\\")))], rfl, ow.at List.mem_cons_self, T.cls_Level, T.nf_Level_names, by show 2 < 1000; decide, ?_⟩
    have ow := ow.put (u := .ins (cl 21) dx [("opener", .str o), ("naming", .bl (decide (V.str o = V.str "\\"))), ("names", .ref nl)])
    walk_at "go"
    refine ⟨x, cl 21, dx, [("opener", .str o), ("naming", .bl (decide (V.str o = V.str "\\"))), ("names", .ref nl)], rfl, ow.at List.mem_cons_self, T.cls_Level, T.nf_Level_parts, by show 3 < 1000; decide, ?_⟩
    have ow := ow.put (u := .ins (cl 21) dx [("opener", .str o), ("naming", .bl (decide (V.str o = V.str "\\"))), ("names", .ref nl), ("parts", .int 0)])
    walk_at "go"
    intro dl hdl
    have ow := ow.new (u := .lst []) hdl
    have ow := ow.perm (List.Perm.swap ..)
    walk_at "go"
    refine ⟨x, cl 21, dx, [("opener", .str o), ("naming", .bl (decide (V.str o = V.str "\\"))), ("names", .ref nl), ("parts", .int 0)], rfl, ow.at List.mem_cons_self, T.cls_Level, T.nf_Level_nodes, by show 4 < 1000; decide, ?_⟩
    have ow := ow.put (u := .ins (cl 21) dx [("opener", .str o), ("naming", .bl (decide (V.str o = V.str "\\"))), ("names", .ref nl), ("parts", .int 0), ("nodes", .ref dl)])
    refine q _ nl dl ?_
    have e : decide (V.str o = V.str "\\") = decide (o = "\\") := by
      by_cases h : o = "\\"
      · rw [h, decide_eq_true rfl, decide_eq_true rfl]
      · rw [decide_eq_false h, decide_eq_false (fun z => h (V.str.inj z))]
    rw [e] at ow
    have ow := ow.perm (List.Perm.cons _ (List.Perm.swap ..))
    rw [e]
    exact ow
def spLvWhole (C : Addr) : Sp := fun vs H Q _ => ∃ (x dx nl dl : Addr) (l : Lv), vs = [.ref x] ∧ H x = some (.ins C dx (lvFs l nl dl)) ∧ Q (.bl l.whole) H
theorem ok_lvwhole {f : Addr} {fd : FuncData} {k : Nat} (F : Fun K "is_whole" "Level.is_whole" s_Level_is_whole f fd) (T : Txt w K mg tk cl) : FnOk P w K mg base CX0 (k + 1) f fd ["self"] (spLvWhole (cl 21)) := by
  refine F.ok sc_Level_is_whole (fun vs H Q E h => ?_) (fun cdv A outer s H vs Q E hr h => ?_)
  · obtain ⟨_, _, _, _, _, rfl, _⟩ := h
    rfl
  · obtain ⟨x, dx, nl, dl, l, rfl, hx, q⟩ := h
    refine ⟨_, (pss_one (ps_ret (pe_and (pe_not (pe_fld (pv 0) rfl)) (pe_one (pe_cmpR op_gt (pe_fld (pv 0) rfl) pe_int (nomark _)))))), ?_⟩
    refine sl_of (σ2 := [some _]) rfl ?_
    walk_at "st"
    walk_at "go"
    refine ⟨x, cl 21, dx, _, _, rfl, hx, T.cls_Level, T.nf_Level_naming, (by rfl : List.lookup ("naming" : Str) (lvFs l nl dl) = some (.bl l.nm)), ?_⟩
    walk_at "go"
    unfold Lv.whole at q
    cases hn : l.nm with
    | true =>
      rw [hn] at q
      exact iteF q
    | false =>
      rw [hn] at q
      refine iteT ?_
      walk_at "go"
      refine ⟨x, cl 21, dx, _, _, rfl, hx, T.cls_Level, T.nf_Level_parts, (by rfl : List.lookup ("parts" : Str) (lvFs l nl dl) = some (.int (l.pt : Int))), ?_⟩
      walk_at "go"
      have e : decide ((0 : Int) < (l.pt : Int)) = decide (0 < l.pt) := by
        by_cases h : 0 < l.pt
        · rw [decide_eq_true h, decide_eq_true (by omega)]
        · rw [decide_eq_false h, decide_eq_false (by omega)]
      first | (rw [e]; exact q) | (rw [show decide ((l.pt : Int) > 0) = decide (0 < l.pt) from e]; exact q)
def spLvAdd (C : Addr) : Sp := fun vs H Q _ => ∃ (x dx nl dl p : Addr) (l : Lv) (xs : List V) (H0 : Hp) (F : Fp), vs = [.ref x, .ref p] ∧ Own H0 H (lvFp C (x, dx, nl, dl) l ++ F) ∧ H p = some (.lst xs) ∧ p ≠ dl ∧ l.nd.length + xs.length ≤ 1000000 ∧
  ∀ H', Own H0 H' (lvFp C (x, dx, nl, dl) (l.add xs) ++ F) → Q .non H'
theorem ok_lvadd {f : Addr} {fd : FuncData} {k : Nat} (F : Fun K "add_part" "Level.add_part" s_Level_add_part f fd) (T : Txt w K mg tk cl) : FnOk P w K mg base CX0 (k + 1) f fd ["self", "nodes"] (spLvAdd (cl 21)) := by
  refine F.ok sc_Level_add_part (fun vs H Q E h => ?_) (fun cdv A outer s H vs Q E hr h => ?_)
  · obtain ⟨_, _, _, _, _, _, _, _, _, rfl, _⟩ := h
    rfl
  · obtain ⟨x, dx, nl, dl, p, l, xs, H0, F, rfl, ow, hp, hpd, hz, q⟩ := h
    refine ⟨_, (pss_cons (ps_fldaug (pv 0) pe_int in_add) (pss_one (ps_expr (pe_bm PySem.F.plainAttrs_list PySem.F.slot_list_extend PySem.F.type_list_extend mt_extend (pe_fld (pv 0) rfl) (pa_cons (pv 1) pa_nil))))), ?_⟩
    refine sl_of (σ2 := [some _, some _]) rfl ?_
    walk_at "st"
    walk_at "go"
    have hx : H x = some (.ins (cl 21) dx (lvFs l nl dl)) := ow.at (by simp [lvFp])
    have hpx : p ≠ x := ne_of hp hx (fun z => by cases z)
    refine ⟨x, cl 21, dx, _, _, rfl, hx, T.cls_Level, T.nf_Level_parts, (by rfl : List.lookup ("parts" : Str) (lvFs l nl dl) = some (.int (l.pt : Int))), ?_⟩
    refine ⟨_, _, rfl, rfl, ?_⟩
    refine ⟨dx, _, hx, by show 5 < 1000; decide, ?_⟩
    have ow := ow.put (u := .ins (cl 21) dx (putF "parts" (.int ((l.pt : Int) + 1)) (lvFs l nl dl)))
    have hx1 := ow.at List.mem_cons_self
    have hp1 : upd H x (.ins (cl 21) dx (putF "parts" (.int ((l.pt : Int) + 1)) (lvFs l nl dl))) p = some (.lst xs) := by rw [upd_ne hpx]; exact hp
    walk_at "go"
    refine ⟨x, cl 21, dx, _, _, rfl, hx1, T.cls_Level, T.nf_Level_nodes, (by rfl : List.lookup ("nodes" : Str) (putF "parts" (.int ((l.pt : Int) + 1)) (lvFs l nl dl)) = some (.ref dl)), ?_⟩
    have hd1 := ow.at (a := dl) (o := .lst l.nd) (by simp [lvFp])
    refine w_tyL (SqL.of hd1) ?_
    walk_at "go"
    · exact Nat.le_of_lt (ly_lt (by omega))
    have ow := Own.set 2 (u := .lst (l.nd ++ xs)) ow (by rfl)
    walk_at "go"
    exact q _ ow
def spLvAll (C : Addr) : Sp := fun vs H Q _ => ∃ (x dx nl dl : Addr) (l : Lv), vs = [.ref x] ∧ H x = some (.ins C dx (lvFs l nl dl)) ∧ H nl = some (.lst (txts l.ns)) ∧ H dl = some (.lst l.nd) ∧ l.size ≤ 1000000 ∧ ∀ H' p, Ex H H' → H p = none → H' p = some (.lst l.all) → Q (.ref p) H'
theorem ok_lvall {f : Addr} {fd : FuncData} {k : Nat} (F : Fun K "all_nodes" "Level.all_nodes" s_Level_all_nodes f fd) (T : Txt w K mg tk cl) : FnOk P w K mg base CX0 (k + 1) f fd ["self"] (spLvAll (cl 21)) := by
  refine F.ok sc_Level_all_nodes (fun vs H Q E h => ?_) (fun cdv A outer s H vs Q E hr h => ?_)
  · obtain ⟨_, _, _, _, _, rfl, _⟩ := h
    rfl
  · obtain ⟨x, dx, nl, dl, l, rfl, hx, hn, hd, hz, q⟩ := h
    refine ⟨_, (pss_one (ps_ret (pe_op op_cat (pe_op op_cat (pe_op op_rep (pe_lst (pa_cons pe_str pa_nil)) (pe_callB call_len_seq (by rfl) T.n_len (by decide +kernel) (pa_cons (pe_fld (pv 0) rfl) pa_nil))) (pe_op op_rep (pe_lst (pa_cons pe_str pa_nil)) (pe_op op_sub (pe_fld (pv 0) rfl) pe_int))) (pe_fld (pv 0) rfl)))), ?_⟩
    refine sl_of (σ2 := [some _]) rfl ?_
    walk_at "st"
    walk_at "go"
    intro p1 hp1
    walk_at "go"
    have hx1 : upd H p1 (.lst [V.str "lam"]) x = some (.ins (cl 21) dx (lvFs l nl dl)) := by walk_at "hp"
    refine ⟨x, cl 21, dx, _, _, rfl, hx1, T.cls_Level, T.nf_Level_names, (by rfl : List.lookup ("names" : Str) (lvFs l nl dl) = some (.ref nl)), ?_⟩
    have hn1 : upd H p1 (.lst [V.str "lam"]) nl = some (.lst (txts l.ns)) := by walk_at "hp"
    walk_at "go"
    have hz2 := hz
    unfold Lv.size at hz2
    refine ⟨p1, _, _, rfl, rfl, upd_same, by omega, by simp; omega, by simp; exact Nat.le_of_lt (ly_lt (by omega)), fun p2 hp2 => ?_⟩
    walk_at "go"
    intro p3 hp3
    have e3 : Ex H (upd (upd (upd H p1 (.lst [V.str "lam"])) p2 (.lst (List.replicate ((txts l.ns).length : Int).toNat [V.str "lam"]).flatten)) p3 (.lst [V.str "app"])) := by walk_at "ex"
    have hx3 := e3 _ _ hx
    have h23 : upd (upd (upd H p1 (.lst [V.str "lam"])) p2 (.lst (List.replicate ((txts l.ns).length : Int).toNat [V.str "lam"]).flatten)) p3 (.lst [V.str "app"]) p2 = some (.lst (List.replicate ((txts l.ns).length : Int).toNat [V.str "lam"]).flatten) := by walk_at "hp"
    have h33 : upd (upd (upd H p1 (.lst [V.str "lam"])) p2 (.lst (List.replicate ((txts l.ns).length : Int).toNat [V.str "lam"]).flatten)) p3 (.lst [V.str "app"]) p3 = some (.lst [V.str "app"]) := upd_same
    generalize upd (upd (upd H p1 (.lst [V.str "lam"])) p2 (.lst (List.replicate ((txts l.ns).length : Int).toNat [V.str "lam"]).flatten)) p3 (.lst [V.str "app"]) = H3 at *
    walk_at "go"
    refine ⟨x, cl 21, dx, _, _, rfl, hx3, T.cls_Level, T.nf_Level_parts, (by rfl : List.lookup ("parts" : Str) (lvFs l nl dl) = some (.int (l.pt : Int))), ?_⟩
    walk_at "go"
    refine ⟨p3, _, _, rfl, rfl, h33, by omega, by omega, by rw [show ((l.pt : Int) - 1).toNat = l.pt - 1 by omega]; exact Nat.le_of_lt (ly_lt (by simp; omega)), fun p4 hp4 => ?_⟩
    have h24 : upd H3 p4 (.lst (List.replicate ((l.pt : Int) - 1).toNat [V.str "app"]).flatten) p2 = some (.lst (List.replicate ((txts l.ns).length : Int).toNat [V.str "lam"]).flatten) := by walk_at "hp"
    have h44 : upd H3 p4 (.lst (List.replicate ((l.pt : Int) - 1).toNat [V.str "app"]).flatten) p4 = some (.lst (List.replicate ((l.pt : Int) - 1).toNat [V.str "app"]).flatten) := upd_same
    have e4 : Ex H (upd H3 p4 (.lst (List.replicate ((l.pt : Int) - 1).toNat [V.str "app"]).flatten)) := by walk_at "ex"
    have hx4 := e4 _ _ hx
    have hd4 := e4 _ _ hd
    generalize upd H3 p4 (.lst (List.replicate ((l.pt : Int) - 1).toNat [V.str "app"]).flatten) = H4 at *
    walk_at "go"
    · rw [show ((l.pt : Int) - 1).toNat = l.pt - 1 by omega]
      exact Nat.le_of_lt (ly_lt (by simp; omega))
    intro p5 hp5
    have h55 : upd H4 p5 (.lst ((List.replicate ((txts l.ns).length : Int).toNat [V.str "lam"]).flatten ++ (List.replicate ((l.pt : Int) - 1).toNat [V.str "app"]).flatten)) p5 = some (.lst ((List.replicate ((txts l.ns).length : Int).toNat [V.str "lam"]).flatten ++ (List.replicate ((l.pt : Int) - 1).toNat [V.str "app"]).flatten)) := upd_same
    have e5 := e4.trans (Ex.new hp5 (o := .lst ((List.replicate ((txts l.ns).length : Int).toNat [V.str "lam"]).flatten ++ (List.replicate ((l.pt : Int) - 1).toNat [V.str "app"]).flatten)))
    have hx5 := e5 _ _ hx
    have hd5 := e5 _ _ hd
    generalize upd H4 p5 (.lst ((List.replicate ((txts l.ns).length : Int).toNat [V.str "lam"]).flatten ++ (List.replicate ((l.pt : Int) - 1).toNat [V.str "app"]).flatten)) = H5 at *
    walk_at "go"
    refine ⟨x, cl 21, dx, _, _, rfl, hx5, T.cls_Level, T.nf_Level_nodes, (by rfl : List.lookup ("nodes" : Str) (lvFs l nl dl) = some (.ref dl)), ?_⟩
    walk_at "go"
    · rw [show ((l.pt : Int) - 1).toNat = l.pt - 1 by omega]
      exact Nat.le_of_lt (ly_lt (by simp; omega))
    intro p6 hp6
    have ev : (List.replicate ((txts l.ns).length : Int).toNat [V.str "lam"]).flatten ++ (List.replicate ((l.pt : Int) - 1).toNat [V.str "app"]).flatten ++ l.nd = l.all := by
      unfold Lv.all
      rw [Int.toNat_natCast, show ((l.pt : Int) - 1).toNat = l.pt - 1 by omega, List.length_map]
      simp
    rw [ev]
    exact q _ p6 (e5.trans (Ex.new hp6)) (fresh_back e5 hp6) upd_same
end
end Ly
set_option Elab.async false
set_option linter.all false
set_option maxRecDepth 100000
set_option maxHeartbeats 8000000
namespace Ly
open PySem PySem.Spec PyProof.Rows L2 Evl
local macro_rules | `(tactic| walk_at "ne") => `(tactic| first
  | assumption
  | ((refine' Ne.symm ?hq); (case hq => assumption))
  | ((refine' ne_of_none ?nh1 ?nh2); (case nh2 => assumption); (case nh1 => walk_at "hp"))
  | ((refine' Ne.symm (ne_of_none ?nh1 ?nh2)); (case nh2 => assumption); (case nh1 => walk_at "hp")))
local macro_rules | `(tactic| walk_at "hp") => `(tactic| first
  | assumption
  | exact upd_same
  | ((refine' SqL.of ?hq); (case hq => walk_at "hp"))
  | ((refine' SqT.of ?hq); (case hq => walk_at "hp"))
  | ((refine' (upd_ne ?hne).trans ?hrest); (case hne => walk_at "ne"); (case hrest => walk_at "hp"))
  | ((refine' ly_at ?hex ?hh); (case hex => assumption); (case hh => walk_at "hp"))
  | ((refine' ly_atF ?hex ?hnn ?hh); (case hex => assumption); (case hh => walk_at "hp"); (case hnn => walk_at "ne"))
  | ((refine' ex_t ?hex ?hh); (case hh => assumption); (case hex => walk_at "ex"))
  | ((refine' ex_l ?hex ?hh); (case hh => assumption); (case hex => walk_at "ex")))
local macro_rules | `(tactic| walk_at "ex") => `(tactic| first
  | assumption
  | exact Ex.refl _
  | ((refine' ex_new ?xa ?xb); (case xb => assumption); (case xa => walk_at "ex"))
  | ((refine' ex_upd ?xa ?xb); (case xb => walk_at "free"); (case xa => walk_at "ex"))
  | ((refine' Ex.trans ?xa ?xb); (case xb => assumption); (case xa => walk_at "ex")))
local macro_rules | `(tactic| walk_at "free") => `(tactic| first
  | assumption
  | ((refine' fresh_back ?xa ?xb); (case xb => assumption); (case xa => walk_at "ex")))
local macro_rules | `(tactic| walk_at "fr") => `(tactic| first
  | assumption
  | exact Fr.refl _ _
  | ((refine' Fr.own ?hq); (case hq => walk_at "fr"))
  | ((refine' Fr.new ?xa ?xb); (case xb => assumption); (case xa => walk_at "fr"))
  | ((refine' Fr.mut ?xa ?xb); (case xb => assumption); (case xa => walk_at "fr"))
  | ((refine' Fr.trans ?xa ?xb); (case xb => assumption); (case xa => walk_at "fr"))
  | ((refine' Fr.trans ?xa (Fr.ex ?xb)); (case xb => assumption); (case xa => walk_at "fr")))
local macro_rules | `(tactic| walk_at "go1") => `(tactic| first
  | (with_reducible refine' w_seq ?_)
  | (with_reducible refine' w_asg ?_)
  | (with_reducible refine' w_ret ?_)
  | (with_reducible refine' w_drop ?_)
  | (with_reducible refine' w_if ?_)
  | (with_reducible refine' w_next ?_)
  | (with_reducible refine' w_name ?_)
  | (with_reducible refine' w_sub ?_)
  | ((with_reducible refine' w_var ?hv ?_); (case hv => exact rfl))
  | (with_reducible refine' w_c ?_)
  | (with_reducible refine' w_op ?_)
  | (with_reducible refine' w_un ?_)
  | (with_reducible refine' w_ch ?_)
  | (with_reducible refine' w_I0 ?_)
  | ((with_reducible refine' w_I ?hc ?_); (case hc => first | (exact ly_mulL (by decide) (by decide)) | (exact ly_mulR (by decide) (by decide)) | (exact ly_mulL (by omega) (by omega)) | (show (_ : Int) ≠ 0; decide) | (show (_ : Int) ≠ 0; omega) | (exact ⟨by decide, by decide⟩) | (exact ⟨by omega, by omega⟩)))
  | (with_reducible refine' w_U ?_)
  | ((with_reducible refine' w_eq ?hs ?_); (case hs => exact rfl))
  | ((with_reducible refine' w_ne ?hs ?_); (case hs => exact rfl))
  | (with_reducible refine' w_isB ?_)
  | (with_reducible refine' w_notB ?_)
  | (with_reducible refine' w_nil ?_)
  | (with_reducible refine' w_cons ?_)
  | (with_reducible refine' w_tup ?_)
  | (with_reducible refine' w_lst ?_)
  | (with_reducible refine' w_cb ?_)
  | (with_reducible refine' w_call ?_)
  | (with_reducible refine' w_bm ?_)
  | (with_reducible refine' w_bm0 ?_)
  | ((with_reducible refine' w_app ?hh ?hz ?_); (case hh => walk_at "hp"); (case hz => first | exact ly_lt (by omega) | exact ly_lt (by simp only [List.length_append, List.length_map, List.length_cons, List.length_nil]; omega)))
  | ((with_reducible refine' w_popA ?hh ?_); (case hh => walk_at "hp"))
  | ((with_reducible refine' w_ext ?hh ?hh2 ?hz ?_); (case hh => walk_at "hp"); (case hh2 => walk_at "hp"))
  | ((with_reducible refine' w_ixL ?hh ?ha ?_); (case hh => walk_at "hp"); (case ha => first | exact rfl | exact at_map (by omega) | exact atI_last _ _ | ((refine' at_of ?ae ?ah); (case ah => assumption); (case ae => omega))))
  | ((with_reducible refine' w_ixT ?hh ?ha ?_); (case hh => walk_at "hp"); (case ha => first | exact rfl | exact at_map (by omega) | exact atI_last _ _ | ((refine' at_of ?ae ?ah); (case ah => assumption); (case ae => omega))))
  | ((with_reducible refine' w_cat ?hh ?hh2 ?hz ?_); (case hh => walk_at "hp"); (case hh2 => walk_at "hp"))
  | ((with_reducible refine' w_setL ?hh ?ha ?_); (case hh => walk_at "hp"); (case ha => exact rfl))
  | (with_reducible refine' w_test ?_)
  | (with_reducible refine' w_tB ?_)
  | (with_reducible refine' w_bl ?_)
  | (with_reducible refine' w_and ?_)
  | (with_reducible refine' w_or ?_)
  | (with_reducible refine' w_not ?_)
  | (with_reducible refine' w_andV ?_)
  | (with_reducible refine' w_orV ?_)
  | (with_reducible refine' w_notV ?_)
  | (with_reducible refine' w_ifE ?_)
  | (with_reducible refine' w_for ?_)
  | ((with_reducible refine' w_nin ?hh ?_); (case hh => walk_at "hp"))
  | ((with_reducible refine' w_sorted ?hh ?_); (case hh => walk_at "hp"))
  | (with_reducible refine' w_tsadd ?_)
  | ((with_reducible refine' w_tsadd1 ?hh ?_); (case hh => walk_at "hp"))
  | ((with_reducible refine' w_sadd ?hh ?hr ?_); (case hh => walk_at "hp"); (case hr => omega))
  | (with_reducible refine' w_iZ ?_)
  | ((with_reducible refine' w_iZ1 ?hh ?hh2 ?_); (case hh => walk_at "hp"); (case hh2 => walk_at "hp"))
  | (with_reducible refine' w_iS ?_)
  | (with_reducible refine' w_iS1 ?_)
  | ((with_reducible refine' w_gtup ?hh ?hn ?_); (case hh => walk_at "hp"); (case hn => exact rfl))
  | (with_reducible refine' w_gcons ?_)
  | (with_reducible refine' w_gnil ?_)
  | (with_reducible refine' w_js ?_)
  | (with_reducible refine' w_jsn ?_)
  | ((with_reducible refine' w_js1 ?hl ?_); (case hl => decide +kernel))
  | (with_reducible refine' w_fmt ?_)
  | ((with_reducible refine' w_fmt1 ?hl ?_); (case hl => decide +kernel))
  | (with_reducible refine' w_callS ?_)
  | ((with_reducible refine' w_truL ?hh ?_); (case hh => walk_at "hp"))
  | (with_reducible refine' w_lc ?_)
  | (with_reducible refine' w_yes ?_)
  | ((with_reducible refine' w_wipe ?he ?_); (case he => exact rfl))
  | (with_reducible refine' w_iL ?_)
  | (with_reducible refine' w_iT ?_)
  | (with_reducible refine' w_iR ?_)
  | ((with_reducible refine' w_iL1 ?hh ?_); (case hh => walk_at "hp"))
  | ((with_reducible refine' w_iT1 ?hh ?_); (case hh => walk_at "hp"))
  | ((with_reducible refine' w_iR1 ?h1 ?h2 ?_); (case h1 => omega); (case h2 => omega))
  | ((with_reducible refine' w_aug ?hv ?_); (case hv => exact rfl))
  | (with_reducible refine' w_ipI ?_)
  | ((with_reducible refine' w_isi ?hy ?hk ?_); (case hy => walk_at "ty"); (case hk => walk_at "kit"))
  | ((with_reducible refine' w_int ?_))
  | ((with_reducible refine' w_intB ?_))
  | ((with_reducible refine' w_abs ?_))
  | ((with_reducible refine' w_lenL ?hh ?_); (case hh => walk_at "hp"))
  | ((with_reducible refine' w_lenT ?hh ?_); (case hh => walk_at "hp"))
  | ((with_reducible refine' w_tupL ?hh ?_); (case hh => walk_at "hp"))
  | ((with_reducible refine' w_tupT ?hh ?_); (case hh => walk_at "hp"))
  | ((with_reducible refine' w_catA ?hh ?hh2 ?hz ?_); (case hh => walk_at "hp"); (case hh2 => walk_at "hp"); (case hz => walk_at "len"))
  | ((with_reducible refine' w_repB ?hh ?hne ?h2 ?h3 ?hz ?_); (case hh => walk_at "hp"); (case hne => simp); (case h2 => omega); (case h3 => omega); (case hz => exact Nat.le_of_ble_eq_true rfl))
  | ((with_reducible refine' w_eqN ?hh ?hh2 ?n1 ?n2 ?_); (case hh => walk_at "hp"); (case hh2 => walk_at "hp"); (case n1 => walk_at "nd"); (case n2 => walk_at "nd"))
  | ((with_reducible refine' w_neN ?hh ?hh2 ?n1 ?n2 ?_); (case hh => walk_at "hp"); (case hh2 => walk_at "hp"); (case n1 => walk_at "nd"); (case n2 => walk_at "nd"))
  | ((with_reducible refine' w_eqL ?hh ?hh2 ?n1 ?n2 ?_); (case hh => walk_at "hp"); (case hh2 => walk_at "hp"); (case n1 => walk_at "nd"); (case n2 => walk_at "nd"))
  | ((with_reducible refine' w_neL ?hh ?hh2 ?n1 ?n2 ?_); (case hh => walk_at "hp"); (case hh2 => walk_at "hp"); (case n1 => walk_at "nd"); (case n2 => walk_at "nd"))
  | ((with_reducible refine' w_neNon ?hh2 ?n2 ?_); (case hh2 => walk_at "hp"); (case n2 => walk_at "nd"))
  | ((with_reducible refine' w_eqNon ?hh2 ?n2 ?_); (case hh2 => walk_at "hp"); (case n2 => walk_at "nd"))
  | ((with_reducible refine' w_slA ?hh ?_); (case hh => walk_at "hp"))
  | ((with_reducible refine' w_disp ?hz ?_); (case hz => exact sz_of (Nat.le_of_ble_eq_true rfl)))
  | ((with_reducible refine' w_tyL ?hh ?_); (case hh => walk_at "hp"))
  | (with_reducible refine' iteT ?_)
  | (with_reducible refine' iteF ?_)
  | (with_reducible refine' w_nT ?_)
  | (with_reducible refine' w_nn ?_)
  | (with_reducible refine' w_nnT ?_)
  | (with_reducible refine' w_nnR ?_)
  | (with_reducible refine' w_neG ?_)
  | (with_reducible refine' w_eqG ?_)
  | (with_reducible refine' w_neS ?_)
  | (with_reducible refine' w_eqS ?_)
  | (with_reducible refine' w_neSb ?_)
  | (with_reducible refine' w_eqSb ?_)
  | (with_reducible refine' w_deIS ?_)
  | (with_reducible refine' w_deSI ?_)
  | (with_reducible refine' w_deISn ?_)
  | ((with_reducible refine' w_deST ?he ?_); (case he => decide +kernel))
  | ((with_reducible refine' w_deSF ?he ?_); (case he => decide +kernel))
  | ((with_reducible refine' w_deSTn ?he ?_); (case he => decide +kernel))
  | ((with_reducible refine' w_deSFn ?he ?_); (case he => decide +kernel))
  | (with_reducible refine' w_nF ?_)
  | dsimp only [Bool.not_true, Bool.not_false])
local macro_rules | `(tactic| walk_at "ty") => `(tactic| first
  | exact .base (.int _) | exact .base (.str _) | exact .base (.bl _) | exact .base .non
  | ((refine' tyx_t ?hq); (case hq => walk_at "hp")) | ((refine' tyx_l ?hq); (case hq => walk_at "hp")) | ((refine' .base (.tup ?hq)); (case hq => walk_at "hp")) | assumption)
local macro_rules | `(tactic| walk_at "go") => `(tactic| repeat walk_at "go1")
local macro_rules | `(tactic| walk_at "st") => `(tactic| try dsimp only [cxOf, Cx.nox, Cx.wish])
local macro_rules | `(tactic| walk_at "kit") => `(tactic| with_reducible first | exact kit_int_int | exact kit_int_str | exact kit_int_bool | exact kit_int_tuple | exact kit_int_list | exact kit_str_int | exact kit_str_str | exact kit_str_bool | exact kit_str_tuple | exact kit_str_list | exact kit_bool_int | exact kit_bool_str | exact kit_bool_bool | exact kit_bool_tuple | exact kit_bool_list | exact kit_NoneType_int | exact kit_NoneType_str | exact kit_NoneType_bool | exact kit_NoneType_tuple | exact kit_NoneType_list | exact kit_list_int | exact kit_list_str | exact kit_list_bool | exact kit_list_tuple | exact kit_list_list | exact kit_tuple_int | exact kit_tuple_str | exact kit_tuple_bool | exact kit_tuple_tuple | exact kit_tuple_list)
local macro_rules | `(tactic| walk_at "nd") => `(tactic| first
  | assumption
  | exact Tm.nds _
  | exact Nds.nil
  | exact Nds.ofInts _
  | ((refine' Nds.cons ?na ?nb); (case na => first | exact Nds.I _ | exact Nds.L | exact Nds.A); (case nb => walk_at "nd"))
  | ((refine' Nds.app ?na ?nb); (case na => walk_at "nd"); (case nb => walk_at "nd"))
  | ((refine' Nds.rep ?na _); (case na => walk_at "nd")))
local macro_rules | `(tactic| walk_at "len") => `(tactic| first
  | exact ly_sz (by omega)
  | ((simp only [List.length_append, List.length_cons, List.length_nil, List.length_map, PyProof.Rows.lm_len_rep_flat]); exact ly_sz (by omega)))
local macro_rules | `(tactic| walk_at "go1") => `(tactic| first
  | (with_reducible refine' w_kget2 ?_)
  | (with_reducible refine' w_isRN ?_)
  | (with_reducible refine' w_isNN ?_)
  | (with_reducible refine' w_isIN ?_)
  | ((with_reducible refine' w_kg ?hd ?_); (case hd => assumption)))
local macro_rules | `(tactic| walk_at "go1") => `(tactic| first
  | ((with_reducible refine' w_extT ?hh ?hh2 ?hz ?_); (case hh => walk_at "hp"); (case hh2 => walk_at "hp"))
  | ((with_reducible refine' w_I ?hc ?_); (case hc => exact ⟨by decide, by decide, by decide⟩))
  | (with_reducible refine' w_sl ?_)
  | (with_reducible refine' w_noP ?_)
  | (with_reducible refine' w_part ?_)
  | (with_reducible refine' w_part1 ?_)
  | (with_reducible refine' w_it ?_)
  | (with_reducible refine' w_it1 ?_)
  | ((with_reducible refine' w_lenZ ?hz ?_); (case hz => omega))
  | ((with_reducible refine' w_addZb ?hz ?_); (case hz => omega))
  | ((with_reducible refine' w_addZf ?hz ?_); (case hz => omega))
  | ((with_reducible refine' w_addZa ?hz ?_); (case hz => omega))
  | ((with_reducible refine' w_inS ?hh ?_); (case hh => walk_at "hp"))
  | ((with_reducible refine' w_ixT ?hh ?ha ?_); (case hh => assumption); (case ha => exact atI_nat (by assumption))))
local macro_rules | `(tactic| walk_at "go1") => `(tactic| first
  | (with_reducible refine' w_iR2 ?_)
  | ((with_reducible refine' w_iR21 ?h1 ?h2 ?h3 ?h4 ?_); (case h1 => omega); (case h2 => omega); (case h3 => omega); (case h4 => omega))
  | (with_reducible refine' w_nnI ?_)
  | (with_reducible refine' w_max ?_)
  | (with_reducible refine' w_break ?_)
  | (with_reducible refine' w_cont ?_))
local macro_rules | `(tactic| walk_at "go1") => `(tactic| first
  | (with_reducible refine' w_tdget ?_)
  | (with_reducible refine' w_tdin ?_)
  | (with_reducible refine' w_tdnotin ?_)
  | (with_reducible refine' w_sdput ?_)
  | (with_reducible refine' w_tdsetd ?_)
  | (with_reducible refine' w_dnew ?_))
local macro_rules | `(tactic| walk_at "go1") => `(tactic| first
  | (with_reducible refine' w_iZL ?_)
  | (with_reducible refine' w_sfld ?_)
  | (with_reducible refine' w_tfld ?_)
  | (with_reducible refine' w_make ?_)
  | fail)
local macro_rules | `(tactic| walk_at "go1") => `(tactic| first
  | (with_reducible refine' w_sfa ?_)
  | (with_reducible refine' w_tmP ?_)
  | (with_reducible refine' w_tdget2 ?_))
section
variable {P : Program} {w : World} {K : PySem.W.Frag} {mg : Str → Option Value} {base : Heap} {tk : Nat → Tok} {cl : Nat → Addr}
/-! ### the reader: new, a name's number, a level's end -/
def spRdInit (CR CL : Addr) : Sp := fun vs H Q _ => ∃ (x dx p : Addr) (fs : List Str) (H0 : Hp), vs = [.ref x, .ref p] ∧ Own H0 H [(x, .ins CR dx [])] ∧ H0 p = some (.lst (txts fs)) ∧ fs.length ≤ 100000 ∧ ∀ H', RdAt CR CL H0 H' x fs 0 (Lv.new "") [] → Q .non H'
theorem numS_nil : NumS [] [] := fun n => rfl
theorem numS_put {fs : List Str} {kn : List (L2.Key × V)} {n : Str} (h : NumS fs kn) (hn : n ∉ fs) : NumS (fs ++ [n]) (putK kn (.inr n) (.int (fs.length : Nat))) := fun m => by
  rw [valV_put, h m]
  by_cases e : m = n
  · subst e
    rw [if_pos rfl, if_pos (by simp), List.idxOf_append, if_neg hn]
    simp
  · have e2 : ¬ ((.inr m : L2.Key) = .inr n) := fun z => e (Sum.inr.inj z)
    rw [if_neg e2]
    by_cases hm : m ∈ fs
    · rw [if_pos hm, if_pos (by simp [hm]), List.idxOf_append, if_pos hm]
    · rw [if_neg hm, if_neg (by simp [hm, e])]
theorem numS_old {fs : List Str} {kn : List (L2.Key × V)} {n : Str} (h : NumS fs kn) (hn : n ∈ fs) : NumS (fs ++ [n]) kn := fun m => by
  rw [h m]
  by_cases hm : m ∈ fs
  · rw [if_pos hm, if_pos (by simp [hm]), List.idxOf_append, if_pos hm]
  · have e : m ≠ n := fun z => hm (z ▸ hn)
    rw [if_neg hm, if_neg (by simp [hm, e])]
theorem ok_rdinit {f : Addr} {fd : FuncData} (F : Fun K "__init__" "Reader.__init__" s_Reader_init f fd) (T : Txt w K mg tk cl)
    (D1 : DefC P w K mg base CX0 1 (cl 21) ["self", "opener"] (spLvInit (cl 21))) : FnOk P w K mg base CX0 3 f fd ["self", "names"] (spRdInit (cl 22) (cl 21)) := by
  obtain ⟨f1, fd1, M_Level, b_Level_init, G_Level_init⟩ := D1
  refine F.ok sc_Reader_init (fun vs H Q E h => ?_) (fun cdv A outer s H vs Q E hr h => ?_)
  · obtain ⟨_, _, _, _, _, rfl, _⟩ := h
    rfl
  · obtain ⟨x, dx, p, fs, H0, rfl, ow, hp, hz, q⟩ := h
    refine ⟨_, (pss_cons (ps_fld (pv 0) pe_dnewK rfl) (pss_cons (ps_for PassesOwn.never rfl (pi_enum (by rfl) T.n_enumerate (pa_cons (pv 1) pa_nil)) (pg_tup (by rfl) (pgs_cons (pg_name (i := 2) sc_Reader_init.nd rfl (.inl rfl)) (pgs_cons (pg_name (i := 3) sc_Reader_init.nd rfl (.inl rfl)) pgs_nil))) (pss_one (ps_expr (pe_dsetd (pe_fld (pv 0) rfl) (pv 3) (pv 2) ⟨by rfl, by rfl, by rfl, by rfl⟩)))) (pss_cons (ps_fld (pv 0) pe_dnewK rfl) (pss_cons (ps_fld (pv 0) pe_int rfl) (pss_one (ps_fld (pv 0) (pe_lst (pa_cons (pe_make M_Level G_Level_init (hr.mono (by first | decide | omega)) (by rfl) T.g_Level b_Level_init .nil pass0 (pa_cons pe_str pa_nil)) pa_nil)) rfl)))))), ?_⟩
    refine sl_of (σ2 := [some _, some _, none, none]) rfl ?_
    walk_at "st"
    walk_at "go"
    intro dn hdn
    have ow := (ow.new (u := .dK []) hdn).perm (List.Perm.swap ..)
    walk_at "go"
    refine ⟨x, cl 22, dx, [], rfl, ow.at List.mem_cons_self, T.cls_Reader, T.nf_Reader_numbers, by show 0 < 1000; decide, ?_⟩
    have ow := ow.put (u := .ins (cl 22) dx [("numbers", .ref dn)])
    have ex1 := ow.ex
    walk_at "go"
    have hp1 := ex1 _ _ hp
    refine w_iE (w_var rfl ?_)
    refine w_iE1 (SqL.of hp1) ?_
    refine for_enum (xs := txts fs) (fun i σ H' => ∃ (y1 y2 : Option V) (kn : List (L2.Key × V)), σ = [some (.ref x), some (.ref p), y1, y2] ∧ Own H0 H' [(x, .ins (cl 22) dx [("numbers", .ref dn)]), (dn, .dK kn)] ∧ NumS (fs.take i) kn ∧ kn.length ≤ i) ⟨none, none, [], rfl, ow, numS_nil, Nat.le_refl _⟩ (fun i σ H' ⟨_, _, _, _, h, _⟩ => SqL.of (h.ex _ _ hp)) ?_ ?_
    · rintro i y Tt σ H1 hi hT ⟨y1, y2, kn, rfl, ow1, hk, hkl⟩
      obtain ⟨n, hn, rfl⟩ : ∃ n, fs[i]? = some n ∧ y = V.str n := by
        rw [List.getElem?_map] at hi
        cases e : fs[i]? with
        | none => rw [e] at hi; cases hi
        | some n => rw [e] at hi; cases hi; exact ⟨n, rfl, rfl⟩
      have ow2 := ow1.mono (Ex.new hT (o := .tup [.int (i : Nat), .str n]))
      have hT2 : upd H1 Tt (.tup [.int (i : Nat), .str n]) Tt = some (.tup [.int (i : Nat), .str n]) := upd_same
      have tk1 : fs.take (i + 1) = fs.take i ++ [n] := by rw [List.take_add_one, hn]; rfl
      have tl : (fs.take i).length = i := by
        rw [List.length_take]
        have := (List.getElem?_eq_some_iff.mp hn).1
        omega
      generalize upd H1 Tt (.tup [.int (i : Nat), .str n]) = H2 at *
      walk_at "go"
      refine ⟨x, cl 22, dx, _, _, rfl, ow2.at List.mem_cons_self, T.cls_Reader, T.nf_Reader_numbers, (by rfl : List.lookup ("numbers" : Str) [("numbers", V.ref dn)] = some (.ref dn)), ?_⟩
      have hdn := ow2.at (a := dn) (o := .dK kn) (by simp)
      refine ⟨dn, rfl, isD hdn, ?_⟩
      walk_at "go"
      refine ⟨kn, .inr n, hdn, rfl, ly_lt (by have := (List.getElem?_eq_some_iff.mp hn).1; omega), fun v hv => ?_, fun hv => ?_⟩
      · walk_at "go"
        refine ⟨_, _, kn, rfl, ow2, ?_, by omega⟩
        rw [tk1]
        refine numS_old hk ?_
        rw [hk n] at hv
        by_cases hm : n ∈ fs.take i
        · exact hm
        · rw [if_neg hm] at hv
          cases hv
      · walk_at "go"
        have hm : n ∉ fs.take i := fun z => by
          rw [hk n, if_pos z] at hv
          cases hv
        refine ⟨_, _, putK kn (.inr n) (.int (i : Nat)), rfl, Own.set 1 ow2 (by rfl), ?_, ?_⟩
        · have := numS_put hk hm
          rw [tl] at this
          rw [tk1]
          exact this
        · rw [putK_new _ hv, List.length_append, List.length_singleton]
          omega
    · rintro σ H1 ⟨y1, y2, kn, rfl, ow1, hk, hkl⟩
      rw [List.length_map, List.take_length] at hk
      walk_at "go"
      intro db hdb
      have ow2 := (ow1.new (u := .dK []) hdb).perm (List.Perm.swap ..)
      walk_at "go"
      refine ⟨x, cl 22, dx, _, rfl, ow2.at List.mem_cons_self, T.cls_Reader, T.nf_Reader_bound, by show 1 < 1000; decide, ?_⟩
      have ow3 := ow2.put (u := .ins (cl 22) dx [("numbers", .ref dn), ("bound", .ref db)])
      walk_at "go"
      refine ⟨x, cl 22, dx, _, rfl, ow3.at List.mem_cons_self, T.cls_Reader, T.nf_Reader_depth, by show 2 < 1000; decide, ?_⟩
      have ow4 := ow3.put (u := .ins (cl 22) dx [("numbers", .ref dn), ("bound", .ref db), ("depth", .int 0)])
      walk_at "go"
      intro lx ldx hlx hldx hne
      have ow5 := ow4.new (u := .own lx) hldx
      have ow6 := ow5.new (a := lx) (u := .ins (cl 21) ldx []) (by rw [upd_ne hne.symm]; exact hlx)
      refine ⟨lx, ldx, "", H0, _, rfl, ow6, fun H7 nl dl ow7 => ⟨rfl, ?_⟩⟩
      walk_at "go"
      intro ll hll
      have ow8 := ow7.new (u := .lst [.ref lx]) hll
      have hx8 := ow8.at (a := x) (o := .ins (cl 22) dx [("numbers", .ref dn), ("bound", .ref db), ("depth", .int 0)]) (by simp [lvFp])
      walk_at "go"
      refine ⟨x, cl 22, dx, _, rfl, hx8, T.cls_Reader, T.nf_Reader_levels, by show 3 < 1000; decide, ?_⟩
      have ow9 := Own.set 5 (u := .ins (cl 22) dx (rdFs dn db ll 0)) ow8 (by rfl)
      refine q _ ⟨dx, dn, db, ll, kn, [], [], (lx, ldx, nl, dl), [], ?_, rfl, hk, ⟨List.nodup_nil, fun n => rfl, fun n h => (by cases h), Nat.le_refl _⟩, by decide +kernel, rfl⟩
      exact Own.pick [5, 7, 6, 0, 1, 2, 3] ow9 (by decide) (by rfl)
end
end Ly
set_option Elab.async false
set_option linter.all false
set_option maxRecDepth 100000
set_option maxHeartbeats 8000000
namespace Ly
open PySem PySem.Spec PyProof.Rows L2 Evl
local macro_rules | `(tactic| walk_at "ne") => `(tactic| first
  | assumption
  | ((refine' Ne.symm ?hq); (case hq => assumption))
  | ((refine' ne_of_none ?nh1 ?nh2); (case nh2 => assumption); (case nh1 => walk_at "hp"))
  | ((refine' Ne.symm (ne_of_none ?nh1 ?nh2)); (case nh2 => assumption); (case nh1 => walk_at "hp")))
local macro_rules | `(tactic| walk_at "hp") => `(tactic| first
  | assumption
  | exact upd_same
  | ((refine' SqL.of ?hq); (case hq => walk_at "hp"))
  | ((refine' SqT.of ?hq); (case hq => walk_at "hp"))
  | ((refine' (upd_ne ?hne).trans ?hrest); (case hne => walk_at "ne"); (case hrest => walk_at "hp"))
  | ((refine' ly_at ?hex ?hh); (case hex => assumption); (case hh => walk_at "hp"))
  | ((refine' ly_atF ?hex ?hnn ?hh); (case hex => assumption); (case hh => walk_at "hp"); (case hnn => walk_at "ne"))
  | ((refine' ex_t ?hex ?hh); (case hh => assumption); (case hex => walk_at "ex"))
  | ((refine' ex_l ?hex ?hh); (case hh => assumption); (case hex => walk_at "ex")))
local macro_rules | `(tactic| walk_at "ex") => `(tactic| first
  | assumption
  | exact Ex.refl _
  | ((refine' ex_new ?xa ?xb); (case xb => assumption); (case xa => walk_at "ex"))
  | ((refine' ex_upd ?xa ?xb); (case xb => walk_at "free"); (case xa => walk_at "ex"))
  | ((refine' Ex.trans ?xa ?xb); (case xb => assumption); (case xa => walk_at "ex")))
local macro_rules | `(tactic| walk_at "free") => `(tactic| first
  | assumption
  | ((refine' fresh_back ?xa ?xb); (case xb => assumption); (case xa => walk_at "ex")))
local macro_rules | `(tactic| walk_at "fr") => `(tactic| first
  | assumption
  | exact Fr.refl _ _
  | ((refine' Fr.own ?hq); (case hq => walk_at "fr"))
  | ((refine' Fr.new ?xa ?xb); (case xb => assumption); (case xa => walk_at "fr"))
  | ((refine' Fr.mut ?xa ?xb); (case xb => assumption); (case xa => walk_at "fr"))
  | ((refine' Fr.trans ?xa ?xb); (case xb => assumption); (case xa => walk_at "fr"))
  | ((refine' Fr.trans ?xa (Fr.ex ?xb)); (case xb => assumption); (case xa => walk_at "fr")))
local macro_rules | `(tactic| walk_at "go1") => `(tactic| first
  | (with_reducible refine' w_seq ?_)
  | (with_reducible refine' w_asg ?_)
  | (with_reducible refine' w_ret ?_)
  | (with_reducible refine' w_drop ?_)
  | (with_reducible refine' w_if ?_)
  | (with_reducible refine' w_next ?_)
  | (with_reducible refine' w_name ?_)
  | (with_reducible refine' w_sub ?_)
  | ((with_reducible refine' w_var ?hv ?_); (case hv => exact rfl))
  | (with_reducible refine' w_c ?_)
  | (with_reducible refine' w_op ?_)
  | (with_reducible refine' w_un ?_)
  | (with_reducible refine' w_ch ?_)
  | (with_reducible refine' w_I0 ?_)
  | ((with_reducible refine' w_I ?hc ?_); (case hc => first | (exact ly_mulL (by decide) (by decide)) | (exact ly_mulR (by decide) (by decide)) | (exact ly_mulL (by omega) (by omega)) | (show (_ : Int) ≠ 0; decide) | (show (_ : Int) ≠ 0; omega) | (exact ⟨by decide, by decide⟩) | (exact ⟨by omega, by omega⟩)))
  | (with_reducible refine' w_U ?_)
  | ((with_reducible refine' w_eq ?hs ?_); (case hs => exact rfl))
  | ((with_reducible refine' w_ne ?hs ?_); (case hs => exact rfl))
  | (with_reducible refine' w_isB ?_)
  | (with_reducible refine' w_notB ?_)
  | (with_reducible refine' w_nil ?_)
  | (with_reducible refine' w_cons ?_)
  | (with_reducible refine' w_tup ?_)
  | (with_reducible refine' w_lst ?_)
  | (with_reducible refine' w_cb ?_)
  | (with_reducible refine' w_call ?_)
  | (with_reducible refine' w_bm ?_)
  | (with_reducible refine' w_bm0 ?_)
  | ((with_reducible refine' w_app ?hh ?hz ?_); (case hh => walk_at "hp"); (case hz => first | exact ly_lt (by omega) | exact ly_lt (by simp only [List.length_append, List.length_map, List.length_cons, List.length_nil]; omega)))
  | ((with_reducible refine' w_popA ?hh ?_); (case hh => walk_at "hp"))
  | ((with_reducible refine' w_ext ?hh ?hh2 ?hz ?_); (case hh => walk_at "hp"); (case hh2 => walk_at "hp"))
  | ((with_reducible refine' w_ixL ?hh ?ha ?_); (case hh => walk_at "hp"); (case ha => first | exact rfl | exact at_map (by omega) | exact atI_last _ _ | ((refine' at_of ?ae ?ah); (case ah => assumption); (case ae => omega))))
  | ((with_reducible refine' w_ixT ?hh ?ha ?_); (case hh => walk_at "hp"); (case ha => first | exact rfl | exact at_map (by omega) | exact atI_last _ _ | ((refine' at_of ?ae ?ah); (case ah => assumption); (case ae => omega))))
  | ((with_reducible refine' w_cat ?hh ?hh2 ?hz ?_); (case hh => walk_at "hp"); (case hh2 => walk_at "hp"))
  | ((with_reducible refine' w_setL ?hh ?ha ?_); (case hh => walk_at "hp"); (case ha => exact rfl))
  | (with_reducible refine' w_test ?_)
  | (with_reducible refine' w_tB ?_)
  | (with_reducible refine' w_bl ?_)
  | (with_reducible refine' w_and ?_)
  | (with_reducible refine' w_or ?_)
  | (with_reducible refine' w_not ?_)
  | (with_reducible refine' w_andV ?_)
  | (with_reducible refine' w_orV ?_)
  | (with_reducible refine' w_notV ?_)
  | (with_reducible refine' w_ifE ?_)
  | (with_reducible refine' w_for ?_)
  | ((with_reducible refine' w_nin ?hh ?_); (case hh => walk_at "hp"))
  | ((with_reducible refine' w_sorted ?hh ?_); (case hh => walk_at "hp"))
  | (with_reducible refine' w_tsadd ?_)
  | ((with_reducible refine' w_tsadd1 ?hh ?_); (case hh => walk_at "hp"))
  | ((with_reducible refine' w_sadd ?hh ?hr ?_); (case hh => walk_at "hp"); (case hr => omega))
  | (with_reducible refine' w_iZ ?_)
  | ((with_reducible refine' w_iZ1 ?hh ?hh2 ?_); (case hh => walk_at "hp"); (case hh2 => walk_at "hp"))
  | (with_reducible refine' w_iS ?_)
  | (with_reducible refine' w_iS1 ?_)
  | ((with_reducible refine' w_gtup ?hh ?hn ?_); (case hh => walk_at "hp"); (case hn => exact rfl))
  | (with_reducible refine' w_gcons ?_)
  | (with_reducible refine' w_gnil ?_)
  | (with_reducible refine' w_js ?_)
  | (with_reducible refine' w_jsn ?_)
  | ((with_reducible refine' w_js1 ?hl ?_); (case hl => decide +kernel))
  | (with_reducible refine' w_fmt ?_)
  | ((with_reducible refine' w_fmt1 ?hl ?_); (case hl => decide +kernel))
  | (with_reducible refine' w_callS ?_)
  | ((with_reducible refine' w_truL ?hh ?_); (case hh => walk_at "hp"))
  | (with_reducible refine' w_lc ?_)
  | (with_reducible refine' w_yes ?_)
  | ((with_reducible refine' w_wipe ?he ?_); (case he => exact rfl))
  | (with_reducible refine' w_iL ?_)
  | (with_reducible refine' w_iT ?_)
  | (with_reducible refine' w_iR ?_)
  | ((with_reducible refine' w_iL1 ?hh ?_); (case hh => walk_at "hp"))
  | ((with_reducible refine' w_iT1 ?hh ?_); (case hh => walk_at "hp"))
  | ((with_reducible refine' w_iR1 ?h1 ?h2 ?_); (case h1 => omega); (case h2 => omega))
  | ((with_reducible refine' w_aug ?hv ?_); (case hv => exact rfl))
  | (with_reducible refine' w_ipI ?_)
  | ((with_reducible refine' w_isi ?hy ?hk ?_); (case hy => walk_at "ty"); (case hk => walk_at "kit"))
  | ((with_reducible refine' w_int ?_))
  | ((with_reducible refine' w_intB ?_))
  | ((with_reducible refine' w_abs ?_))
  | ((with_reducible refine' w_lenL ?hh ?_); (case hh => walk_at "hp"))
  | ((with_reducible refine' w_lenT ?hh ?_); (case hh => walk_at "hp"))
  | ((with_reducible refine' w_tupL ?hh ?_); (case hh => walk_at "hp"))
  | ((with_reducible refine' w_tupT ?hh ?_); (case hh => walk_at "hp"))
  | ((with_reducible refine' w_catA ?hh ?hh2 ?hz ?_); (case hh => walk_at "hp"); (case hh2 => walk_at "hp"); (case hz => walk_at "len"))
  | ((with_reducible refine' w_repB ?hh ?hne ?h2 ?h3 ?hz ?_); (case hh => walk_at "hp"); (case hne => simp); (case h2 => omega); (case h3 => omega); (case hz => exact Nat.le_of_ble_eq_true rfl))
  | ((with_reducible refine' w_eqN ?hh ?hh2 ?n1 ?n2 ?_); (case hh => walk_at "hp"); (case hh2 => walk_at "hp"); (case n1 => walk_at "nd"); (case n2 => walk_at "nd"))
  | ((with_reducible refine' w_neN ?hh ?hh2 ?n1 ?n2 ?_); (case hh => walk_at "hp"); (case hh2 => walk_at "hp"); (case n1 => walk_at "nd"); (case n2 => walk_at "nd"))
  | ((with_reducible refine' w_eqL ?hh ?hh2 ?n1 ?n2 ?_); (case hh => walk_at "hp"); (case hh2 => walk_at "hp"); (case n1 => walk_at "nd"); (case n2 => walk_at "nd"))
  | ((with_reducible refine' w_neL ?hh ?hh2 ?n1 ?n2 ?_); (case hh => walk_at "hp"); (case hh2 => walk_at "hp"); (case n1 => walk_at "nd"); (case n2 => walk_at "nd"))
  | ((with_reducible refine' w_neNon ?hh2 ?n2 ?_); (case hh2 => walk_at "hp"); (case n2 => walk_at "nd"))
  | ((with_reducible refine' w_eqNon ?hh2 ?n2 ?_); (case hh2 => walk_at "hp"); (case n2 => walk_at "nd"))
  | ((with_reducible refine' w_slA ?hh ?_); (case hh => walk_at "hp"))
  | ((with_reducible refine' w_disp ?hz ?_); (case hz => exact sz_of (Nat.le_of_ble_eq_true rfl)))
  | ((with_reducible refine' w_tyL ?hh ?_); (case hh => walk_at "hp"))
  | (with_reducible refine' iteT ?_)
  | (with_reducible refine' iteF ?_)
  | (with_reducible refine' w_nT ?_)
  | (with_reducible refine' w_nn ?_)
  | (with_reducible refine' w_nnT ?_)
  | (with_reducible refine' w_nnR ?_)
  | (with_reducible refine' w_neG ?_)
  | (with_reducible refine' w_eqG ?_)
  | (with_reducible refine' w_neS ?_)
  | (with_reducible refine' w_eqS ?_)
  | (with_reducible refine' w_neSb ?_)
  | (with_reducible refine' w_eqSb ?_)
  | (with_reducible refine' w_deIS ?_)
  | (with_reducible refine' w_deSI ?_)
  | (with_reducible refine' w_deISn ?_)
  | ((with_reducible refine' w_deST ?he ?_); (case he => decide +kernel))
  | ((with_reducible refine' w_deSF ?he ?_); (case he => decide +kernel))
  | ((with_reducible refine' w_deSTn ?he ?_); (case he => decide +kernel))
  | ((with_reducible refine' w_deSFn ?he ?_); (case he => decide +kernel))
  | (with_reducible refine' w_nF ?_)
  | dsimp only [Bool.not_true, Bool.not_false])
local macro_rules | `(tactic| walk_at "ty") => `(tactic| first
  | exact .base (.int _) | exact .base (.str _) | exact .base (.bl _) | exact .base .non
  | ((refine' tyx_t ?hq); (case hq => walk_at "hp")) | ((refine' tyx_l ?hq); (case hq => walk_at "hp")) | ((refine' .base (.tup ?hq)); (case hq => walk_at "hp")) | assumption)
local macro_rules | `(tactic| walk_at "go") => `(tactic| repeat walk_at "go1")
local macro_rules | `(tactic| walk_at "st") => `(tactic| try dsimp only [cxOf, Cx.nox, Cx.wish])
local macro_rules | `(tactic| walk_at "kit") => `(tactic| with_reducible first | exact kit_int_int | exact kit_int_str | exact kit_int_bool | exact kit_int_tuple | exact kit_int_list | exact kit_str_int | exact kit_str_str | exact kit_str_bool | exact kit_str_tuple | exact kit_str_list | exact kit_bool_int | exact kit_bool_str | exact kit_bool_bool | exact kit_bool_tuple | exact kit_bool_list | exact kit_NoneType_int | exact kit_NoneType_str | exact kit_NoneType_bool | exact kit_NoneType_tuple | exact kit_NoneType_list | exact kit_list_int | exact kit_list_str | exact kit_list_bool | exact kit_list_tuple | exact kit_list_list | exact kit_tuple_int | exact kit_tuple_str | exact kit_tuple_bool | exact kit_tuple_tuple | exact kit_tuple_list)
local macro_rules | `(tactic| walk_at "nd") => `(tactic| first
  | assumption
  | exact Tm.nds _
  | exact Nds.nil
  | exact Nds.ofInts _
  | ((refine' Nds.cons ?na ?nb); (case na => first | exact Nds.I _ | exact Nds.L | exact Nds.A); (case nb => walk_at "nd"))
  | ((refine' Nds.app ?na ?nb); (case na => walk_at "nd"); (case nb => walk_at "nd"))
  | ((refine' Nds.rep ?na _); (case na => walk_at "nd")))
local macro_rules | `(tactic| walk_at "len") => `(tactic| first
  | exact ly_sz (by omega)
  | ((simp only [List.length_append, List.length_cons, List.length_nil, List.length_map, PyProof.Rows.lm_len_rep_flat]); exact ly_sz (by omega)))
local macro_rules | `(tactic| walk_at "go1") => `(tactic| first
  | (with_reducible refine' w_kget2 ?_)
  | (with_reducible refine' w_isRN ?_)
  | (with_reducible refine' w_isNN ?_)
  | (with_reducible refine' w_isIN ?_)
  | ((with_reducible refine' w_kg ?hd ?_); (case hd => assumption)))
local macro_rules | `(tactic| walk_at "go1") => `(tactic| first
  | ((with_reducible refine' w_extT ?hh ?hh2 ?hz ?_); (case hh => walk_at "hp"); (case hh2 => walk_at "hp"))
  | ((with_reducible refine' w_I ?hc ?_); (case hc => exact ⟨by decide, by decide, by decide⟩))
  | (with_reducible refine' w_sl ?_)
  | (with_reducible refine' w_noP ?_)
  | (with_reducible refine' w_part ?_)
  | (with_reducible refine' w_part1 ?_)
  | (with_reducible refine' w_it ?_)
  | (with_reducible refine' w_it1 ?_)
  | ((with_reducible refine' w_lenZ ?hz ?_); (case hz => omega))
  | ((with_reducible refine' w_addZb ?hz ?_); (case hz => omega))
  | ((with_reducible refine' w_addZf ?hz ?_); (case hz => omega))
  | ((with_reducible refine' w_addZa ?hz ?_); (case hz => omega))
  | ((with_reducible refine' w_inS ?hh ?_); (case hh => walk_at "hp"))
  | ((with_reducible refine' w_ixT ?hh ?ha ?_); (case hh => assumption); (case ha => exact atI_nat (by assumption))))
local macro_rules | `(tactic| walk_at "go1") => `(tactic| first
  | (with_reducible refine' w_iR2 ?_)
  | ((with_reducible refine' w_iR21 ?h1 ?h2 ?h3 ?h4 ?_); (case h1 => omega); (case h2 => omega); (case h3 => omega); (case h4 => omega))
  | (with_reducible refine' w_nnI ?_)
  | (with_reducible refine' w_max ?_)
  | (with_reducible refine' w_break ?_)
  | (with_reducible refine' w_cont ?_))
local macro_rules | `(tactic| walk_at "go1") => `(tactic| first
  | (with_reducible refine' w_tdget ?_)
  | (with_reducible refine' w_tdin ?_)
  | (with_reducible refine' w_tdnotin ?_)
  | (with_reducible refine' w_sdput ?_)
  | (with_reducible refine' w_tdsetd ?_)
  | (with_reducible refine' w_dnew ?_))
local macro_rules | `(tactic| walk_at "go1") => `(tactic| first
  | (with_reducible refine' w_iZL ?_)
  | (with_reducible refine' w_sfld ?_)
  | (with_reducible refine' w_tfld ?_)
  | (with_reducible refine' w_make ?_)
  | fail)
local macro_rules | `(tactic| walk_at "go1") => `(tactic| first
  | (with_reducible refine' w_sfa ?_)
  | (with_reducible refine' w_tmP ?_)
  | (with_reducible refine' w_tdget2 ?_))
section
variable {P : Program} {w : World} {K : PySem.W.Frag} {mg : Str → Option Value} {base : Heap} {tk : Nat → Tok} {cl : Nat → Addr}
/-! ### a name's number -/
theorem rdF_fs {dn db ll : Addr} {d : Nat} : List.lookup ("numbers" : Str) (rdFs dn db ll d) = some (.ref dn) ∧ List.lookup ("bound" : Str) (rdFs dn db ll d) = some (.ref db) ∧ List.lookup ("depth" : Str) (rdFs dn db ll d) = some (.int (d : Int)) ∧ List.lookup ("levels" : Str) (rdFs dn db ll d) = some (.ref ll) := ⟨by rfl, by rfl, by rfl, by rfl⟩
def spRdVar (CR CL : Addr) : Sp := fun vs H Q _ => ∃ (x : Addr) (n : Str) (i : Int) (H0 : Hp) (fs : List Str) (N : Nat) (l : Lv) (r : List Lv) (k : Nat), vs = [.ref x, .str n, .int i] ∧ RdAt CR CL H0 H x fs N l r ∧ N ≤ 100000 ∧ numOf fs (scp (l :: r)) n = some k ∧ ∀ H', Ex H H' → Q (.int (k : Int)) H'
theorem bnd_mem {n : Str} {b : Addr} {g : Str → List V} {BA : List (Str × Addr)} (h : BA.lookup n = some b) : (b, HO.lst (g n)) ∈ bdFp g BA := by
  obtain ⟨B1, B2, rfl⟩ := lookup_split h
  rw [bdFp_split]
  simp
theorem ok_rdvar {f : Addr} {fd : FuncData} {k : Nat} (F : Fun K "variable" "Reader.variable" s_Reader_variable f fd) (T : Txt w K mg tk cl) : FnOk P w K mg base CX0 (k + 1) f fd ["self", "name", "at"] (spRdVar (cl 22) (cl 21)) := by
  refine F.ok sc_Reader_variable (fun vs H Q E h => ?_) (fun cdv A outer s H vs Q E hr h => ?_)
  · obtain ⟨_, _, _, _, _, _, _, _, _, rfl, _⟩ := h
    rfl
  · obtain ⟨x, n, i, H0, fs, N, l, r, k, rfl, ⟨dx, dn, db, ll, kn, kb, BA, a, as, h⟩, hN, hk, q⟩ := h
    refine ⟨_, (pss_cons (ps_set (i := 3) sc_Reader_variable.nd rfl (.inl rfl) (pe_dget2 (by exact Nat.lt_of_le_of_lt (Nat.add_le_add_left (by decide) _) hr.units) (pe_fld (pv 0) rfl) (pv 1) (pe_lst pa_nil) ⟨by rfl, by rfl, by rfl, by rfl⟩)) (pss_cons (ps_if (pt_cmpR op_gt (pe_callB call_len_seq (by rfl) T.n_len (by decide +kernel) (pa_cons (pv 3) pa_nil)) pe_int (nomark _)) (pss_one (ps_ret (pe_op op_sub (pe_op op_sub (pe_fld (pv 0) rfl) pe_int) (pe_ix ix_list (pv 3) (pe_un un_neg pe_int) (fun _ _ => rfl))))) pss_nil) (pss_cons (ps_if (pt_cmp (pc_dnotin (by exact Nat.lt_of_le_of_lt (Nat.add_le_add_left (by decide) _) hr.units) (pv 1) (pe_fld (pv 0) rfl))) (pss_one ps_dead) pss_nil) (pss_one (ps_ret (pe_op op_add (pe_fld (pv 0) rfl) (pe_dget (by exact Nat.lt_of_le_of_lt (Nat.add_le_add_left (by decide) _) hr.units) (pe_fld (pv 0) rfl) (pv 1) (fun _ _ => rfl)))))))), ?_⟩
    refine sl_of (σ2 := [some _, some _, some _, none]) rfl ?_
    have hx : H x = some (.ins (cl 22) dx (rdFs dn db ll (scp (l :: r)).length)) := h.own.at (by simp)
    have hdn : H dn = some (.dK kn) := h.own.at (by simp)
    have hdb : H db = some (.dK kb) := h.own.at (by simp)
    walk_at "st"
    walk_at "go"
    refine ⟨x, cl 22, dx, _, _, rfl, hx, T.cls_Reader, T.nf_Reader_bound, rdF_fs.2.1, ?_⟩
    refine ⟨db, rfl, isD hdb, ?_⟩
    walk_at "go"
    intro p hp
    have ex : Ex H (upd H p (.lst [])) := Ex.new hp
    have hp1 : upd H p (.lst []) p = some (.lst []) := upd_same
    have hx1 := ex _ _ hx
    have hdn1 := ex _ _ hdn
    have hdb1 := ex _ _ hdb
    refine ⟨_, dgetS hdb1, ?_⟩
    rw [h.bd.val n]
    have tail : ∀ (y : V) (H2 : Hp), n ∉ scp (l :: r) → Ex H H2 → tSeq (tIfS (tB (tDNotIn (tVar 1) (tFld K (tVar 0) "numbers"))) (fun _ _ _ => False) tNext) (tRet (tOp (rI0 fun i j => V.int (i + j)) (tFld K (tVar 0) "depth") (tDGet (tFld K (tVar 0) "numbers") (tVar 1)))) { nx := fun x H' => Q V.non H', rt := Q } [some (.ref x), some (.str n), some (.int i), some y] H2 := fun y H2 hn e2 => by
      have hx2 := e2 _ _ hx
      have hdn2 := e2 _ _ hdn
      unfold numOf at hk
      rw [if_neg hn] at hk
      by_cases hm : n ∈ fs
      · rw [if_pos hm] at hk
        have hkn : valV kn (.inr n) = some (.int (fs.idxOf n : Nat)) := by rw [h.num n, if_pos hm]
        walk_at "go"
        refine ⟨x, cl 22, dx, _, _, rfl, hx2, T.cls_Reader, T.nf_Reader_numbers, rdF_fs.1, ?_⟩
        refine w_dnotinS hdn2 ?_
        rw [hkn]
        refine ⟨_, rfl, iteF ?_⟩
        walk_at "go"
        refine ⟨x, cl 22, dx, _, _, rfl, hx2, T.cls_Reader, T.nf_Reader_depth, rdF_fs.2.2.1, ?_⟩
        walk_at "go"
        refine ⟨x, cl 22, dx, _, _, rfl, hx2, T.cls_Reader, T.nf_Reader_numbers, rdF_fs.1, ?_⟩
        walk_at "go"
        refine w_dgetS hdn2 hkn ?_
        walk_at "go"
        have ek := Option.some.inj hk
        rw [show ((scp (l :: r)).length : Int) + (fs.idxOf n : Nat) = (k : Int) by omega]
        exact q H2 e2
      · rw [if_neg hm] at hk
        cases hk
    cases e : BA.lookup n with
    | none =>
      have hn : n ∉ scp (l :: r) := fun z => by
        have := h.bd.cov n z
        rw [e] at this
        cases this
      dsimp only [Option.map, Option.getD]
      walk_at "go"
      refine iteF ?_
      refine w_next ?_
      exact tail _ _ hn ex
    | some b =>
      have hb : H b = some (.lst (pos0 (scp (l :: r)) n)) := h.own.at (by
        rw [List.mem_append, List.mem_append, List.mem_append]
        exact .inr (.inr (.inr (bnd_mem e))))
      have hb1 := ex _ _ hb
      dsimp only [Option.map, Option.getD]
      walk_at "go"
      by_cases hn : n ∈ scp (l :: r)
      · obtain ⟨xs, j, e1, e2⟩ := posL_last n _ (scp (l :: r)) rfl hn
        have e3 : pos0 (scp (l :: r)) n = nums xs ++ [V.int (j : Int)] := by
          unfold pos0
          rw [e1]
          simp [nums]
        rw [e3] at hb1 ⊢
        refine w_br (fun _ => ?_) (fun z => (z (by simp)).elim)
        walk_at "go"
        refine ⟨x, cl 22, dx, _, _, rfl, hx1, T.cls_Reader, T.nf_Reader_depth, rdF_fs.2.2.1, ?_⟩
        walk_at "go"
        unfold numOf at hk
        rw [if_pos hn] at hk
        have ek := Option.some.inj hk
        rw [show ((scp (l :: r)).length : Int) - 1 - (j : Int) = (k : Int) by omega]
        exact q _ ex
      · have e3 : pos0 (scp (l :: r)) n = [] := by
          unfold pos0
          rw [posL_nil hn]
          rfl
        rw [e3]
        refine iteF ?_
        refine w_next ?_
        exact tail _ _ hn ex
end
end Ly
set_option Elab.async false
set_option linter.all false
set_option maxRecDepth 100000
set_option maxHeartbeats 8000000
namespace Ly
open PySem PySem.Spec PyProof.Rows L2 Evl
local macro_rules | `(tactic| walk_at "ne") => `(tactic| first
  | assumption
  | ((refine' Ne.symm ?hq); (case hq => assumption))
  | ((refine' ne_of_none ?nh1 ?nh2); (case nh2 => assumption); (case nh1 => walk_at "hp"))
  | ((refine' Ne.symm (ne_of_none ?nh1 ?nh2)); (case nh2 => assumption); (case nh1 => walk_at "hp")))
local macro_rules | `(tactic| walk_at "hp") => `(tactic| first
  | assumption
  | exact upd_same
  | ((refine' SqL.of ?hq); (case hq => walk_at "hp"))
  | ((refine' SqT.of ?hq); (case hq => walk_at "hp"))
  | ((refine' (upd_ne ?hne).trans ?hrest); (case hne => walk_at "ne"); (case hrest => walk_at "hp"))
  | ((refine' ly_at ?hex ?hh); (case hex => assumption); (case hh => walk_at "hp"))
  | ((refine' ly_atF ?hex ?hnn ?hh); (case hex => assumption); (case hh => walk_at "hp"); (case hnn => walk_at "ne"))
  | ((refine' ex_t ?hex ?hh); (case hh => assumption); (case hex => walk_at "ex"))
  | ((refine' ex_l ?hex ?hh); (case hh => assumption); (case hex => walk_at "ex")))
local macro_rules | `(tactic| walk_at "ex") => `(tactic| first
  | assumption
  | exact Ex.refl _
  | ((refine' ex_new ?xa ?xb); (case xb => assumption); (case xa => walk_at "ex"))
  | ((refine' ex_upd ?xa ?xb); (case xb => walk_at "free"); (case xa => walk_at "ex"))
  | ((refine' Ex.trans ?xa ?xb); (case xb => assumption); (case xa => walk_at "ex")))
local macro_rules | `(tactic| walk_at "free") => `(tactic| first
  | assumption
  | ((refine' fresh_back ?xa ?xb); (case xb => assumption); (case xa => walk_at "ex")))
local macro_rules | `(tactic| walk_at "fr") => `(tactic| first
  | assumption
  | exact Fr.refl _ _
  | ((refine' Fr.own ?hq); (case hq => walk_at "fr"))
  | ((refine' Fr.new ?xa ?xb); (case xb => assumption); (case xa => walk_at "fr"))
  | ((refine' Fr.mut ?xa ?xb); (case xb => assumption); (case xa => walk_at "fr"))
  | ((refine' Fr.trans ?xa ?xb); (case xb => assumption); (case xa => walk_at "fr"))
  | ((refine' Fr.trans ?xa (Fr.ex ?xb)); (case xb => assumption); (case xa => walk_at "fr")))
local macro_rules | `(tactic| walk_at "go1") => `(tactic| first
  | (with_reducible refine' w_seq ?_)
  | (with_reducible refine' w_asg ?_)
  | (with_reducible refine' w_ret ?_)
  | (with_reducible refine' w_drop ?_)
  | (with_reducible refine' w_if ?_)
  | (with_reducible refine' w_next ?_)
  | (with_reducible refine' w_name ?_)
  | (with_reducible refine' w_sub ?_)
  | ((with_reducible refine' w_var ?hv ?_); (case hv => exact rfl))
  | (with_reducible refine' w_c ?_)
  | (with_reducible refine' w_op ?_)
  | (with_reducible refine' w_un ?_)
  | (with_reducible refine' w_ch ?_)
  | (with_reducible refine' w_I0 ?_)
  | ((with_reducible refine' w_I ?hc ?_); (case hc => first | (exact ly_mulL (by decide) (by decide)) | (exact ly_mulR (by decide) (by decide)) | (exact ly_mulL (by omega) (by omega)) | (show (_ : Int) ≠ 0; decide) | (show (_ : Int) ≠ 0; omega) | (exact ⟨by decide, by decide⟩) | (exact ⟨by omega, by omega⟩)))
  | (with_reducible refine' w_U ?_)
  | ((with_reducible refine' w_eq ?hs ?_); (case hs => exact rfl))
  | ((with_reducible refine' w_ne ?hs ?_); (case hs => exact rfl))
  | (with_reducible refine' w_isB ?_)
  | (with_reducible refine' w_notB ?_)
  | (with_reducible refine' w_nil ?_)
  | (with_reducible refine' w_cons ?_)
  | (with_reducible refine' w_tup ?_)
  | (with_reducible refine' w_lst ?_)
  | (with_reducible refine' w_cb ?_)
  | (with_reducible refine' w_call ?_)
  | (with_reducible refine' w_bm ?_)
  | (with_reducible refine' w_bm0 ?_)
  | ((with_reducible refine' w_app ?hh ?hz ?_); (case hh => walk_at "hp"); (case hz => first | exact ly_lt (by omega) | exact ly_lt (by simp only [List.length_append, List.length_map, List.length_cons, List.length_nil]; omega)))
  | ((with_reducible refine' w_popA ?hh ?_); (case hh => walk_at "hp"))
  | ((with_reducible refine' w_ext ?hh ?hh2 ?hz ?_); (case hh => walk_at "hp"); (case hh2 => walk_at "hp"))
  | ((with_reducible refine' w_ixL ?hh ?ha ?_); (case hh => walk_at "hp"); (case ha => first | exact rfl | exact at_map (by omega) | exact atI_last _ _ | ((refine' at_of ?ae ?ah); (case ah => assumption); (case ae => omega))))
  | ((with_reducible refine' w_ixT ?hh ?ha ?_); (case hh => walk_at "hp"); (case ha => first | exact rfl | exact at_map (by omega) | exact atI_last _ _ | ((refine' at_of ?ae ?ah); (case ah => assumption); (case ae => omega))))
  | ((with_reducible refine' w_cat ?hh ?hh2 ?hz ?_); (case hh => walk_at "hp"); (case hh2 => walk_at "hp"))
  | ((with_reducible refine' w_setL ?hh ?ha ?_); (case hh => walk_at "hp"); (case ha => exact rfl))
  | (with_reducible refine' w_test ?_)
  | (with_reducible refine' w_tB ?_)
  | (with_reducible refine' w_bl ?_)
  | (with_reducible refine' w_and ?_)
  | (with_reducible refine' w_or ?_)
  | (with_reducible refine' w_not ?_)
  | (with_reducible refine' w_andV ?_)
  | (with_reducible refine' w_orV ?_)
  | (with_reducible refine' w_notV ?_)
  | (with_reducible refine' w_ifE ?_)
  | (with_reducible refine' w_for ?_)
  | ((with_reducible refine' w_nin ?hh ?_); (case hh => walk_at "hp"))
  | ((with_reducible refine' w_sorted ?hh ?_); (case hh => walk_at "hp"))
  | (with_reducible refine' w_tsadd ?_)
  | ((with_reducible refine' w_tsadd1 ?hh ?_); (case hh => walk_at "hp"))
  | ((with_reducible refine' w_sadd ?hh ?hr ?_); (case hh => walk_at "hp"); (case hr => omega))
  | (with_reducible refine' w_iZ ?_)
  | ((with_reducible refine' w_iZ1 ?hh ?hh2 ?_); (case hh => walk_at "hp"); (case hh2 => walk_at "hp"))
  | (with_reducible refine' w_iS ?_)
  | (with_reducible refine' w_iS1 ?_)
  | ((with_reducible refine' w_gtup ?hh ?hn ?_); (case hh => walk_at "hp"); (case hn => exact rfl))
  | (with_reducible refine' w_gcons ?_)
  | (with_reducible refine' w_gnil ?_)
  | (with_reducible refine' w_js ?_)
  | (with_reducible refine' w_jsn ?_)
  | ((with_reducible refine' w_js1 ?hl ?_); (case hl => decide +kernel))
  | (with_reducible refine' w_fmt ?_)
  | ((with_reducible refine' w_fmt1 ?hl ?_); (case hl => decide +kernel))
  | (with_reducible refine' w_callS ?_)
  | ((with_reducible refine' w_truL ?hh ?_); (case hh => walk_at "hp"))
  | (with_reducible refine' w_lc ?_)
  | (with_reducible refine' w_yes ?_)
  | ((with_reducible refine' w_wipe ?he ?_); (case he => exact rfl))
  | (with_reducible refine' w_iL ?_)
  | (with_reducible refine' w_iT ?_)
  | (with_reducible refine' w_iR ?_)
  | ((with_reducible refine' w_iL1 ?hh ?_); (case hh => walk_at "hp"))
  | ((with_reducible refine' w_iT1 ?hh ?_); (case hh => walk_at "hp"))
  | ((with_reducible refine' w_iR1 ?h1 ?h2 ?_); (case h1 => omega); (case h2 => omega))
  | ((with_reducible refine' w_aug ?hv ?_); (case hv => exact rfl))
  | (with_reducible refine' w_ipI ?_)
  | ((with_reducible refine' w_isi ?hy ?hk ?_); (case hy => walk_at "ty"); (case hk => walk_at "kit"))
  | ((with_reducible refine' w_int ?_))
  | ((with_reducible refine' w_intB ?_))
  | ((with_reducible refine' w_abs ?_))
  | ((with_reducible refine' w_lenL ?hh ?_); (case hh => walk_at "hp"))
  | ((with_reducible refine' w_lenT ?hh ?_); (case hh => walk_at "hp"))
  | ((with_reducible refine' w_tupL ?hh ?_); (case hh => walk_at "hp"))
  | ((with_reducible refine' w_tupT ?hh ?_); (case hh => walk_at "hp"))
  | ((with_reducible refine' w_catA ?hh ?hh2 ?hz ?_); (case hh => walk_at "hp"); (case hh2 => walk_at "hp"); (case hz => walk_at "len"))
  | ((with_reducible refine' w_repB ?hh ?hne ?h2 ?h3 ?hz ?_); (case hh => walk_at "hp"); (case hne => simp); (case h2 => omega); (case h3 => omega); (case hz => exact Nat.le_of_ble_eq_true rfl))
  | ((with_reducible refine' w_eqN ?hh ?hh2 ?n1 ?n2 ?_); (case hh => walk_at "hp"); (case hh2 => walk_at "hp"); (case n1 => walk_at "nd"); (case n2 => walk_at "nd"))
  | ((with_reducible refine' w_neN ?hh ?hh2 ?n1 ?n2 ?_); (case hh => walk_at "hp"); (case hh2 => walk_at "hp"); (case n1 => walk_at "nd"); (case n2 => walk_at "nd"))
  | ((with_reducible refine' w_eqL ?hh ?hh2 ?n1 ?n2 ?_); (case hh => walk_at "hp"); (case hh2 => walk_at "hp"); (case n1 => walk_at "nd"); (case n2 => walk_at "nd"))
  | ((with_reducible refine' w_neL ?hh ?hh2 ?n1 ?n2 ?_); (case hh => walk_at "hp"); (case hh2 => walk_at "hp"); (case n1 => walk_at "nd"); (case n2 => walk_at "nd"))
  | ((with_reducible refine' w_neNon ?hh2 ?n2 ?_); (case hh2 => walk_at "hp"); (case n2 => walk_at "nd"))
  | ((with_reducible refine' w_eqNon ?hh2 ?n2 ?_); (case hh2 => walk_at "hp"); (case n2 => walk_at "nd"))
  | ((with_reducible refine' w_slA ?hh ?_); (case hh => walk_at "hp"))
  | ((with_reducible refine' w_disp ?hz ?_); (case hz => exact sz_of (Nat.le_of_ble_eq_true rfl)))
  | ((with_reducible refine' w_tyL ?hh ?_); (case hh => walk_at "hp"))
  | (with_reducible refine' iteT ?_)
  | (with_reducible refine' iteF ?_)
  | (with_reducible refine' w_nT ?_)
  | (with_reducible refine' w_nn ?_)
  | (with_reducible refine' w_nnT ?_)
  | (with_reducible refine' w_nnR ?_)
  | (with_reducible refine' w_neG ?_)
  | (with_reducible refine' w_eqG ?_)
  | (with_reducible refine' w_neS ?_)
  | (with_reducible refine' w_eqS ?_)
  | (with_reducible refine' w_neSb ?_)
  | (with_reducible refine' w_eqSb ?_)
  | (with_reducible refine' w_deIS ?_)
  | (with_reducible refine' w_deSI ?_)
  | (with_reducible refine' w_deISn ?_)
  | ((with_reducible refine' w_deST ?he ?_); (case he => decide +kernel))
  | ((with_reducible refine' w_deSF ?he ?_); (case he => decide +kernel))
  | ((with_reducible refine' w_deSTn ?he ?_); (case he => decide +kernel))
  | ((with_reducible refine' w_deSFn ?he ?_); (case he => decide +kernel))
  | (with_reducible refine' w_nF ?_)
  | dsimp only [Bool.not_true, Bool.not_false])
local macro_rules | `(tactic| walk_at "ty") => `(tactic| first
  | exact .base (.int _) | exact .base (.str _) | exact .base (.bl _) | exact .base .non
  | ((refine' tyx_t ?hq); (case hq => walk_at "hp")) | ((refine' tyx_l ?hq); (case hq => walk_at "hp")) | ((refine' .base (.tup ?hq)); (case hq => walk_at "hp")) | assumption)
local macro_rules | `(tactic| walk_at "go") => `(tactic| repeat walk_at "go1")
local macro_rules | `(tactic| walk_at "st") => `(tactic| try dsimp only [cxOf, Cx.nox, Cx.wish])
local macro_rules | `(tactic| walk_at "kit") => `(tactic| with_reducible first | exact kit_int_int | exact kit_int_str | exact kit_int_bool | exact kit_int_tuple | exact kit_int_list | exact kit_str_int | exact kit_str_str | exact kit_str_bool | exact kit_str_tuple | exact kit_str_list | exact kit_bool_int | exact kit_bool_str | exact kit_bool_bool | exact kit_bool_tuple | exact kit_bool_list | exact kit_NoneType_int | exact kit_NoneType_str | exact kit_NoneType_bool | exact kit_NoneType_tuple | exact kit_NoneType_list | exact kit_list_int | exact kit_list_str | exact kit_list_bool | exact kit_list_tuple | exact kit_list_list | exact kit_tuple_int | exact kit_tuple_str | exact kit_tuple_bool | exact kit_tuple_tuple | exact kit_tuple_list)
local macro_rules | `(tactic| walk_at "nd") => `(tactic| first
  | assumption
  | exact Tm.nds _
  | exact Nds.nil
  | exact Nds.ofInts _
  | ((refine' Nds.cons ?na ?nb); (case na => first | exact Nds.I _ | exact Nds.L | exact Nds.A); (case nb => walk_at "nd"))
  | ((refine' Nds.app ?na ?nb); (case na => walk_at "nd"); (case nb => walk_at "nd"))
  | ((refine' Nds.rep ?na _); (case na => walk_at "nd")))
local macro_rules | `(tactic| walk_at "len") => `(tactic| first
  | exact ly_sz (by omega)
  | ((simp only [List.length_append, List.length_cons, List.length_nil, List.length_map, PyProof.Rows.lm_len_rep_flat]); exact ly_sz (by omega)))
local macro_rules | `(tactic| walk_at "go1") => `(tactic| first
  | (with_reducible refine' w_kget2 ?_)
  | (with_reducible refine' w_isRN ?_)
  | (with_reducible refine' w_isNN ?_)
  | (with_reducible refine' w_isIN ?_)
  | ((with_reducible refine' w_kg ?hd ?_); (case hd => assumption)))
local macro_rules | `(tactic| walk_at "go1") => `(tactic| first
  | ((with_reducible refine' w_extT ?hh ?hh2 ?hz ?_); (case hh => walk_at "hp"); (case hh2 => walk_at "hp"))
  | ((with_reducible refine' w_I ?hc ?_); (case hc => exact ⟨by decide, by decide, by decide⟩))
  | (with_reducible refine' w_sl ?_)
  | (with_reducible refine' w_noP ?_)
  | (with_reducible refine' w_part ?_)
  | (with_reducible refine' w_part1 ?_)
  | (with_reducible refine' w_it ?_)
  | (with_reducible refine' w_it1 ?_)
  | ((with_reducible refine' w_lenZ ?hz ?_); (case hz => omega))
  | ((with_reducible refine' w_addZb ?hz ?_); (case hz => omega))
  | ((with_reducible refine' w_addZf ?hz ?_); (case hz => omega))
  | ((with_reducible refine' w_addZa ?hz ?_); (case hz => omega))
  | ((with_reducible refine' w_inS ?hh ?_); (case hh => walk_at "hp"))
  | ((with_reducible refine' w_ixT ?hh ?ha ?_); (case hh => assumption); (case ha => exact atI_nat (by assumption))))
local macro_rules | `(tactic| walk_at "go1") => `(tactic| first
  | (with_reducible refine' w_iR2 ?_)
  | ((with_reducible refine' w_iR21 ?h1 ?h2 ?h3 ?h4 ?_); (case h1 => omega); (case h2 => omega); (case h3 => omega); (case h4 => omega))
  | (with_reducible refine' w_nnI ?_)
  | (with_reducible refine' w_max ?_)
  | (with_reducible refine' w_break ?_)
  | (with_reducible refine' w_cont ?_))
local macro_rules | `(tactic| walk_at "go1") => `(tactic| first
  | (with_reducible refine' w_tdget ?_)
  | (with_reducible refine' w_tdin ?_)
  | (with_reducible refine' w_tdnotin ?_)
  | (with_reducible refine' w_sdput ?_)
  | (with_reducible refine' w_tdsetd ?_)
  | (with_reducible refine' w_dnew ?_))
local macro_rules | `(tactic| walk_at "go1") => `(tactic| first
  | (with_reducible refine' w_iZL ?_)
  | (with_reducible refine' w_sfld ?_)
  | (with_reducible refine' w_tfld ?_)
  | (with_reducible refine' w_make ?_)
  | fail)
local macro_rules | `(tactic| walk_at "go1") => `(tactic| first
  | (with_reducible refine' w_sfa ?_)
  | (with_reducible refine' w_tmP ?_)
  | (with_reducible refine' w_tdget2 ?_))
section
variable {P : Program} {w : World} {K : PySem.W.Frag} {mg : Str → Option Value} {base : Heap} {tk : Nat → Tok} {cl : Nat → Addr}
/-! ### the end of a level -/
def gk (sc ns : List Str) (i : Nat) (m : Str) : List V := nums ((posL m 0 sc).take ((posL m 0 sc).length - (ns.take i).count m))
theorem gk_zero (sc ns : List Str) (m : Str) : gk sc ns 0 m = pos0 sc m := by
  unfold gk pos0
  rw [List.take_zero, List.count_nil, Nat.sub_zero, List.take_length]
theorem gk_end (sc ns : List Str) (m : Str) : gk (sc ++ ns) ns ns.length m = pos0 sc m := by
  unfold gk pos0
  rw [List.take_length, posL_app, List.length_append, posL_len m ns, Nat.add_sub_cancel, List.take_left]
theorem gk_step {sc ns : List Str} {i : Nat} {n : Str} (hn : ns[i]? = some n) : (∀ m, m ≠ n → gk (sc ++ ns) ns (i + 1) m = gk (sc ++ ns) ns i m) ∧ ∃ xs y, gk (sc ++ ns) ns i n = xs ++ [y] ∧ gk (sc ++ ns) ns (i + 1) n = xs := by
  have tk : ns.take (i + 1) = ns.take i ++ [n] := by rw [List.take_add_one, hn]; rfl
  refine ⟨fun m hm => ?_, ?_⟩
  · unfold gk
    rw [tk, List.count_append, List.count_singleton, if_neg (by simpa using Ne.symm hm), Nat.add_zero]
  · have c1 : (ns.take (i + 1)).count n ≤ ns.count n := (List.take_sublist _ _).count_le n
    rw [tk, List.count_append, List.count_singleton_self] at c1
    have c2 : (posL n 0 (sc ++ ns)).length = sc.count n + ns.count n := by rw [posL_len, List.count_append]
    unfold gk
    rw [tk, List.count_append, List.count_singleton_self]
    generalize posL n 0 (sc ++ ns) = L at *
    generalize (ns.take i).count n = c at *
    have hl : L.length - c = (L.length - (c + 1)) + 1 := by omega
    have hlt : L.length - (c + 1) < L.length := by omega
    refine ⟨nums (L.take (L.length - (c + 1))), .int (L[L.length - (c + 1)] : Nat), ?_, rfl⟩
    have e : L.take (L.length - c) = L.take (L.length - (c + 1)) ++ [L[L.length - (c + 1)]] := by
      rw [hl, List.take_add_one, List.getElem?_eq_getElem hlt]
      rfl
    rw [e]
    show List.map _ _ = _
    rw [List.map_append]
    rfl
def spRdEnd (CR CL : Addr) : Sp := fun vs H Q _ => ∃ (x : Addr) (H0 : Hp) (fs : List Str) (N : Nat) (l p : Lv) (r : List Lv), vs = [.ref x] ∧ RdAt CR CL H0 H x fs N l (p :: r) ∧ N ≤ 100000 ∧ 0 < l.pt ∧ ∀ H', RdAt CR CL H0 H' x fs N (p.add l.all) r → Q .non H'
theorem ok_rdend {f : Addr} {fd : FuncData} (F : Fun K "end_level" "Reader.end_level" s_Reader_end_level f fd) (T : Txt w K mg tk cl)
    (M_Level_all_nodes : C8.Met P w K mg base 1 (cl 21) "all_nodes" (spLvAll (cl 21)) []) (M_Level_add_part : C8.Met P w K mg base 1 (cl 21) "add_part" (spLvAdd (cl 21)) []) : FnOk P w K mg base CX0 2 f fd ["self"] (spRdEnd (cl 22) (cl 21)) := by
  refine F.ok sc_Reader_end_level (fun vs H Q E h => ?_) (fun cdv A outer s H vs Q E hr h => ?_)
  · obtain ⟨_, _, _, _, _, _, _, rfl, _⟩ := h
    rfl
  · obtain ⟨x, H0, fs, N, l, p, r, rfl, ⟨dx, dn, db, ll, kn, kb, BA, a, as, h⟩, hN, hpt, q⟩ := h
    obtain ⟨ow, hlen, hnum, hbd, hsz, hbot⟩ := h
    have hbot' : Bot (p.add l.all) r := by
      cases r with
      | nil => exact hbot
      | cons _ _ => exact hbot
    cases as with
    | nil => simp at hlen
    | cons a2 as =>
      refine ⟨_, (pss_cons (ps_set (i := 1) sc_Reader_end_level.nd rfl (.inl rfl) (pe_bm0 PySem.F.plainAttrs_list PySem.F.slot_list_pop PySem.F.type_list_pop mt_pop (pe_fld (pv 0) rfl))) (pss_cons (ps_for PassesOwn.never rfl (pi_list (pe_fld (pv 1) rfl)) (pg_name (i := 2) sc_Reader_end_level.nd rfl (.inl rfl)) (pss_one (ps_expr (pe_bm0 PySem.F.plainAttrs_list PySem.F.slot_list_pop PySem.F.type_list_pop mt_pop (pe_dget (by exact Nat.lt_of_le_of_lt (Nat.add_le_add_left (by decide) _) hr.units) (pe_fld (pv 0) rfl) (pv 2) (fun _ _ => rfl)))))) (pss_cons (ps_fldaug (pv 0) (pe_callB call_len_seq (by rfl) T.n_len (by decide +kernel) (pa_cons (pe_fld (pv 1) rfl) pa_nil)) in_sub) (pss_one (ps_expr (C8.pe_mt M_Level_add_part hr (by first | decide | omega) (pe_ix ix_list (pe_fld (pv 0) rfl) (pe_un un_neg pe_int) (fun _ _ => rfl)) (pa_cons (C8.pe_mt0 M_Level_all_nodes hr (by first | decide | omega) (pv 1)) pa_nil))))))), ?_⟩
      refine sl_of (σ2 := [some _, none, none]) rfl ?_
      rw [lls_cons] at ow
      have hx : H x = some (.ins (cl 22) dx (rdFs dn db ll (scp (l :: p :: r)).length)) := ow.at (by simp)
      have hll : H ll = some (.lst (lls (a2 :: as) ++ [V.ref a.1])) := ow.at (by simp)
      walk_at "st"
      walk_at "go"
      refine ⟨x, cl 22, dx, _, _, rfl, hx, T.cls_Reader, T.nf_Reader_levels, rdF_fs.2.2.2, ?_⟩
      refine w_tyL (SqL.of hll) ?_
      walk_at "go"
      have ow := Own.set 3 (u := .lst (lls (a2 :: as))) ow (by rfl)
      generalize upd H ll (.lst (lls (a2 :: as))) = H1 at *
      have ow : Own H0 H1 (headFp (cl 22) x dx dn db ll kn kb (scp (l :: p :: r)).length (lls (a2 :: as)) ++ (lvFp (cl 21) a l ++ (lvsFp (cl 21) (a2 :: as) (p :: r) ++ bdFp (gk (scp (p :: r) ++ l.ns) l.ns 0) BA))) := by
        rw [bdFp_congr (g' := gk (scp (p :: r) ++ l.ns) l.ns 0) (g := pos0 (scp (l :: p :: r))) (fun m => gk_zero _ _ m)]
        exact ow
      have hax : H1 a.1 = some (.ins (cl 21) a.2.1 (lvFs l a.2.2.1 a.2.2.2)) := ow.at (by simp [lvFp])
      have hnl : H1 a.2.2.1 = some (.lst (txts l.ns)) := ow.at (by simp [lvFp])
      refine ⟨a.1, cl 21, a.2.1, _, _, rfl, hax, T.cls_Level, T.nf_Level_names, (by rfl : List.lookup ("names" : Str) (lvFs l a.2.2.1 a.2.2.2) = some (.ref a.2.2.1)), ?_⟩
      refine w_iL1 (SqL.of hnl) ?_
      refine for_list (K := K) (a := a.2.2.1) (xs := txts l.ns) (fun i σ H' => ∃ (y : Option V), σ = [some (.ref x), some (.ref a.1), y] ∧ Own H0 H' (headFp (cl 22) x dx dn db ll kn kb (scp (l :: p :: r)).length (lls (a2 :: as)) ++ (lvFp (cl 21) a l ++ (lvsFp (cl 21) (a2 :: as) (p :: r) ++ bdFp (gk (scp (p :: r) ++ l.ns) l.ns i) BA)))) ⟨none, rfl, ow⟩ (fun i σ H' _ ⟨_, _, h⟩ => SqL.of (h.at (by simp [lvFp]))) ?_ ?_
      · rintro i z σ H2 hi ⟨y, rfl, ow2⟩
        obtain ⟨n, hn, rfl⟩ : ∃ n, l.ns[i]? = some n ∧ z = V.str n := by
          rw [List.getElem?_map] at hi
          cases e : l.ns[i]? with
          | none => rw [e] at hi; cases hi
          | some n => rw [e] at hi; cases hi; exact ⟨n, rfl, rfl⟩
        obtain ⟨g1, xs, yy, g2, g3⟩ := gk_step (sc := scp (p :: r)) hn
        have hsc : n ∈ scp (l :: p :: r) := List.mem_append_right _ (List.mem_of_getElem? hn)
        have hcov := hbd.cov n hsc
        obtain ⟨b, hb⟩ := Option.isSome_iff_exists.mp hcov
        have hval : valV kb (.inr n) = some (.ref b) := by rw [hbd.val n, hb]; rfl
        have hx2 := ow2.at (a := x) (o := .ins (cl 22) dx (rdFs dn db ll (scp (l :: p :: r)).length)) (by simp)
        have hdb2 := ow2.at (a := db) (o := .dK kb) (by simp)
        walk_at "go"
        refine ⟨x, cl 22, dx, _, _, rfl, hx2, T.cls_Reader, T.nf_Reader_bound, rdF_fs.2.1, ?_⟩
        walk_at "go"
        refine w_dgetS hdb2 hval ?_
        obtain ⟨B1, B2, rfl⟩ := lookup_split hb
        rw [bdFp_split] at ow2
        have ow3 : Own H0 H2 ((headFp (cl 22) x dx dn db ll kn kb (scp (l :: p :: r)).length (lls (a2 :: as)) ++ (lvFp (cl 21) a l ++ (lvsFp (cl 21) (a2 :: as) (p :: r) ++ bdFp (gk (scp (p :: r) ++ l.ns) l.ns i) B1))) ++ (b, .lst (gk (scp (p :: r) ++ l.ns) l.ns i n)) :: bdFp (gk (scp (p :: r) ++ l.ns) l.ns i) B2) := by
          simpa only [List.append_assoc] using ow2
        rw [g2] at ow3
        have hb3 := ow3.at (a := b) (o := .lst (xs ++ [yy])) (by simp)
        refine w_tyL (SqL.of hb3) ?_
        walk_at "go"
        refine ⟨_, rfl, ?_⟩
        have ow4 := ow3.mid (u := .lst xs)
        rw [bdFp_upd hbd.nd g1, g3]
        simpa only [List.append_assoc] using ow4
      · rintro σ H2 ⟨y, rfl, ow2⟩
        rw [List.length_map, bdFp_congr (g' := gk (scp (p :: r) ++ l.ns) l.ns l.ns.length) (g := pos0 (scp (p :: r))) (fun m => gk_end _ _ m)] at ow2
        have hx2 := ow2.at (a := x) (o := .ins (cl 22) dx (rdFs dn db ll (scp (l :: p :: r)).length)) (by simp)
        have hax2 := ow2.at (a := a.1) (o := .ins (cl 21) a.2.1 (lvFs l a.2.2.1 a.2.2.2)) (by simp [lvFp])
        have hnl2 := ow2.at (a := a.2.2.1) (o := .lst (txts l.ns)) (by simp [lvFp])
        walk_at "go"
        refine ⟨x, cl 22, dx, _, _, rfl, hx2, T.cls_Reader, T.nf_Reader_depth, rdF_fs.2.2.1, ?_⟩
        walk_at "go"
        refine ⟨a.1, cl 21, a.2.1, _, _, rfl, hax2, T.cls_Level, T.nf_Level_names, (by rfl : List.lookup ("names" : Str) (lvFs l a.2.2.1 a.2.2.2) = some (.ref a.2.2.1)), ?_⟩
        walk_at "go"
        rw [List.length_map]
        refine ⟨_, _, rfl, rfl, ?_⟩
        refine ⟨dx, _, hx2, by show 4 < 1000; decide, ?_⟩
        have ow3 := Own.set 0 (u := .ins (cl 22) dx (putF "depth" (.int (((scp (l :: p :: r)).length : Int) - (l.ns.length : Int))) (rdFs dn db ll (scp (l :: p :: r)).length))) ow2 (by rfl)
        generalize upd H2 x (.ins (cl 22) dx (putF "depth" (.int (((scp (l :: p :: r)).length : Int) - (l.ns.length : Int))) (rdFs dn db ll (scp (l :: p :: r)).length))) = H3 at *
        have ed : putF "depth" (.int (((scp (l :: p :: r)).length : Int) - (l.ns.length : Int))) (rdFs dn db ll (scp (l :: p :: r)).length) = rdFs dn db ll (scp (p :: r)).length := by
          have e1 : ((scp (l :: p :: r)).length : Int) - (l.ns.length : Int) = ((scp (p :: r)).length : Int) := by
            rw [scp_cons l (p :: r), List.length_append]
            omega
          rw [e1]
          rfl
        have ow3 : Own H0 H3 (headFp (cl 22) x dx dn db ll kn kb (scp (p :: r)).length (lls (a2 :: as)) ++ (lvFp (cl 21) a l ++ (lvFp (cl 21) a2 p ++ (lvsFp (cl 21) as r ++ bdFp (pos0 (scp (p :: r))) BA)))) := by
          have := ow3
          rw [ed] at this
          simp only [lvsFp, List.append_assoc] at this
          exact this
        have hx3 := ow3.at (a := x) (o := .ins (cl 22) dx (rdFs dn db ll (scp (p :: r)).length)) (by simp)
        have hll3 := ow3.at (a := ll) (o := .lst (lls (a2 :: as))) (by simp)
        rw [lls_cons] at hll3
        have hax3 := ow3.at (a := a.1) (o := .ins (cl 21) a.2.1 (lvFs l a.2.2.1 a.2.2.2)) (by simp [lvFp])
        have hnl3 := ow3.at (a := a.2.2.1) (o := .lst (txts l.ns)) (by simp [lvFp])
        have hdl3 := ow3.at (a := a.2.2.2) (o := .lst l.nd) (by simp [lvFp])
        have ha23 := ow3.at (a := a2.1) (o := .ins (cl 21) a2.2.1 (lvFs p a2.2.2.1 a2.2.2.2)) (by simp [lvFp])
        have hz : l.size + (p.size + sizes r) ≤ 200000 := by
          have : sizes (l :: p :: r) = l.size + (p.size + sizes r) := rfl
          omega
        walk_at "go"
        refine ⟨x, cl 22, dx, _, _, rfl, hx3, T.cls_Reader, T.nf_Reader_levels, rdF_fs.2.2.2, ?_⟩
        walk_at "go"
        refine ⟨a2.1, a2.2.1, _, rfl, ha23, rfl, ?_⟩
        walk_at "go"
        refine ⟨a.1, a.2.1, _, rfl, hax3, rfl, ?_⟩
        walk_at "go"
        refine ⟨a.1, a.2.1, a.2.2.1, a.2.2.2, l, rfl, hax3, hnl3, hdl3, by omega, fun H4 qq e4 hq3 hq4 => ?_⟩
        have ow4 := ow3.mono e4
        have ow5 : Own H0 H4 (lvFp (cl 21) a2 p ++ (headFp (cl 22) x dx dn db ll kn kb (scp (p :: r)).length (lls (a2 :: as)) ++ (lvsFp (cl 21) as r ++ bdFp (pos0 (scp (p :: r))) BA))) := by
          have o1 := ow4.sub (G := headFp (cl 22) x dx dn db ll kn kb (scp (p :: r)).length (lls (a2 :: as)) ++ (lvFp (cl 21) a2 p ++ (lvsFp (cl 21) as r ++ bdFp (pos0 (scp (p :: r))) BA))) (List.Sublist.append_left (List.sublist_append_right _ _) _)
          exact o1.perm (List.perm_append_comm_assoc _ _ _)
        have hdl2 : H3 a2.2.2.2 = some (.lst p.nd) := ow3.at (by simp [lvFp])
        refine ⟨a2.1, a2.2.1, a2.2.2.1, a2.2.2.2, qq, p, l.all, H0, _, rfl, ow5, hq4, (ne_of_none hdl2 hq3).symm, ?_, fun H6 ow6 => ?_⟩
        · have h1 := all_len hpt
          have h2 : p.nd.length ≤ p.size := by unfold Lv.size; omega
          omega
        walk_at "go"
        refine q H6 ⟨dx, dn, db, ll, kn, kb, BA, a2, as, ow6.perm (List.perm_append_comm_assoc _ _ _), by simpa using hlen, hnum, ⟨hbd.nd, hbd.val, fun n hn => hbd.cov n (List.mem_append_left _ hn), hbd.len⟩, ?_, hbot'⟩
        have h1 := all_len hpt
        have h2 := size_add p l.all
        have h3 : sizes (l :: p :: r) = l.size + (p.size + sizes r) := rfl
        show (p.add l.all).size + sizes r ≤ 2 * N
        omega
end
end Ly
set_option Elab.async false
set_option linter.all false
set_option maxRecDepth 100000
set_option maxHeartbeats 8000000
namespace Ly
open PySem PySem.Spec PyProof.Rows L2 Evl
local macro_rules | `(tactic| walk_at "ne") => `(tactic| first
  | assumption
  | ((refine' Ne.symm ?hq); (case hq => assumption))
  | ((refine' ne_of_none ?nh1 ?nh2); (case nh2 => assumption); (case nh1 => walk_at "hp"))
  | ((refine' Ne.symm (ne_of_none ?nh1 ?nh2)); (case nh2 => assumption); (case nh1 => walk_at "hp")))
local macro_rules | `(tactic| walk_at "hp") => `(tactic| first
  | assumption
  | exact upd_same
  | ((refine' SqL.of ?hq); (case hq => walk_at "hp"))
  | ((refine' SqT.of ?hq); (case hq => walk_at "hp"))
  | ((refine' (upd_ne ?hne).trans ?hrest); (case hne => walk_at "ne"); (case hrest => walk_at "hp"))
  | ((refine' ly_at ?hex ?hh); (case hex => assumption); (case hh => walk_at "hp"))
  | ((refine' ly_atF ?hex ?hnn ?hh); (case hex => assumption); (case hh => walk_at "hp"); (case hnn => walk_at "ne"))
  | ((refine' ex_t ?hex ?hh); (case hh => assumption); (case hex => walk_at "ex"))
  | ((refine' ex_l ?hex ?hh); (case hh => assumption); (case hex => walk_at "ex")))
local macro_rules | `(tactic| walk_at "ex") => `(tactic| first
  | assumption
  | exact Ex.refl _
  | ((refine' ex_new ?xa ?xb); (case xb => assumption); (case xa => walk_at "ex"))
  | ((refine' ex_upd ?xa ?xb); (case xb => walk_at "free"); (case xa => walk_at "ex"))
  | ((refine' Ex.trans ?xa ?xb); (case xb => assumption); (case xa => walk_at "ex")))
local macro_rules | `(tactic| walk_at "free") => `(tactic| first
  | assumption
  | ((refine' fresh_back ?xa ?xb); (case xb => assumption); (case xa => walk_at "ex")))
local macro_rules | `(tactic| walk_at "fr") => `(tactic| first
  | assumption
  | exact Fr.refl _ _
  | ((refine' Fr.own ?hq); (case hq => walk_at "fr"))
  | ((refine' Fr.new ?xa ?xb); (case xb => assumption); (case xa => walk_at "fr"))
  | ((refine' Fr.mut ?xa ?xb); (case xb => assumption); (case xa => walk_at "fr"))
  | ((refine' Fr.trans ?xa ?xb); (case xb => assumption); (case xa => walk_at "fr"))
  | ((refine' Fr.trans ?xa (Fr.ex ?xb)); (case xb => assumption); (case xa => walk_at "fr")))
local macro_rules | `(tactic| walk_at "go1") => `(tactic| first
  | (with_reducible refine' w_seq ?_)
  | (with_reducible refine' w_asg ?_)
  | (with_reducible refine' w_ret ?_)
  | (with_reducible refine' w_drop ?_)
  | (with_reducible refine' w_if ?_)
  | (with_reducible refine' w_next ?_)
  | (with_reducible refine' w_name ?_)
  | (with_reducible refine' w_sub ?_)
  | ((with_reducible refine' w_var ?hv ?_); (case hv => exact rfl))
  | (with_reducible refine' w_c ?_)
  | (with_reducible refine' w_op ?_)
  | (with_reducible refine' w_un ?_)
  | (with_reducible refine' w_ch ?_)
  | (with_reducible refine' w_I0 ?_)
  | ((with_reducible refine' w_I ?hc ?_); (case hc => first | (exact ly_mulL (by decide) (by decide)) | (exact ly_mulR (by decide) (by decide)) | (exact ly_mulL (by omega) (by omega)) | (show (_ : Int) ≠ 0; decide) | (show (_ : Int) ≠ 0; omega) | (exact ⟨by decide, by decide⟩) | (exact ⟨by omega, by omega⟩)))
  | (with_reducible refine' w_U ?_)
  | ((with_reducible refine' w_eq ?hs ?_); (case hs => exact rfl))
  | ((with_reducible refine' w_ne ?hs ?_); (case hs => exact rfl))
  | (with_reducible refine' w_isB ?_)
  | (with_reducible refine' w_notB ?_)
  | (with_reducible refine' w_nil ?_)
  | (with_reducible refine' w_cons ?_)
  | (with_reducible refine' w_tup ?_)
  | (with_reducible refine' w_lst ?_)
  | (with_reducible refine' w_cb ?_)
  | (with_reducible refine' w_call ?_)
  | (with_reducible refine' w_bm ?_)
  | (with_reducible refine' w_bm0 ?_)
  | ((with_reducible refine' w_app ?hh ?hz ?_); (case hh => walk_at "hp"); (case hz => first | exact ly_lt (by omega) | exact ly_lt (by simp only [List.length_append, List.length_map, List.length_cons, List.length_nil]; omega)))
  | ((with_reducible refine' w_popA ?hh ?_); (case hh => walk_at "hp"))
  | ((with_reducible refine' w_ext ?hh ?hh2 ?hz ?_); (case hh => walk_at "hp"); (case hh2 => walk_at "hp"))
  | ((with_reducible refine' w_ixL ?hh ?ha ?_); (case hh => walk_at "hp"); (case ha => first | exact rfl | exact at_map (by omega) | exact atI_last _ _ | ((refine' at_of ?ae ?ah); (case ah => assumption); (case ae => omega))))
  | ((with_reducible refine' w_ixT ?hh ?ha ?_); (case hh => walk_at "hp"); (case ha => first | exact rfl | exact at_map (by omega) | exact atI_last _ _ | ((refine' at_of ?ae ?ah); (case ah => assumption); (case ae => omega))))
  | ((with_reducible refine' w_cat ?hh ?hh2 ?hz ?_); (case hh => walk_at "hp"); (case hh2 => walk_at "hp"))
  | ((with_reducible refine' w_setL ?hh ?ha ?_); (case hh => walk_at "hp"); (case ha => exact rfl))
  | (with_reducible refine' w_test ?_)
  | (with_reducible refine' w_tB ?_)
  | (with_reducible refine' w_bl ?_)
  | (with_reducible refine' w_and ?_)
  | (with_reducible refine' w_or ?_)
  | (with_reducible refine' w_not ?_)
  | (with_reducible refine' w_andV ?_)
  | (with_reducible refine' w_orV ?_)
  | (with_reducible refine' w_notV ?_)
  | (with_reducible refine' w_ifE ?_)
  | (with_reducible refine' w_for ?_)
  | ((with_reducible refine' w_nin ?hh ?_); (case hh => walk_at "hp"))
  | ((with_reducible refine' w_sorted ?hh ?_); (case hh => walk_at "hp"))
  | (with_reducible refine' w_tsadd ?_)
  | ((with_reducible refine' w_tsadd1 ?hh ?_); (case hh => walk_at "hp"))
  | ((with_reducible refine' w_sadd ?hh ?hr ?_); (case hh => walk_at "hp"); (case hr => omega))
  | (with_reducible refine' w_iZ ?_)
  | ((with_reducible refine' w_iZ1 ?hh ?hh2 ?_); (case hh => walk_at "hp"); (case hh2 => walk_at "hp"))
  | (with_reducible refine' w_iS ?_)
  | (with_reducible refine' w_iS1 ?_)
  | ((with_reducible refine' w_gtup ?hh ?hn ?_); (case hh => walk_at "hp"); (case hn => exact rfl))
  | (with_reducible refine' w_gcons ?_)
  | (with_reducible refine' w_gnil ?_)
  | (with_reducible refine' w_js ?_)
  | (with_reducible refine' w_jsn ?_)
  | ((with_reducible refine' w_js1 ?hl ?_); (case hl => decide +kernel))
  | (with_reducible refine' w_fmt ?_)
  | ((with_reducible refine' w_fmt1 ?hl ?_); (case hl => decide +kernel))
  | (with_reducible refine' w_callS ?_)
  | ((with_reducible refine' w_truL ?hh ?_); (case hh => walk_at "hp"))
  | (with_reducible refine' w_lc ?_)
  | (with_reducible refine' w_yes ?_)
  | ((with_reducible refine' w_wipe ?he ?_); (case he => exact rfl))
  | (with_reducible refine' w_iL ?_)
  | (with_reducible refine' w_iT ?_)
  | (with_reducible refine' w_iR ?_)
  | ((with_reducible refine' w_iL1 ?hh ?_); (case hh => walk_at "hp"))
  | ((with_reducible refine' w_iT1 ?hh ?_); (case hh => walk_at "hp"))
  | ((with_reducible refine' w_iR1 ?h1 ?h2 ?_); (case h1 => omega); (case h2 => omega))
  | ((with_reducible refine' w_aug ?hv ?_); (case hv => exact rfl))
  | (with_reducible refine' w_ipI ?_)
  | ((with_reducible refine' w_isi ?hy ?hk ?_); (case hy => walk_at "ty"); (case hk => walk_at "kit"))
  | ((with_reducible refine' w_int ?_))
  | ((with_reducible refine' w_intB ?_))
  | ((with_reducible refine' w_abs ?_))
  | ((with_reducible refine' w_lenL ?hh ?_); (case hh => walk_at "hp"))
  | ((with_reducible refine' w_lenT ?hh ?_); (case hh => walk_at "hp"))
  | ((with_reducible refine' w_tupL ?hh ?_); (case hh => walk_at "hp"))
  | ((with_reducible refine' w_tupT ?hh ?_); (case hh => walk_at "hp"))
  | ((with_reducible refine' w_catA ?hh ?hh2 ?hz ?_); (case hh => walk_at "hp"); (case hh2 => walk_at "hp"); (case hz => walk_at "len"))
  | ((with_reducible refine' w_repB ?hh ?hne ?h2 ?h3 ?hz ?_); (case hh => walk_at "hp"); (case hne => simp); (case h2 => omega); (case h3 => omega); (case hz => exact Nat.le_of_ble_eq_true rfl))
  | ((with_reducible refine' w_eqN ?hh ?hh2 ?n1 ?n2 ?_); (case hh => walk_at "hp"); (case hh2 => walk_at "hp"); (case n1 => walk_at "nd"); (case n2 => walk_at "nd"))
  | ((with_reducible refine' w_neN ?hh ?hh2 ?n1 ?n2 ?_); (case hh => walk_at "hp"); (case hh2 => walk_at "hp"); (case n1 => walk_at "nd"); (case n2 => walk_at "nd"))
  | ((with_reducible refine' w_eqL ?hh ?hh2 ?n1 ?n2 ?_); (case hh => walk_at "hp"); (case hh2 => walk_at "hp"); (case n1 => walk_at "nd"); (case n2 => walk_at "nd"))
  | ((with_reducible refine' w_neL ?hh ?hh2 ?n1 ?n2 ?_); (case hh => walk_at "hp"); (case hh2 => walk_at "hp"); (case n1 => walk_at "nd"); (case n2 => walk_at "nd"))
  | ((with_reducible refine' w_neNon ?hh2 ?n2 ?_); (case hh2 => walk_at "hp"); (case n2 => walk_at "nd"))
  | ((with_reducible refine' w_eqNon ?hh2 ?n2 ?_); (case hh2 => walk_at "hp"); (case n2 => walk_at "nd"))
  | ((with_reducible refine' w_slA ?hh ?_); (case hh => walk_at "hp"))
  | ((with_reducible refine' w_disp ?hz ?_); (case hz => exact sz_of (Nat.le_of_ble_eq_true rfl)))
  | ((with_reducible refine' w_tyL ?hh ?_); (case hh => walk_at "hp"))
  | (with_reducible refine' iteT ?_)
  | (with_reducible refine' iteF ?_)
  | (with_reducible refine' w_nT ?_)
  | (with_reducible refine' w_nn ?_)
  | (with_reducible refine' w_nnT ?_)
  | (with_reducible refine' w_nnR ?_)
  | (with_reducible refine' w_neG ?_)
  | (with_reducible refine' w_eqG ?_)
  | (with_reducible refine' w_neS ?_)
  | (with_reducible refine' w_eqS ?_)
  | (with_reducible refine' w_neSb ?_)
  | (with_reducible refine' w_eqSb ?_)
  | (with_reducible refine' w_deIS ?_)
  | (with_reducible refine' w_deSI ?_)
  | (with_reducible refine' w_deISn ?_)
  | ((with_reducible refine' w_deST ?he ?_); (case he => decide +kernel))
  | ((with_reducible refine' w_deSF ?he ?_); (case he => decide +kernel))
  | ((with_reducible refine' w_deSTn ?he ?_); (case he => decide +kernel))
  | ((with_reducible refine' w_deSFn ?he ?_); (case he => decide +kernel))
  | (with_reducible refine' w_nF ?_)
  | dsimp only [Bool.not_true, Bool.not_false])
local macro_rules | `(tactic| walk_at "ty") => `(tactic| first
  | exact .base (.int _) | exact .base (.str _) | exact .base (.bl _) | exact .base .non
  | ((refine' tyx_t ?hq); (case hq => walk_at "hp")) | ((refine' tyx_l ?hq); (case hq => walk_at "hp")) | ((refine' .base (.tup ?hq)); (case hq => walk_at "hp")) | assumption)
local macro_rules | `(tactic| walk_at "go") => `(tactic| repeat walk_at "go1")
local macro_rules | `(tactic| walk_at "st") => `(tactic| try dsimp only [cxOf, Cx.nox, Cx.wish])
local macro_rules | `(tactic| walk_at "kit") => `(tactic| with_reducible first | exact kit_int_int | exact kit_int_str | exact kit_int_bool | exact kit_int_tuple | exact kit_int_list | exact kit_str_int | exact kit_str_str | exact kit_str_bool | exact kit_str_tuple | exact kit_str_list | exact kit_bool_int | exact kit_bool_str | exact kit_bool_bool | exact kit_bool_tuple | exact kit_bool_list | exact kit_NoneType_int | exact kit_NoneType_str | exact kit_NoneType_bool | exact kit_NoneType_tuple | exact kit_NoneType_list | exact kit_list_int | exact kit_list_str | exact kit_list_bool | exact kit_list_tuple | exact kit_list_list | exact kit_tuple_int | exact kit_tuple_str | exact kit_tuple_bool | exact kit_tuple_tuple | exact kit_tuple_list)
local macro_rules | `(tactic| walk_at "nd") => `(tactic| first
  | assumption
  | exact Tm.nds _
  | exact Nds.nil
  | exact Nds.ofInts _
  | ((refine' Nds.cons ?na ?nb); (case na => first | exact Nds.I _ | exact Nds.L | exact Nds.A); (case nb => walk_at "nd"))
  | ((refine' Nds.app ?na ?nb); (case na => walk_at "nd"); (case nb => walk_at "nd"))
  | ((refine' Nds.rep ?na _); (case na => walk_at "nd")))
local macro_rules | `(tactic| walk_at "len") => `(tactic| first
  | exact ly_sz (by omega)
  | ((simp only [List.length_append, List.length_cons, List.length_nil, List.length_map, PyProof.Rows.lm_len_rep_flat]); exact ly_sz (by omega)))
local macro_rules | `(tactic| walk_at "go1") => `(tactic| first
  | (with_reducible refine' w_kget2 ?_)
  | (with_reducible refine' w_isRN ?_)
  | (with_reducible refine' w_isNN ?_)
  | (with_reducible refine' w_isIN ?_)
  | ((with_reducible refine' w_kg ?hd ?_); (case hd => assumption)))
local macro_rules | `(tactic| walk_at "go1") => `(tactic| first
  | ((with_reducible refine' w_extT ?hh ?hh2 ?hz ?_); (case hh => walk_at "hp"); (case hh2 => walk_at "hp"))
  | ((with_reducible refine' w_I ?hc ?_); (case hc => exact ⟨by decide, by decide, by decide⟩))
  | (with_reducible refine' w_sl ?_)
  | (with_reducible refine' w_noP ?_)
  | (with_reducible refine' w_part ?_)
  | (with_reducible refine' w_part1 ?_)
  | (with_reducible refine' w_it ?_)
  | (with_reducible refine' w_it1 ?_)
  | ((with_reducible refine' w_lenZ ?hz ?_); (case hz => omega))
  | ((with_reducible refine' w_addZb ?hz ?_); (case hz => omega))
  | ((with_reducible refine' w_addZf ?hz ?_); (case hz => omega))
  | ((with_reducible refine' w_addZa ?hz ?_); (case hz => omega))
  | ((with_reducible refine' w_inS ?hh ?_); (case hh => walk_at "hp"))
  | ((with_reducible refine' w_ixT ?hh ?ha ?_); (case hh => assumption); (case ha => exact atI_nat (by assumption))))
local macro_rules | `(tactic| walk_at "go1") => `(tactic| first
  | (with_reducible refine' w_iR2 ?_)
  | ((with_reducible refine' w_iR21 ?h1 ?h2 ?h3 ?h4 ?_); (case h1 => omega); (case h2 => omega); (case h3 => omega); (case h4 => omega))
  | (with_reducible refine' w_nnI ?_)
  | (with_reducible refine' w_max ?_)
  | (with_reducible refine' w_break ?_)
  | (with_reducible refine' w_cont ?_))
local macro_rules | `(tactic| walk_at "go1") => `(tactic| first
  | (with_reducible refine' w_tdget ?_)
  | (with_reducible refine' w_tdin ?_)
  | (with_reducible refine' w_tdnotin ?_)
  | (with_reducible refine' w_sdput ?_)
  | (with_reducible refine' w_tdsetd ?_)
  | (with_reducible refine' w_dnew ?_))
local macro_rules | `(tactic| walk_at "go1") => `(tactic| first
  | (with_reducible refine' w_iZL ?_)
  | (with_reducible refine' w_sfld ?_)
  | (with_reducible refine' w_tfld ?_)
  | (with_reducible refine' w_make ?_)
  | fail)
local macro_rules | `(tactic| walk_at "go1") => `(tactic| first
  | (with_reducible refine' w_sfa ?_)
  | (with_reducible refine' w_tmP ?_)
  | (with_reducible refine' w_tdget2 ?_))
section
variable {P : Program} {w : World} {K : PySem.W.Frag} {mg : Str → Option Value} {base : Heap} {tk : Nat → Tok} {cl : Nat → Addr}
/-! ### abstractions' ends, openers, periods, closings, names -/
def spRdAbs (CR CL : Addr) : Sp := fun vs H Q _ => ∃ (x : Addr) (i : Int) (H0 : Hp) (fs : List Str) (N : Nat) (l : Lv) (r : List Lv), vs = [.ref x, .int i] ∧ RdAt CR CL H0 H x fs N l r ∧ N ≤ 100000 ∧ l.whole = true ∧ ∀ H', RdAt CR CL H0 H' x fs N (closeAbs l r).1 (closeAbs l r).2 → Q .non H'
theorem whole_pt {l : Lv} (h : l.whole = true) : 0 < l.pt := by
  unfold Lv.whole at h
  rw [Bool.and_eq_true] at h
  exact of_decide_eq_true h.2
theorem ok_rdabs {f : Addr} {fd : FuncData} (F : Fun K "end_abstractions" "Reader.end_abstractions" s_Reader_end_abstractions f fd) (T : Txt w K mg tk cl)
    (M_Level_is_whole : C8.Met P w K mg base 1 (cl 21) "is_whole" (spLvWhole (cl 21)) []) (M_Reader_end_level : C8.Met P w K mg base 2 (cl 22) "end_level" (spRdEnd (cl 22) (cl 21)) []) : FnOk P w K mg base CX0 3 f fd ["self", "at"] (spRdAbs (cl 22) (cl 21)) := by
  refine F.ok sc_Reader_end_abstractions (fun vs H Q E h => ?_) (fun cdv A outer s H vs Q E hr h => ?_)
  · obtain ⟨_, _, _, _, _, _, _, rfl, _⟩ := h
    rfl
  · obtain ⟨x, i, H0, fs, N, l, r, rfl, h, hN, hw, q⟩ := h
    refine ⟨_, (pss_cons (ps_if (pt_not (pt_val (C8.pe_mt0 M_Level_is_whole hr (by first | decide | omega) (pe_ix ix_list (pe_fld (pv 0) rfl) (pe_un un_neg pe_int) (fun _ _ => rfl))))) (pss_one ps_dead) pss_nil) (pss_one (ps_while PassesOwn.never (pt_cmpR op_eq (pe_fld (pe_ix ix_list (pe_fld (pv 0) rfl) (pe_un un_neg pe_int) (fun _ _ => rfl)) rfl) pe_str (nomark _)) (pss_one (ps_expr (C8.pe_mt0 M_Reader_end_level hr (by first | decide | omega) (pv 0))))))), ?_⟩
    refine sl_of (σ2 := [some _, some _]) rfl ?_
    obtain ⟨dx, dn, db, ll, ax, adx, nl, dl, d, ys, hx, hll, hax, -, -, -⟩ := h.top
    walk_at "st"
    walk_at "go"
    refine ⟨x, cl 22, dx, _, _, rfl, hx, T.cls_Reader, T.nf_Reader_levels, rdF_fs.2.2.2, ?_⟩
    walk_at "go"
    refine ⟨ax, adx, _, rfl, hax, rfl, ?_⟩
    walk_at "go"
    refine ⟨ax, adx, nl, dl, l, rfl, hax, ?_⟩
    rw [hw]
    walk_at "go"
    refine w_while (fun m σ H' => ∃ (l' : Lv) (r' : List Lv), σ = [some (.ref x), some (.int i)] ∧ RdAt (cl 22) (cl 21) H0 H' x fs N l' r' ∧ closeAbs l' r' = closeAbs l r ∧ 0 < l'.pt ∧ m = r'.length) r.length ⟨l, r, rfl, h, rfl, whole_pt hw, rfl⟩ ?_
    rintro m σ H1 ⟨l', r', rfl, h1, hc, hp, rfl⟩
    clear hx hll hax
    obtain ⟨dx, dn, db, ll, ax, adx, nl, dl, d, ys, hx, hll, hax, -, -, -⟩ := h1.top
    walk_at "go"
    refine ⟨x, cl 22, dx, _, _, rfl, hx, T.cls_Reader, T.nf_Reader_levels, rdF_fs.2.2.2, ?_⟩
    walk_at "go"
    refine ⟨ax, cl 21, adx, _, _, rfl, hax, T.cls_Level, T.nf_Level_opener, (by rfl : List.lookup ("opener" : Str) (lvFs l' nl dl) = some (.str l'.op)), ?_⟩
    walk_at "go"
    refine w_brS (fun ho => ?_) (fun ho => ?_)
    · cases r' with
      | nil =>
        have := h1.bot
        rw [show l'.op = "" from this] at ho
        exact absurd ho (by decide +kernel)
      | cons p r2 =>
        refine ⟨fun σ' H' => ∃ (l' : Lv) (r' : List Lv), σ' = [some (.ref x), some (.int i)] ∧ RdAt (cl 22) (cl 21) H0 H' x fs N l' r' ∧ closeAbs l' r' = closeAbs l r ∧ 0 < l'.pt ∧ r2.length = r'.length, fun σ' H' ⟨l2, r3, a1, a2, a3, a4, a5⟩ => ⟨_, ?_, l2, r3, a1, a2, a3, a4, a5⟩, ?_⟩
        · simp
        walk_at "go"
        refine ⟨x, dx, _, rfl, hx, rfl, ?_⟩
        walk_at "go"
        refine ⟨x, H0, fs, N, l', p, r2, rfl, h1, hN, hp, fun H2 h2 => ?_⟩
        walk_at "go"
        exact ⟨_, r2, rfl, h2, by rw [← hc, close_go ho], Nat.succ_pos _, rfl⟩
    · walk_at "go"
      rw [close_stop ho] at hc
      rw [← hc] at q
      exact q H1 h1
def spRdOpen (CR CL : Addr) : Sp := fun vs H Q _ => ∃ (x : Addr) (o : Str) (i : Int) (H0 : Hp) (fs : List Str) (N : Nat) (l : Lv) (r : List Lv), vs = [.ref x, .str o, .int i] ∧ RdAt CR CL H0 H x fs N l r ∧ N ≤ 100000 ∧ l.nm = false ∧ r.length + 1 ≤ 60 ∧ ∀ H', RdAt CR CL H0 H' x fs N (Lv.new o) (l :: r) → Q .non H'
theorem ok_rdopen {f : Addr} {fd : FuncData} (F : Fun K "read_opener" "Reader.read_opener" s_Reader_read_opener f fd) (T : Txt w K mg tk cl)
    (D1 : DefC P w K mg base CX0 1 (cl 21) ["self", "opener"] (spLvInit (cl 21))) : FnOk P w K mg base CX0 3 f fd ["self", "token", "at"] (spRdOpen (cl 22) (cl 21)) := by
  obtain ⟨f1, fd1, M_Level, b_Level_init, G_Level_init⟩ := D1
  refine F.ok sc_Reader_read_opener (fun vs H Q E h => ?_) (fun cdv A outer s H vs Q E hr h => ?_)
  · obtain ⟨_, _, _, _, _, _, _, _, rfl, _⟩ := h
    rfl
  · obtain ⟨x, o, i, H0, fs, N, l, r, rfl, h, hN, hnm, hlen, q⟩ := h
    refine ⟨_, (pss_cons (ps_if (PW.pt (pw_or (pt_val (pe_fld (pe_ix ix_list (pe_fld (pv 0) rfl) (pe_un un_neg pe_int) (fun _ _ => rfl)) rfl)) (pw_or1 (pt_cmpR op_gt (pe_callB call_len_seq (by rfl) T.n_len (by decide +kernel) (pa_cons (pe_fld (pv 0) rfl) pa_nil)) (pe_glob (v := .int 60) rfl T.g_MOST_OPEN ⟨_, rfl⟩) (nomark _))))) (pss_one ps_dead) pss_nil) (pss_one (ps_expr (pe_bm PySem.F.plainAttrs_list PySem.F.slot_list_append PySem.F.type_list_append mt_append (pe_fld (pv 0) rfl) (pa_cons (pe_make M_Level G_Level_init (hr.mono (by first | decide | omega)) (by rfl) T.g_Level b_Level_init .nil pass0 (pa_cons (pv 1) pa_nil)) pa_nil))))), ?_⟩
    refine sl_of (σ2 := [some _, some _, some _]) rfl ?_
    obtain ⟨dx, dn, db, ll, ax, adx, nl, dl, d, ys, hx, hll, hax, -, -, hys⟩ := h.top
    walk_at "st"
    walk_at "go"
    refine ⟨x, cl 22, dx, _, _, rfl, hx, T.cls_Reader, T.nf_Reader_levels, rdF_fs.2.2.2, ?_⟩
    walk_at "go"
    refine ⟨ax, cl 21, adx, _, _, rfl, hax, T.cls_Level, T.nf_Level_naming, (by rfl : List.lookup ("naming" : Str) (lvFs l nl dl) = some (.bl l.nm)), ?_⟩
    rw [hnm]
    walk_at "go"
    refine ⟨x, cl 22, dx, _, _, rfl, hx, T.cls_Reader, T.nf_Reader_levels, rdF_fs.2.2.2, ?_⟩
    walk_at "go"
    refine w_br (fun z => ?_) (fun z => ?_)
    · rw [List.length_append, List.length_singleton, hys] at z
      omega
    walk_at "go"
    refine ⟨x, cl 22, dx, _, _, rfl, hx, T.cls_Reader, T.nf_Reader_levels, rdF_fs.2.2.2, ?_⟩
    refine w_tyL (SqL.of hll) ?_
    walk_at "go"
    intro lx ldx hlx hldx hne
    obtain ⟨dx, dn, db, ll2, kn, kb, BA, a, as, h⟩ := h
    have hx2 : H x = some (.ins (cl 22) dx (rdFs dn db ll2 (scp (l :: r)).length)) := h.own.at (by simp)
    have ell : ll = ll2 := by
      have := hx2.symm.trans hx
      simp only [Option.some.injEq, HO.ins.injEq, rdFs, List.cons.injEq, Prod.mk.injEq, V.ref.injEq] at this
      exact this.2.2.2.2.2.1.2.symm
    subst ell
    have hll2 : H ll = some (.lst (lls (a :: as))) := h.own.at (by simp)
    have eys : ys ++ [V.ref ax] = lls (a :: as) := by
      have := hll.symm.trans hll2
      simpa using this
    rw [eys] at hll
    have ow5 := h.own.new (u := .own lx) hldx
    have ow6 := ow5.new (a := lx) (u := .ins (cl 21) ldx []) (by rw [upd_ne hne.symm]; exact hlx)
    refine ⟨lx, ldx, o, H0, _, rfl, ow6, fun H7 nl dl ow7 => ⟨rfl, ?_⟩⟩
    walk_at "go"
    have ow8 : Own H0 H7 (lvFp (cl 21) (lx, ldx, nl, dl) (Lv.new o) ++ (headFp (cl 22) x dx dn db ll kn kb (scp (l :: r)).length (lls (a :: as)) ++ (lvFp (cl 21) a l ++ (lvsFp (cl 21) as r ++ bdFp (pos0 (scp (l :: r))) BA)))) := ow7.sub (List.Sublist.append_left (List.sublist_cons_self _ _) _)
    have hll8 := ow8.at (a := ll) (o := .lst (lls (a :: as))) (by simp [lvFp])
    refine w_app hll8 (ly_lt (by rw [lls, List.length_reverse, List.length_map, List.length_cons, h.len]; omega)) ?_
    have ow9 := Own.set 6 (u := .lst (lls (a :: as) ++ [V.ref lx])) ow8 (by rfl)
    refine q _ ⟨dx, dn, db, ll, kn, kb, BA, (lx, ldx, nl, dl), a :: as, ?_, by simp [h.len], h.num, ?_, ?_, h.bot⟩
    · have es : scp (Lv.new o :: l :: r) = scp (l :: r) := List.append_nil _
      have o2 := ow9.perm (List.perm_append_comm_assoc (lvFp (cl 21) (lx, ldx, nl, dl) (Lv.new o)) (headFp (cl 22) x dx dn db ll kn kb (scp (l :: r)).length (lls (a :: as) ++ [V.ref lx])) _)
      rw [es, show lls ((lx, ldx, nl, dl) :: a :: as) = lls (a :: as) ++ [V.ref lx] from lls_cons _ _]
      simp only [lvsFp, List.append_assoc] at o2 ⊢
      exact o2
    · have es : scp (Lv.new o :: l :: r) = scp (l :: r) := List.append_nil _
      rw [es]
      exact h.bd
    · have := h.sz
      show (Lv.new o).size + sizes (l :: r) ≤ 2 * N
      have e : (Lv.new o).size = 0 := rfl
      omega
end
end Ly
set_option Elab.async false
set_option linter.all false
set_option maxRecDepth 100000
set_option maxHeartbeats 8000000
namespace Ly
open PySem PySem.Spec PyProof.Rows L2 Evl
local macro_rules | `(tactic| walk_at "ne") => `(tactic| first
  | assumption
  | ((refine' Ne.symm ?hq); (case hq => assumption))
  | ((refine' ne_of_none ?nh1 ?nh2); (case nh2 => assumption); (case nh1 => walk_at "hp"))
  | ((refine' Ne.symm (ne_of_none ?nh1 ?nh2)); (case nh2 => assumption); (case nh1 => walk_at "hp")))
local macro_rules | `(tactic| walk_at "hp") => `(tactic| first
  | assumption
  | exact upd_same
  | ((refine' SqL.of ?hq); (case hq => walk_at "hp"))
  | ((refine' SqT.of ?hq); (case hq => walk_at "hp"))
  | ((refine' (upd_ne ?hne).trans ?hrest); (case hne => walk_at "ne"); (case hrest => walk_at "hp"))
  | ((refine' ly_at ?hex ?hh); (case hex => assumption); (case hh => walk_at "hp"))
  | ((refine' ly_atF ?hex ?hnn ?hh); (case hex => assumption); (case hh => walk_at "hp"); (case hnn => walk_at "ne"))
  | ((refine' ex_t ?hex ?hh); (case hh => assumption); (case hex => walk_at "ex"))
  | ((refine' ex_l ?hex ?hh); (case hh => assumption); (case hex => walk_at "ex")))
local macro_rules | `(tactic| walk_at "ex") => `(tactic| first
  | assumption
  | exact Ex.refl _
  | ((refine' ex_new ?xa ?xb); (case xb => assumption); (case xa => walk_at "ex"))
  | ((refine' ex_upd ?xa ?xb); (case xb => walk_at "free"); (case xa => walk_at "ex"))
  | ((refine' Ex.trans ?xa ?xb); (case xb => assumption); (case xa => walk_at "ex")))
local macro_rules | `(tactic| walk_at "free") => `(tactic| first
  | assumption
  | ((refine' fresh_back ?xa ?xb); (case xb => assumption); (case xa => walk_at "ex")))
local macro_rules | `(tactic| walk_at "fr") => `(tactic| first
  | assumption
  | exact Fr.refl _ _
  | ((refine' Fr.own ?hq); (case hq => walk_at "fr"))
  | ((refine' Fr.new ?xa ?xb); (case xb => assumption); (case xa => walk_at "fr"))
  | ((refine' Fr.mut ?xa ?xb); (case xb => assumption); (case xa => walk_at "fr"))
  | ((refine' Fr.trans ?xa ?xb); (case xb => assumption); (case xa => walk_at "fr"))
  | ((refine' Fr.trans ?xa (Fr.ex ?xb)); (case xb => assumption); (case xa => walk_at "fr")))
local macro_rules | `(tactic| walk_at "go1") => `(tactic| first
  | (with_reducible refine' w_seq ?_)
  | (with_reducible refine' w_asg ?_)
  | (with_reducible refine' w_ret ?_)
  | (with_reducible refine' w_drop ?_)
  | (with_reducible refine' w_if ?_)
  | (with_reducible refine' w_next ?_)
  | (with_reducible refine' w_name ?_)
  | (with_reducible refine' w_sub ?_)
  | ((with_reducible refine' w_var ?hv ?_); (case hv => exact rfl))
  | (with_reducible refine' w_c ?_)
  | (with_reducible refine' w_op ?_)
  | (with_reducible refine' w_un ?_)
  | (with_reducible refine' w_ch ?_)
  | (with_reducible refine' w_I0 ?_)
  | ((with_reducible refine' w_I ?hc ?_); (case hc => first | (exact ly_mulL (by decide) (by decide)) | (exact ly_mulR (by decide) (by decide)) | (exact ly_mulL (by omega) (by omega)) | (show (_ : Int) ≠ 0; decide) | (show (_ : Int) ≠ 0; omega) | (exact ⟨by decide, by decide⟩) | (exact ⟨by omega, by omega⟩)))
  | (with_reducible refine' w_U ?_)
  | ((with_reducible refine' w_eq ?hs ?_); (case hs => exact rfl))
  | ((with_reducible refine' w_ne ?hs ?_); (case hs => exact rfl))
  | (with_reducible refine' w_isB ?_)
  | (with_reducible refine' w_notB ?_)
  | (with_reducible refine' w_nil ?_)
  | (with_reducible refine' w_cons ?_)
  | (with_reducible refine' w_tup ?_)
  | (with_reducible refine' w_lst ?_)
  | (with_reducible refine' w_cb ?_)
  | (with_reducible refine' w_call ?_)
  | (with_reducible refine' w_bm ?_)
  | (with_reducible refine' w_bm0 ?_)
  | ((with_reducible refine' w_app ?hh ?hz ?_); (case hh => walk_at "hp"); (case hz => first | exact ly_lt (by omega) | exact ly_lt (by simp only [List.length_append, List.length_map, List.length_cons, List.length_nil]; omega)))
  | ((with_reducible refine' w_popA ?hh ?_); (case hh => walk_at "hp"))
  | ((with_reducible refine' w_ext ?hh ?hh2 ?hz ?_); (case hh => walk_at "hp"); (case hh2 => walk_at "hp"))
  | ((with_reducible refine' w_ixL ?hh ?ha ?_); (case hh => walk_at "hp"); (case ha => first | exact rfl | exact at_map (by omega) | exact atI_last _ _ | ((refine' at_of ?ae ?ah); (case ah => assumption); (case ae => omega))))
  | ((with_reducible refine' w_ixT ?hh ?ha ?_); (case hh => walk_at "hp"); (case ha => first | exact rfl | exact at_map (by omega) | exact atI_last _ _ | ((refine' at_of ?ae ?ah); (case ah => assumption); (case ae => omega))))
  | ((with_reducible refine' w_cat ?hh ?hh2 ?hz ?_); (case hh => walk_at "hp"); (case hh2 => walk_at "hp"))
  | ((with_reducible refine' w_setL ?hh ?ha ?_); (case hh => walk_at "hp"); (case ha => exact rfl))
  | (with_reducible refine' w_test ?_)
  | (with_reducible refine' w_tB ?_)
  | (with_reducible refine' w_bl ?_)
  | (with_reducible refine' w_and ?_)
  | (with_reducible refine' w_or ?_)
  | (with_reducible refine' w_not ?_)
  | (with_reducible refine' w_andV ?_)
  | (with_reducible refine' w_orV ?_)
  | (with_reducible refine' w_notV ?_)
  | (with_reducible refine' w_ifE ?_)
  | (with_reducible refine' w_for ?_)
  | ((with_reducible refine' w_nin ?hh ?_); (case hh => walk_at "hp"))
  | ((with_reducible refine' w_sorted ?hh ?_); (case hh => walk_at "hp"))
  | (with_reducible refine' w_tsadd ?_)
  | ((with_reducible refine' w_tsadd1 ?hh ?_); (case hh => walk_at "hp"))
  | ((with_reducible refine' w_sadd ?hh ?hr ?_); (case hh => walk_at "hp"); (case hr => omega))
  | (with_reducible refine' w_iZ ?_)
  | ((with_reducible refine' w_iZ1 ?hh ?hh2 ?_); (case hh => walk_at "hp"); (case hh2 => walk_at "hp"))
  | (with_reducible refine' w_iS ?_)
  | (with_reducible refine' w_iS1 ?_)
  | ((with_reducible refine' w_gtup ?hh ?hn ?_); (case hh => walk_at "hp"); (case hn => exact rfl))
  | (with_reducible refine' w_gcons ?_)
  | (with_reducible refine' w_gnil ?_)
  | (with_reducible refine' w_js ?_)
  | (with_reducible refine' w_jsn ?_)
  | ((with_reducible refine' w_js1 ?hl ?_); (case hl => decide +kernel))
  | (with_reducible refine' w_fmt ?_)
  | ((with_reducible refine' w_fmt1 ?hl ?_); (case hl => decide +kernel))
  | (with_reducible refine' w_callS ?_)
  | ((with_reducible refine' w_truL ?hh ?_); (case hh => walk_at "hp"))
  | (with_reducible refine' w_lc ?_)
  | (with_reducible refine' w_yes ?_)
  | ((with_reducible refine' w_wipe ?he ?_); (case he => exact rfl))
  | (with_reducible refine' w_iL ?_)
  | (with_reducible refine' w_iT ?_)
  | (with_reducible refine' w_iR ?_)
  | ((with_reducible refine' w_iL1 ?hh ?_); (case hh => walk_at "hp"))
  | ((with_reducible refine' w_iT1 ?hh ?_); (case hh => walk_at "hp"))
  | ((with_reducible refine' w_iR1 ?h1 ?h2 ?_); (case h1 => omega); (case h2 => omega))
  | ((with_reducible refine' w_aug ?hv ?_); (case hv => exact rfl))
  | (with_reducible refine' w_ipI ?_)
  | ((with_reducible refine' w_isi ?hy ?hk ?_); (case hy => walk_at "ty"); (case hk => walk_at "kit"))
  | ((with_reducible refine' w_int ?_))
  | ((with_reducible refine' w_intB ?_))
  | ((with_reducible refine' w_abs ?_))
  | ((with_reducible refine' w_lenL ?hh ?_); (case hh => walk_at "hp"))
  | ((with_reducible refine' w_lenT ?hh ?_); (case hh => walk_at "hp"))
  | ((with_reducible refine' w_tupL ?hh ?_); (case hh => walk_at "hp"))
  | ((with_reducible refine' w_tupT ?hh ?_); (case hh => walk_at "hp"))
  | ((with_reducible refine' w_catA ?hh ?hh2 ?hz ?_); (case hh => walk_at "hp"); (case hh2 => walk_at "hp"); (case hz => walk_at "len"))
  | ((with_reducible refine' w_repB ?hh ?hne ?h2 ?h3 ?hz ?_); (case hh => walk_at "hp"); (case hne => simp); (case h2 => omega); (case h3 => omega); (case hz => exact Nat.le_of_ble_eq_true rfl))
  | ((with_reducible refine' w_eqN ?hh ?hh2 ?n1 ?n2 ?_); (case hh => walk_at "hp"); (case hh2 => walk_at "hp"); (case n1 => walk_at "nd"); (case n2 => walk_at "nd"))
  | ((with_reducible refine' w_neN ?hh ?hh2 ?n1 ?n2 ?_); (case hh => walk_at "hp"); (case hh2 => walk_at "hp"); (case n1 => walk_at "nd"); (case n2 => walk_at "nd"))
  | ((with_reducible refine' w_eqL ?hh ?hh2 ?n1 ?n2 ?_); (case hh => walk_at "hp"); (case hh2 => walk_at "hp"); (case n1 => walk_at "nd"); (case n2 => walk_at "nd"))
  | ((with_reducible refine' w_neL ?hh ?hh2 ?n1 ?n2 ?_); (case hh => walk_at "hp"); (case hh2 => walk_at "hp"); (case n1 => walk_at "nd"); (case n2 => walk_at "nd"))
  | ((with_reducible refine' w_neNon ?hh2 ?n2 ?_); (case hh2 => walk_at "hp"); (case n2 => walk_at "nd"))
  | ((with_reducible refine' w_eqNon ?hh2 ?n2 ?_); (case hh2 => walk_at "hp"); (case n2 => walk_at "nd"))
  | ((with_reducible refine' w_slA ?hh ?_); (case hh => walk_at "hp"))
  | ((with_reducible refine' w_disp ?hz ?_); (case hz => exact sz_of (Nat.le_of_ble_eq_true rfl)))
  | ((with_reducible refine' w_tyL ?hh ?_); (case hh => walk_at "hp"))
  | (with_reducible refine' iteT ?_)
  | (with_reducible refine' iteF ?_)
  | (with_reducible refine' w_nT ?_)
  | (with_reducible refine' w_nn ?_)
  | (with_reducible refine' w_nnT ?_)
  | (with_reducible refine' w_nnR ?_)
  | (with_reducible refine' w_neG ?_)
  | (with_reducible refine' w_eqG ?_)
  | (with_reducible refine' w_neS ?_)
  | (with_reducible refine' w_eqS ?_)
  | (with_reducible refine' w_neSb ?_)
  | (with_reducible refine' w_eqSb ?_)
  | (with_reducible refine' w_deIS ?_)
  | (with_reducible refine' w_deSI ?_)
  | (with_reducible refine' w_deISn ?_)
  | ((with_reducible refine' w_deST ?he ?_); (case he => decide +kernel))
  | ((with_reducible refine' w_deSF ?he ?_); (case he => decide +kernel))
  | ((with_reducible refine' w_deSTn ?he ?_); (case he => decide +kernel))
  | ((with_reducible refine' w_deSFn ?he ?_); (case he => decide +kernel))
  | (with_reducible refine' w_nF ?_)
  | dsimp only [Bool.not_true, Bool.not_false])
local macro_rules | `(tactic| walk_at "ty") => `(tactic| first
  | exact .base (.int _) | exact .base (.str _) | exact .base (.bl _) | exact .base .non
  | ((refine' tyx_t ?hq); (case hq => walk_at "hp")) | ((refine' tyx_l ?hq); (case hq => walk_at "hp")) | ((refine' .base (.tup ?hq)); (case hq => walk_at "hp")) | assumption)
local macro_rules | `(tactic| walk_at "go") => `(tactic| repeat walk_at "go1")
local macro_rules | `(tactic| walk_at "st") => `(tactic| try dsimp only [cxOf, Cx.nox, Cx.wish])
local macro_rules | `(tactic| walk_at "kit") => `(tactic| with_reducible first | exact kit_int_int | exact kit_int_str | exact kit_int_bool | exact kit_int_tuple | exact kit_int_list | exact kit_str_int | exact kit_str_str | exact kit_str_bool | exact kit_str_tuple | exact kit_str_list | exact kit_bool_int | exact kit_bool_str | exact kit_bool_bool | exact kit_bool_tuple | exact kit_bool_list | exact kit_NoneType_int | exact kit_NoneType_str | exact kit_NoneType_bool | exact kit_NoneType_tuple | exact kit_NoneType_list | exact kit_list_int | exact kit_list_str | exact kit_list_bool | exact kit_list_tuple | exact kit_list_list | exact kit_tuple_int | exact kit_tuple_str | exact kit_tuple_bool | exact kit_tuple_tuple | exact kit_tuple_list)
local macro_rules | `(tactic| walk_at "nd") => `(tactic| first
  | assumption
  | exact Tm.nds _
  | exact Nds.nil
  | exact Nds.ofInts _
  | ((refine' Nds.cons ?na ?nb); (case na => first | exact Nds.I _ | exact Nds.L | exact Nds.A); (case nb => walk_at "nd"))
  | ((refine' Nds.app ?na ?nb); (case na => walk_at "nd"); (case nb => walk_at "nd"))
  | ((refine' Nds.rep ?na _); (case na => walk_at "nd")))
local macro_rules | `(tactic| walk_at "len") => `(tactic| first
  | exact ly_sz (by omega)
  | ((simp only [List.length_append, List.length_cons, List.length_nil, List.length_map, PyProof.Rows.lm_len_rep_flat]); exact ly_sz (by omega)))
local macro_rules | `(tactic| walk_at "go1") => `(tactic| first
  | (with_reducible refine' w_kget2 ?_)
  | (with_reducible refine' w_isRN ?_)
  | (with_reducible refine' w_isNN ?_)
  | (with_reducible refine' w_isIN ?_)
  | ((with_reducible refine' w_kg ?hd ?_); (case hd => assumption)))
local macro_rules | `(tactic| walk_at "go1") => `(tactic| first
  | ((with_reducible refine' w_extT ?hh ?hh2 ?hz ?_); (case hh => walk_at "hp"); (case hh2 => walk_at "hp"))
  | ((with_reducible refine' w_I ?hc ?_); (case hc => exact ⟨by decide, by decide, by decide⟩))
  | (with_reducible refine' w_sl ?_)
  | (with_reducible refine' w_noP ?_)
  | (with_reducible refine' w_part ?_)
  | (with_reducible refine' w_part1 ?_)
  | (with_reducible refine' w_it ?_)
  | (with_reducible refine' w_it1 ?_)
  | ((with_reducible refine' w_lenZ ?hz ?_); (case hz => omega))
  | ((with_reducible refine' w_addZb ?hz ?_); (case hz => omega))
  | ((with_reducible refine' w_addZf ?hz ?_); (case hz => omega))
  | ((with_reducible refine' w_addZa ?hz ?_); (case hz => omega))
  | ((with_reducible refine' w_inS ?hh ?_); (case hh => walk_at "hp"))
  | ((with_reducible refine' w_ixT ?hh ?ha ?_); (case hh => assumption); (case ha => exact atI_nat (by assumption))))
local macro_rules | `(tactic| walk_at "go1") => `(tactic| first
  | (with_reducible refine' w_iR2 ?_)
  | ((with_reducible refine' w_iR21 ?h1 ?h2 ?h3 ?h4 ?_); (case h1 => omega); (case h2 => omega); (case h3 => omega); (case h4 => omega))
  | (with_reducible refine' w_nnI ?_)
  | (with_reducible refine' w_max ?_)
  | (with_reducible refine' w_break ?_)
  | (with_reducible refine' w_cont ?_))
local macro_rules | `(tactic| walk_at "go1") => `(tactic| first
  | (with_reducible refine' w_tdget ?_)
  | (with_reducible refine' w_tdin ?_)
  | (with_reducible refine' w_tdnotin ?_)
  | (with_reducible refine' w_sdput ?_)
  | (with_reducible refine' w_tdsetd ?_)
  | (with_reducible refine' w_dnew ?_))
local macro_rules | `(tactic| walk_at "go1") => `(tactic| first
  | (with_reducible refine' w_iZL ?_)
  | (with_reducible refine' w_sfld ?_)
  | (with_reducible refine' w_tfld ?_)
  | (with_reducible refine' w_make ?_)
  | fail)
local macro_rules | `(tactic| walk_at "go1") => `(tactic| first
  | (with_reducible refine' w_sfa ?_)
  | (with_reducible refine' w_tmP ?_)
  | (with_reducible refine' w_tdget2 ?_))
section
variable {P : Program} {w : World} {K : PySem.W.Frag} {mg : Str → Option Value} {base : Heap} {tk : Nat → Tok} {cl : Nat → Addr}
def spRdPer (CR CL : Addr) : Sp := fun vs H Q _ => ∃ (x : Addr) (i : Int) (H0 : Hp) (fs : List Str) (N : Nat) (l : Lv) (r : List Lv), vs = [.ref x, .int i] ∧ RdAt CR CL H0 H x fs N l r ∧ l.nm = true ∧ l.ns ≠ [] ∧ ∀ H', RdAt CR CL H0 H' x fs N { l with nm := false } r → Q .non H'
theorem bot_nm {l l' : Lv} {r : List Lv} (h : Bot l r) (e : l'.op = l.op) : Bot l' r := by
  cases r with
  | nil => exact e.trans h
  | cons _ _ => exact h
theorem ok_rdper {f : Addr} {fd : FuncData} {k : Nat} (F : Fun K "read_period" "Reader.read_period" s_Reader_read_period f fd) (T : Txt w K mg tk cl) : FnOk P w K mg base CX0 (k + 1) f fd ["self", "at"] (spRdPer (cl 22) (cl 21)) := by
  refine F.ok sc_Reader_read_period (fun vs H Q E h => ?_) (fun cdv A outer s H vs Q E hr h => ?_)
  · obtain ⟨_, _, _, _, _, _, _, rfl, _⟩ := h
    rfl
  · obtain ⟨x, i, H0, fs, N, l, r, rfl, h, hnm, hns, q⟩ := h
    refine ⟨_, (pss_cons (ps_set (i := 2) sc_Reader_read_period.nd rfl (.inl rfl) (pe_ix ix_list (pe_fld (pv 0) rfl) (pe_un un_neg pe_int) (fun _ _ => rfl))) (pss_cons (ps_if (PW.pt (pw_or (pt_not (pt_val (pe_fld (pv 2) rfl))) (pw_or1 (pt_cmpR op_eq (pe_callB call_len_seq (by rfl) T.n_len (by decide +kernel) (pa_cons (pe_fld (pv 2) rfl) pa_nil)) pe_int (nomark _))))) (pss_one ps_dead) pss_nil) (pss_one (ps_fld (pv 2) pe_bl rfl)))), ?_⟩
    refine sl_of (σ2 := [some _, some _, none]) rfl ?_
    obtain ⟨dx, dn, db, ll, kn, kb, BA, a, as, h⟩ := h
    have hx : H x = some (.ins (cl 22) dx (rdFs dn db ll (scp (l :: r)).length)) := h.own.at (by simp)
    have hll : H ll = some (.lst (lls as ++ [V.ref a.1])) := h.own.at (by simp [lls_cons])
    have hax : H a.1 = some (.ins (cl 21) a.2.1 (lvFs l a.2.2.1 a.2.2.2)) := h.own.at (by simp [lvFp])
    have hnl : H a.2.2.1 = some (.lst (txts l.ns)) := h.own.at (by simp [lvFp])
    walk_at "st"
    walk_at "go"
    refine ⟨x, cl 22, dx, _, _, rfl, hx, T.cls_Reader, T.nf_Reader_levels, rdF_fs.2.2.2, ?_⟩
    walk_at "go"
    refine ⟨a.1, cl 21, a.2.1, _, _, rfl, hax, T.cls_Level, T.nf_Level_naming, (by rfl : List.lookup ("naming" : Str) (lvFs l a.2.2.1 a.2.2.2) = some (.bl l.nm)), ?_⟩
    rw [hnm]
    walk_at "go"
    refine ⟨a.1, cl 21, a.2.1, _, _, rfl, hax, T.cls_Level, T.nf_Level_names, (by rfl : List.lookup ("names" : Str) (lvFs l a.2.2.1 a.2.2.2) = some (.ref a.2.2.1)), ?_⟩
    walk_at "go"
    refine w_brI (fun z => ?_) (fun z => ?_)
    · rw [List.length_map] at z
      exact (hns (List.length_eq_zero_iff.mp (by omega))).elim
    walk_at "go"
    refine ⟨a.1, cl 21, a.2.1, _, rfl, hax, T.cls_Level, T.nf_Level_naming, by show 5 < 1000; decide, ?_⟩
    have ow := Own.set 4 (u := .ins (cl 21) a.2.1 (putF "naming" (.bl false) (lvFs l a.2.2.1 a.2.2.2))) h.own (by rfl)
    walk_at "go"
    exact q _ ⟨dx, dn, db, ll, kn, kb, BA, a, as, ow, h.len, h.num, h.bd, h.sz, bot_nm h.bot rfl⟩
def spRdClo (CR CL : Addr) : Sp := fun vs H Q _ => ∃ (x : Addr) (i : Int) (H0 : Hp) (fs : List Str) (N : Nat) (l p : Lv) (r r2 : List Lv), vs = [.ref x, .int i] ∧ RdAt CR CL H0 H x fs N l r ∧ N ≤ 100000 ∧ l.whole = true ∧ (closeAbs l r).1.op = "(" ∧ (closeAbs l r).2 = p :: r2 ∧ ∀ H', RdAt CR CL H0 H' x fs N (p.add (closeAbs l r).1.all) r2 → Q .non H'
theorem ok_rdclo {f : Addr} {fd : FuncData} (F : Fun K "read_closing" "Reader.read_closing" s_Reader_read_closing f fd) (T : Txt w K mg tk cl)
    (M_Reader_end_abstractions : C8.Met P w K mg base 3 (cl 22) "end_abstractions" (spRdAbs (cl 22) (cl 21)) []) (M_Reader_end_level : C8.Met P w K mg base 2 (cl 22) "end_level" (spRdEnd (cl 22) (cl 21)) []) : FnOk P w K mg base CX0 4 f fd ["self", "at"] (spRdClo (cl 22) (cl 21)) := by
  refine F.ok sc_Reader_read_closing (fun vs H Q E h => ?_) (fun cdv A outer s H vs Q E hr h => ?_)
  · obtain ⟨_, _, _, _, _, _, _, _, _, rfl, _⟩ := h
    rfl
  · obtain ⟨x, i, H0, fs, N, l, p, r, r2, rfl, h, hN, hw, hop, hcl, q⟩ := h
    refine ⟨_, (pss_cons (ps_expr (C8.pe_mt M_Reader_end_abstractions hr (by first | decide | omega) (pv 0) (pa_cons (pv 1) pa_nil))) (pss_cons (ps_if (pt_cmpR op_ne (pe_fld (pe_ix ix_list (pe_fld (pv 0) rfl) (pe_un un_neg pe_int) (fun _ _ => rfl)) rfl) pe_str (nomark _)) (pss_one ps_dead) pss_nil) (pss_one (ps_expr (C8.pe_mt0 M_Reader_end_level hr (by first | decide | omega) (pv 0)))))), ?_⟩
    refine sl_of (σ2 := [some _, some _]) rfl ?_
    obtain ⟨dx, dn, db, ll, ax, adx, nl, dl, d, ys, hx, hll, hax, -, -, hys⟩ := h.top
    walk_at "st"
    walk_at "go"
    refine ⟨x, dx, _, rfl, hx, rfl, ?_⟩
    walk_at "go"
    refine ⟨x, i, H0, fs, N, l, r, rfl, h, hN, hw, fun H1 h1 => ?_⟩
    clear hx hll hax
    have hpt := close_pt r l (whole_pt hw)
    rw [hcl] at h1
    generalize (closeAbs l r).1 = l' at *
    obtain ⟨dx, dn, db, ll, ax, adx, nl, dl, d, ys, hx, hll, hax, -, -, hys⟩ := h1.top
    walk_at "go"
    refine ⟨x, cl 22, dx, _, _, rfl, hx, T.cls_Reader, T.nf_Reader_levels, rdF_fs.2.2.2, ?_⟩
    walk_at "go"
    refine ⟨ax, cl 21, adx, _, _, rfl, hax, T.cls_Level, T.nf_Level_opener, (by rfl : List.lookup ("opener" : Str) (lvFs l' nl dl) = some (.str l'.op)), ?_⟩
    rw [hop]
    walk_at "go"
    refine ⟨x, dx, _, rfl, hx, rfl, ?_⟩
    walk_at "go"
    refine ⟨x, H0, fs, N, l', p, r2, rfl, h1, hN, hpt, fun H2 h2 => ?_⟩
    walk_at "go"
    exact q H2 h2
def spRdFin (CR CL : Addr) : Sp := fun vs H Q _ => ∃ (x : Addr) (i : Int) (H0 : Hp) (fs : List Str) (N : Nat) (l : Lv) (r : List Lv) (xs : List V), vs = [.ref x, .int i] ∧ RdAt CR CL H0 H x fs N l r ∧ N ≤ 100000 ∧ finT l r = some xs ∧ ∀ H' p, Ex H0 H' → H' p = some (.lst xs) → Q (.ref p) H'
theorem ok_rdfin {f : Addr} {fd : FuncData} (F : Fun K "finish" "Reader.finish" s_Reader_finish f fd) (T : Txt w K mg tk cl)
    (M_Reader_end_abstractions : C8.Met P w K mg base 3 (cl 22) "end_abstractions" (spRdAbs (cl 22) (cl 21)) []) (M_Level_all_nodes : C8.Met P w K mg base 1 (cl 21) "all_nodes" (spLvAll (cl 21)) []) : FnOk P w K mg base CX0 4 f fd ["self", "at"] (spRdFin (cl 22) (cl 21)) := by
  refine F.ok sc_Reader_finish (fun vs H Q E h => ?_) (fun cdv A outer s H vs Q E hr h => ?_)
  · obtain ⟨_, _, _, _, _, _, _, _, rfl, _⟩ := h
    rfl
  · obtain ⟨x, i, H0, fs, N, l, r, xs, rfl, h, hN, hf, q⟩ := h
    refine ⟨_, (pss_cons (ps_expr (C8.pe_mt M_Reader_end_abstractions hr (by first | decide | omega) (pv 0) (pa_cons (pv 1) pa_nil))) (pss_cons (ps_if (pt_cmpR op_gt (pe_callB call_len_seq (by rfl) T.n_len (by decide +kernel) (pa_cons (pe_fld (pv 0) rfl) pa_nil)) pe_int (nomark _)) (pss_one ps_dead) pss_nil) (pss_one (ps_ret (C8.pe_mt0 M_Level_all_nodes hr (by first | decide | omega) (pe_ix ix_list (pe_fld (pv 0) rfl) pe_int (fun _ _ => rfl))))))), ?_⟩
    refine sl_of (σ2 := [some _, some _]) rfl ?_
    obtain ⟨dx, dn, db, ll, ax, adx, nl, dl, d, ys, hx, hll, hax, -, -, hys⟩ := h.top
    obtain ⟨hw, hc2, rfl⟩ : l.whole = true ∧ (closeAbs l r).2 = [] ∧ xs = (closeAbs l r).1.all := by
      unfold finT at hf
      split at hf
      · cases hf
      · rename_i hw
        split at hf
        · rename_i e
          exact ⟨by simpa using hw, e, (Option.some.inj hf).symm⟩
        · cases hf
    walk_at "st"
    walk_at "go"
    refine ⟨x, dx, _, rfl, hx, rfl, ?_⟩
    walk_at "go"
    refine ⟨x, i, H0, fs, N, l, r, rfl, h, hN, hw, fun H1 h1 => ?_⟩
    clear hx hll hax
    rw [hc2] at h1
    generalize (closeAbs l r).1 = l' at *
    have hz := h1.size
    obtain ⟨dx, dn, db, ll, ax, adx, nl, dl, d, ys, hx, hll, hax, hnl, hdl, hys⟩ := h1.top
    obtain rfl : ys = [] := List.length_eq_zero_iff.mp hys
    walk_at "go"
    refine ⟨x, cl 22, dx, _, _, rfl, hx, T.cls_Reader, T.nf_Reader_levels, rdF_fs.2.2.2, ?_⟩
    walk_at "go"
    refine iteF ?_
    walk_at "go"
    refine ⟨x, cl 22, dx, _, _, rfl, hx, T.cls_Reader, T.nf_Reader_levels, rdF_fs.2.2.2, ?_⟩
    walk_at "go"
    refine ⟨ax, adx, _, rfl, hax, rfl, ?_⟩
    walk_at "go"
    refine ⟨ax, adx, nl, dl, l', rfl, hax, hnl, hdl, ?_, fun H2 p e2 _ h2 => ?_⟩
    · have : sizes [l'] = l'.size := rfl
      omega
    walk_at "go"
    exact q H2 p (h1.ex.trans e2) h2
end
end Ly
set_option Elab.async false
set_option linter.all false
set_option maxRecDepth 100000
set_option maxHeartbeats 8000000
namespace Ly
open PySem PySem.Spec PyProof.Rows L2 Evl
local macro_rules | `(tactic| walk_at "ne") => `(tactic| first
  | assumption
  | ((refine' Ne.symm ?hq); (case hq => assumption))
  | ((refine' ne_of_none ?nh1 ?nh2); (case nh2 => assumption); (case nh1 => walk_at "hp"))
  | ((refine' Ne.symm (ne_of_none ?nh1 ?nh2)); (case nh2 => assumption); (case nh1 => walk_at "hp")))
local macro_rules | `(tactic| walk_at "hp") => `(tactic| first
  | assumption
  | exact upd_same
  | ((refine' SqL.of ?hq); (case hq => walk_at "hp"))
  | ((refine' SqT.of ?hq); (case hq => walk_at "hp"))
  | ((refine' (upd_ne ?hne).trans ?hrest); (case hne => walk_at "ne"); (case hrest => walk_at "hp"))
  | ((refine' ly_at ?hex ?hh); (case hex => assumption); (case hh => walk_at "hp"))
  | ((refine' ly_atF ?hex ?hnn ?hh); (case hex => assumption); (case hh => walk_at "hp"); (case hnn => walk_at "ne"))
  | ((refine' ex_t ?hex ?hh); (case hh => assumption); (case hex => walk_at "ex"))
  | ((refine' ex_l ?hex ?hh); (case hh => assumption); (case hex => walk_at "ex")))
local macro_rules | `(tactic| walk_at "ex") => `(tactic| first
  | assumption
  | exact Ex.refl _
  | ((refine' ex_new ?xa ?xb); (case xb => assumption); (case xa => walk_at "ex"))
  | ((refine' ex_upd ?xa ?xb); (case xb => walk_at "free"); (case xa => walk_at "ex"))
  | ((refine' Ex.trans ?xa ?xb); (case xb => assumption); (case xa => walk_at "ex")))
local macro_rules | `(tactic| walk_at "free") => `(tactic| first
  | assumption
  | ((refine' fresh_back ?xa ?xb); (case xb => assumption); (case xa => walk_at "ex")))
local macro_rules | `(tactic| walk_at "fr") => `(tactic| first
  | assumption
  | exact Fr.refl _ _
  | ((refine' Fr.own ?hq); (case hq => walk_at "fr"))
  | ((refine' Fr.new ?xa ?xb); (case xb => assumption); (case xa => walk_at "fr"))
  | ((refine' Fr.mut ?xa ?xb); (case xb => assumption); (case xa => walk_at "fr"))
  | ((refine' Fr.trans ?xa ?xb); (case xb => assumption); (case xa => walk_at "fr"))
  | ((refine' Fr.trans ?xa (Fr.ex ?xb)); (case xb => assumption); (case xa => walk_at "fr")))
local macro_rules | `(tactic| walk_at "go1") => `(tactic| first
  | (with_reducible refine' w_seq ?_)
  | (with_reducible refine' w_asg ?_)
  | (with_reducible refine' w_ret ?_)
  | (with_reducible refine' w_drop ?_)
  | (with_reducible refine' w_if ?_)
  | (with_reducible refine' w_next ?_)
  | (with_reducible refine' w_name ?_)
  | (with_reducible refine' w_sub ?_)
  | ((with_reducible refine' w_var ?hv ?_); (case hv => exact rfl))
  | (with_reducible refine' w_c ?_)
  | (with_reducible refine' w_op ?_)
  | (with_reducible refine' w_un ?_)
  | (with_reducible refine' w_ch ?_)
  | (with_reducible refine' w_I0 ?_)
  | ((with_reducible refine' w_I ?hc ?_); (case hc => first | (exact ly_mulL (by decide) (by decide)) | (exact ly_mulR (by decide) (by decide)) | (exact ly_mulL (by omega) (by omega)) | (show (_ : Int) ≠ 0; decide) | (show (_ : Int) ≠ 0; omega) | (exact ⟨by decide, by decide⟩) | (exact ⟨by omega, by omega⟩)))
  | (with_reducible refine' w_U ?_)
  | ((with_reducible refine' w_eq ?hs ?_); (case hs => exact rfl))
  | ((with_reducible refine' w_ne ?hs ?_); (case hs => exact rfl))
  | (with_reducible refine' w_isB ?_)
  | (with_reducible refine' w_notB ?_)
  | (with_reducible refine' w_nil ?_)
  | (with_reducible refine' w_cons ?_)
  | (with_reducible refine' w_tup ?_)
  | (with_reducible refine' w_lst ?_)
  | (with_reducible refine' w_cb ?_)
  | (with_reducible refine' w_call ?_)
  | (with_reducible refine' w_bm ?_)
  | (with_reducible refine' w_bm0 ?_)
  | ((with_reducible refine' w_app ?hh ?hz ?_); (case hh => walk_at "hp"); (case hz => first | exact ly_lt (by omega) | exact ly_lt (by simp only [List.length_append, List.length_map, List.length_cons, List.length_nil]; omega)))
  | ((with_reducible refine' w_popA ?hh ?_); (case hh => walk_at "hp"))
  | ((with_reducible refine' w_ext ?hh ?hh2 ?hz ?_); (case hh => walk_at "hp"); (case hh2 => walk_at "hp"))
  | ((with_reducible refine' w_ixL ?hh ?ha ?_); (case hh => walk_at "hp"); (case ha => first | exact rfl | exact at_map (by omega) | exact atI_last _ _ | ((refine' at_of ?ae ?ah); (case ah => assumption); (case ae => omega))))
  | ((with_reducible refine' w_ixT ?hh ?ha ?_); (case hh => walk_at "hp"); (case ha => first | exact rfl | exact at_map (by omega) | exact atI_last _ _ | ((refine' at_of ?ae ?ah); (case ah => assumption); (case ae => omega))))
  | ((with_reducible refine' w_cat ?hh ?hh2 ?hz ?_); (case hh => walk_at "hp"); (case hh2 => walk_at "hp"))
  | ((with_reducible refine' w_setL ?hh ?ha ?_); (case hh => walk_at "hp"); (case ha => exact rfl))
  | (with_reducible refine' w_test ?_)
  | (with_reducible refine' w_tB ?_)
  | (with_reducible refine' w_bl ?_)
  | (with_reducible refine' w_and ?_)
  | (with_reducible refine' w_or ?_)
  | (with_reducible refine' w_not ?_)
  | (with_reducible refine' w_andV ?_)
  | (with_reducible refine' w_orV ?_)
  | (with_reducible refine' w_notV ?_)
  | (with_reducible refine' w_ifE ?_)
  | (with_reducible refine' w_for ?_)
  | ((with_reducible refine' w_nin ?hh ?_); (case hh => walk_at "hp"))
  | ((with_reducible refine' w_sorted ?hh ?_); (case hh => walk_at "hp"))
  | (with_reducible refine' w_tsadd ?_)
  | ((with_reducible refine' w_tsadd1 ?hh ?_); (case hh => walk_at "hp"))
  | ((with_reducible refine' w_sadd ?hh ?hr ?_); (case hh => walk_at "hp"); (case hr => omega))
  | (with_reducible refine' w_iZ ?_)
  | ((with_reducible refine' w_iZ1 ?hh ?hh2 ?_); (case hh => walk_at "hp"); (case hh2 => walk_at "hp"))
  | (with_reducible refine' w_iS ?_)
  | (with_reducible refine' w_iS1 ?_)
  | ((with_reducible refine' w_gtup ?hh ?hn ?_); (case hh => walk_at "hp"); (case hn => exact rfl))
  | (with_reducible refine' w_gcons ?_)
  | (with_reducible refine' w_gnil ?_)
  | (with_reducible refine' w_js ?_)
  | (with_reducible refine' w_jsn ?_)
  | ((with_reducible refine' w_js1 ?hl ?_); (case hl => decide +kernel))
  | (with_reducible refine' w_fmt ?_)
  | ((with_reducible refine' w_fmt1 ?hl ?_); (case hl => decide +kernel))
  | (with_reducible refine' w_callS ?_)
  | ((with_reducible refine' w_truL ?hh ?_); (case hh => walk_at "hp"))
  | (with_reducible refine' w_lc ?_)
  | (with_reducible refine' w_yes ?_)
  | ((with_reducible refine' w_wipe ?he ?_); (case he => exact rfl))
  | (with_reducible refine' w_iL ?_)
  | (with_reducible refine' w_iT ?_)
  | (with_reducible refine' w_iR ?_)
  | ((with_reducible refine' w_iL1 ?hh ?_); (case hh => walk_at "hp"))
  | ((with_reducible refine' w_iT1 ?hh ?_); (case hh => walk_at "hp"))
  | ((with_reducible refine' w_iR1 ?h1 ?h2 ?_); (case h1 => omega); (case h2 => omega))
  | ((with_reducible refine' w_aug ?hv ?_); (case hv => exact rfl))
  | (with_reducible refine' w_ipI ?_)
  | ((with_reducible refine' w_isi ?hy ?hk ?_); (case hy => walk_at "ty"); (case hk => walk_at "kit"))
  | ((with_reducible refine' w_int ?_))
  | ((with_reducible refine' w_intB ?_))
  | ((with_reducible refine' w_abs ?_))
  | ((with_reducible refine' w_lenL ?hh ?_); (case hh => walk_at "hp"))
  | ((with_reducible refine' w_lenT ?hh ?_); (case hh => walk_at "hp"))
  | ((with_reducible refine' w_tupL ?hh ?_); (case hh => walk_at "hp"))
  | ((with_reducible refine' w_tupT ?hh ?_); (case hh => walk_at "hp"))
  | ((with_reducible refine' w_catA ?hh ?hh2 ?hz ?_); (case hh => walk_at "hp"); (case hh2 => walk_at "hp"); (case hz => walk_at "len"))
  | ((with_reducible refine' w_repB ?hh ?hne ?h2 ?h3 ?hz ?_); (case hh => walk_at "hp"); (case hne => simp); (case h2 => omega); (case h3 => omega); (case hz => exact Nat.le_of_ble_eq_true rfl))
  | ((with_reducible refine' w_eqN ?hh ?hh2 ?n1 ?n2 ?_); (case hh => walk_at "hp"); (case hh2 => walk_at "hp"); (case n1 => walk_at "nd"); (case n2 => walk_at "nd"))
  | ((with_reducible refine' w_neN ?hh ?hh2 ?n1 ?n2 ?_); (case hh => walk_at "hp"); (case hh2 => walk_at "hp"); (case n1 => walk_at "nd"); (case n2 => walk_at "nd"))
  | ((with_reducible refine' w_eqL ?hh ?hh2 ?n1 ?n2 ?_); (case hh => walk_at "hp"); (case hh2 => walk_at "hp"); (case n1 => walk_at "nd"); (case n2 => walk_at "nd"))
  | ((with_reducible refine' w_neL ?hh ?hh2 ?n1 ?n2 ?_); (case hh => walk_at "hp"); (case hh2 => walk_at "hp"); (case n1 => walk_at "nd"); (case n2 => walk_at "nd"))
  | ((with_reducible refine' w_neNon ?hh2 ?n2 ?_); (case hh2 => walk_at "hp"); (case n2 => walk_at "nd"))
  | ((with_reducible refine' w_eqNon ?hh2 ?n2 ?_); (case hh2 => walk_at "hp"); (case n2 => walk_at "nd"))
  | ((with_reducible refine' w_slA ?hh ?_); (case hh => walk_at "hp"))
  | ((with_reducible refine' w_disp ?hz ?_); (case hz => exact sz_of (Nat.le_of_ble_eq_true rfl)))
  | ((with_reducible refine' w_tyL ?hh ?_); (case hh => walk_at "hp"))
  | (with_reducible refine' iteT ?_)
  | (with_reducible refine' iteF ?_)
  | (with_reducible refine' w_nT ?_)
  | (with_reducible refine' w_nn ?_)
  | (with_reducible refine' w_nnT ?_)
  | (with_reducible refine' w_nnR ?_)
  | (with_reducible refine' w_neG ?_)
  | (with_reducible refine' w_eqG ?_)
  | (with_reducible refine' w_neS ?_)
  | (with_reducible refine' w_eqS ?_)
  | (with_reducible refine' w_neSb ?_)
  | (with_reducible refine' w_eqSb ?_)
  | (with_reducible refine' w_deIS ?_)
  | (with_reducible refine' w_deSI ?_)
  | (with_reducible refine' w_deISn ?_)
  | ((with_reducible refine' w_deST ?he ?_); (case he => decide +kernel))
  | ((with_reducible refine' w_deSF ?he ?_); (case he => decide +kernel))
  | ((with_reducible refine' w_deSTn ?he ?_); (case he => decide +kernel))
  | ((with_reducible refine' w_deSFn ?he ?_); (case he => decide +kernel))
  | (with_reducible refine' w_nF ?_)
  | dsimp only [Bool.not_true, Bool.not_false])
local macro_rules | `(tactic| walk_at "ty") => `(tactic| first
  | exact .base (.int _) | exact .base (.str _) | exact .base (.bl _) | exact .base .non
  | ((refine' tyx_t ?hq); (case hq => walk_at "hp")) | ((refine' tyx_l ?hq); (case hq => walk_at "hp")) | ((refine' .base (.tup ?hq)); (case hq => walk_at "hp")) | assumption)
local macro_rules | `(tactic| walk_at "go") => `(tactic| repeat walk_at "go1")
local macro_rules | `(tactic| walk_at "st") => `(tactic| try dsimp only [cxOf, Cx.nox, Cx.wish])
local macro_rules | `(tactic| walk_at "kit") => `(tactic| with_reducible first | exact kit_int_int | exact kit_int_str | exact kit_int_bool | exact kit_int_tuple | exact kit_int_list | exact kit_str_int | exact kit_str_str | exact kit_str_bool | exact kit_str_tuple | exact kit_str_list | exact kit_bool_int | exact kit_bool_str | exact kit_bool_bool | exact kit_bool_tuple | exact kit_bool_list | exact kit_NoneType_int | exact kit_NoneType_str | exact kit_NoneType_bool | exact kit_NoneType_tuple | exact kit_NoneType_list | exact kit_list_int | exact kit_list_str | exact kit_list_bool | exact kit_list_tuple | exact kit_list_list | exact kit_tuple_int | exact kit_tuple_str | exact kit_tuple_bool | exact kit_tuple_tuple | exact kit_tuple_list)
local macro_rules | `(tactic| walk_at "nd") => `(tactic| first
  | assumption
  | exact Tm.nds _
  | exact Nds.nil
  | exact Nds.ofInts _
  | ((refine' Nds.cons ?na ?nb); (case na => first | exact Nds.I _ | exact Nds.L | exact Nds.A); (case nb => walk_at "nd"))
  | ((refine' Nds.app ?na ?nb); (case na => walk_at "nd"); (case nb => walk_at "nd"))
  | ((refine' Nds.rep ?na _); (case na => walk_at "nd")))
local macro_rules | `(tactic| walk_at "len") => `(tactic| first
  | exact ly_sz (by omega)
  | ((simp only [List.length_append, List.length_cons, List.length_nil, List.length_map, PyProof.Rows.lm_len_rep_flat]); exact ly_sz (by omega)))
local macro_rules | `(tactic| walk_at "go1") => `(tactic| first
  | (with_reducible refine' w_kget2 ?_)
  | (with_reducible refine' w_isRN ?_)
  | (with_reducible refine' w_isNN ?_)
  | (with_reducible refine' w_isIN ?_)
  | ((with_reducible refine' w_kg ?hd ?_); (case hd => assumption)))
local macro_rules | `(tactic| walk_at "go1") => `(tactic| first
  | ((with_reducible refine' w_extT ?hh ?hh2 ?hz ?_); (case hh => walk_at "hp"); (case hh2 => walk_at "hp"))
  | ((with_reducible refine' w_I ?hc ?_); (case hc => exact ⟨by decide, by decide, by decide⟩))
  | (with_reducible refine' w_sl ?_)
  | (with_reducible refine' w_noP ?_)
  | (with_reducible refine' w_part ?_)
  | (with_reducible refine' w_part1 ?_)
  | (with_reducible refine' w_it ?_)
  | (with_reducible refine' w_it1 ?_)
  | ((with_reducible refine' w_lenZ ?hz ?_); (case hz => omega))
  | ((with_reducible refine' w_addZb ?hz ?_); (case hz => omega))
  | ((with_reducible refine' w_addZf ?hz ?_); (case hz => omega))
  | ((with_reducible refine' w_addZa ?hz ?_); (case hz => omega))
  | ((with_reducible refine' w_inS ?hh ?_); (case hh => walk_at "hp"))
  | ((with_reducible refine' w_ixT ?hh ?ha ?_); (case hh => assumption); (case ha => exact atI_nat (by assumption))))
local macro_rules | `(tactic| walk_at "go1") => `(tactic| first
  | (with_reducible refine' w_iR2 ?_)
  | ((with_reducible refine' w_iR21 ?h1 ?h2 ?h3 ?h4 ?_); (case h1 => omega); (case h2 => omega); (case h3 => omega); (case h4 => omega))
  | (with_reducible refine' w_nnI ?_)
  | (with_reducible refine' w_max ?_)
  | (with_reducible refine' w_break ?_)
  | (with_reducible refine' w_cont ?_))
local macro_rules | `(tactic| walk_at "go1") => `(tactic| first
  | (with_reducible refine' w_tdget ?_)
  | (with_reducible refine' w_tdin ?_)
  | (with_reducible refine' w_tdnotin ?_)
  | (with_reducible refine' w_sdput ?_)
  | (with_reducible refine' w_tdsetd ?_)
  | (with_reducible refine' w_dnew ?_))
local macro_rules | `(tactic| walk_at "go1") => `(tactic| first
  | (with_reducible refine' w_iZL ?_)
  | (with_reducible refine' w_sfld ?_)
  | (with_reducible refine' w_tfld ?_)
  | (with_reducible refine' w_make ?_)
  | fail)
local macro_rules | `(tactic| walk_at "go1") => `(tactic| first
  | (with_reducible refine' w_sfa ?_)
  | (with_reducible refine' w_tmP ?_)
  | (with_reducible refine' w_tdget2 ?_))
section
variable {P : Program} {w : World} {K : PySem.W.Frag} {mg : Str → Option Value} {base : Heap} {tk : Nat → Tok} {cl : Nat → Addr}
/-! ### a name is read; a token is read -/
def spRdName (CR CL : Addr) : Sp := fun vs H Q _ => ∃ (x : Addr) (n : Str) (i : Int) (H0 : Hp) (fs : List Str) (N : Nat) (l l' : Lv) (r : List Lv), vs = [.ref x, .str n, .int i] ∧ RdAt CR CL H0 H x fs N l r ∧ N ≤ 100000 ∧
  ((l.nm = true ∧ l' = { l with ns := l.ns ++ [n] }) ∨ (l.nm = false ∧ ∃ k : Nat, numOf fs (scp (l :: r)) n = some k ∧ l' = l.add [V.int (k : Int)])) ∧ ∀ H', RdAt CR CL H0 H' x fs (N + 1) l' r → Q .non H'
theorem pos0_new (sc : List Str) (n m : Str) : pos0 (sc ++ [n]) m = pos0 sc m ++ (if n = m then [V.int (sc.length : Int)] else []) := by
  unfold pos0
  rw [posL_app]
  show List.map _ (_ ++ _) = _
  rw [List.map_append]
  congr 1
  rw [Nat.zero_add]
  unfold posL
  split
  · rfl
  · rfl
theorem ok_rdname {f : Addr} {fd : FuncData} (F : Fun K "read_name" "Reader.read_name" s_Reader_read_name f fd) (T : Txt w K mg tk cl)
    (M_Reader_variable : C8.Met P w K mg base 1 (cl 22) "variable" (spRdVar (cl 22) (cl 21)) []) (M_Level_add_part : C8.Met P w K mg base 1 (cl 21) "add_part" (spLvAdd (cl 21)) []) : FnOk P w K mg base CX0 2 f fd ["self", "name", "at"] (spRdName (cl 22) (cl 21)) := by
  refine F.ok sc_Reader_read_name (fun vs H Q E h => ?_) (fun cdv A outer s H vs Q E hr h => ?_)
  · obtain ⟨_, _, _, _, _, _, _, _, _, rfl, _⟩ := h
    rfl
  · obtain ⟨x, n, i, H0, fs, N, l, l', r, rfl, h0, hN, hc, q⟩ := h
    refine ⟨_, (pss_cons (ps_set (i := 3) sc_Reader_read_name.nd rfl (.inl rfl) (pe_ix ix_list (pe_fld (pv 0) rfl) (pe_un un_neg pe_int) (fun _ _ => rfl))) (pss_one (ps_if (pt_val (pe_fld (pv 3) rfl)) (pss_cons (ps_expr (pe_bm PySem.F.plainAttrs_list PySem.F.slot_list_append PySem.F.type_list_append mt_append (pe_fld (pv 3) rfl) (pa_cons (pv 1) pa_nil))) (pss_cons (ps_expr (pe_bm PySem.F.plainAttrs_list PySem.F.slot_list_append PySem.F.type_list_append mt_append (pe_dsetd (pe_fld (pv 0) rfl) (pv 1) (pe_lst pa_nil) ⟨by rfl, by rfl, by rfl, by rfl⟩) (pa_cons (pe_fld (pv 0) rfl) pa_nil))) (pss_one (ps_fldaug (pv 0) pe_int in_add)))) (pss_one (ps_expr (C8.pe_mt M_Level_add_part hr (by first | decide | omega) (pv 3) (pa_cons (pe_lst (pa_cons (C8.pe_mt M_Reader_variable hr (by first | decide | omega) (pv 0) (pa_cons (pv 1) (pa_cons (pv 2) pa_nil))) pa_nil)) pa_nil))))))), ?_⟩
    refine sl_of (σ2 := [some _, some _, some _, none]) rfl ?_
    have hsz := h0.size
    obtain ⟨dx, dn, db, ll, kn, kb, BA, a, as, h⟩ := id h0
    have hx : H x = some (.ins (cl 22) dx (rdFs dn db ll (scp (l :: r)).length)) := h.own.at (by simp)
    have hll : H ll = some (.lst (lls as ++ [V.ref a.1])) := h.own.at (by simp [lls_cons])
    have hax : H a.1 = some (.ins (cl 21) a.2.1 (lvFs l a.2.2.1 a.2.2.2)) := h.own.at (by simp [lvFp])
    have hnl : H a.2.2.1 = some (.lst (txts l.ns)) := h.own.at (by simp [lvFp])
    have hlz : l.size ≤ 200000 := by
      have : sizes (l :: r) = l.size + sizes r := rfl
      omega
    walk_at "st"
    walk_at "go"
    refine ⟨x, cl 22, dx, _, _, rfl, hx, T.cls_Reader, T.nf_Reader_levels, rdF_fs.2.2.2, ?_⟩
    walk_at "go"
    refine ⟨a.1, cl 21, a.2.1, _, _, rfl, hax, T.cls_Level, T.nf_Level_naming, (by rfl : List.lookup ("naming" : Str) (lvFs l a.2.2.1 a.2.2.2) = some (.bl l.nm)), ?_⟩
    rcases hc with ⟨hnm, rfl⟩ | ⟨hnm, k, hk, rfl⟩
    · rw [hnm]
      walk_at "go"
      refine ⟨a.1, cl 21, a.2.1, _, _, rfl, hax, T.cls_Level, T.nf_Level_names, (by rfl : List.lookup ("names" : Str) (lvFs l a.2.2.1 a.2.2.2) = some (.ref a.2.2.1)), ?_⟩
      refine w_tyL (SqL.of hnl) ?_
      walk_at "go"
      have hnz : l.ns.length ≤ l.size := by
        unfold Lv.size
        omega
      refine w_app hnl (ly_lt (by rw [List.length_map]; omega)) ?_
      have ow1 := Own.set 5 (u := .lst (txts l.ns ++ [V.str n])) h.own (by rfl)
      generalize upd H a.2.2.1 (.lst (txts l.ns ++ [V.str n])) = H1 at *
      have ow1 : Own H0 H1 (headFp (cl 22) x dx dn db ll kn kb (scp (l :: r)).length (lls (a :: as)) ++ (lvFp (cl 21) a { l with ns := l.ns ++ [n] } ++ (lvsFp (cl 21) as r ++ bdFp (pos0 (scp (l :: r))) BA))) := by
        have e : txts (l.ns ++ [n]) = txts l.ns ++ [V.str n] := by simp
        unfold lvFp
        rw [e]
        exact ow1
      have hx1 : H1 x = some (.ins (cl 22) dx (rdFs dn db ll (scp (l :: r)).length)) := ow1.at (by simp)
      have hdb1 : H1 db = some (.dK kb) := ow1.at (by simp)
      walk_at "go"
      refine ⟨x, cl 22, dx, _, _, rfl, hx1, T.cls_Reader, T.nf_Reader_bound, rdF_fs.2.1, ?_⟩
      refine ⟨db, rfl, isD hdb1, ?_⟩
      walk_at "go"
      intro p hp
      have ex2 : Ex H1 (upd H1 p (.lst [])) := Ex.new hp
      have ow2 := ow1.new (u := .lst []) hp
      generalize upd H1 p (.lst []) = H2 at *
      have hx2 := ex2 _ _ hx1
      have hdb2 := ex2 _ _ hdb1
      have esc : scp ({ l with ns := l.ns ++ [n] } :: r) = scp (l :: r) ++ [n] := by
        show scp r ++ (l.ns ++ [n]) = _
        rw [← List.append_assoc]
        rfl
      have elen : (scp (l :: r) ++ [n]).length = (scp (l :: r)).length + 1 := by simp
      have hsz2 : sizes ({ l with ns := l.ns ++ [n] } :: r) ≤ 2 * (N + 1) := by
        have h2 : sizes (l :: r) = l.size + sizes r := rfl
        have h3 : sizes ({ l with ns := l.ns ++ [n] } :: r) = (({ l with ns := l.ns ++ [n] } : Lv).size) + sizes r := rfl
        have h4 : ({ l with ns := l.ns ++ [n] } : Lv).size = l.size + 1 := by
          unfold Lv.size
          simp
          omega
        omega
      have fin : ∀ (kb' : List (L2.Key × V)) (BA' : List (Str × Addr)) (H4 : Hp), Own H0 H4 (headFp (cl 22) x dx dn db ll kn kb' (scp (l :: r)).length (lls (a :: as)) ++ (lvFp (cl 21) a { l with ns := l.ns ++ [n] } ++ (lvsFp (cl 21) as r ++ bdFp (pos0 (scp (l :: r) ++ [n])) BA'))) → Bnd BA' kb' (scp (l :: r) ++ [n]) (N + 1) →
          H4 x = some (.ins (cl 22) dx (rdFs dn db ll (scp (l :: r)).length)) ∧ Q V.non (upd H4 x (.ins (cl 22) dx (putF "depth" (.int (((scp (l :: r)).length : Int) + 1)) (rdFs dn db ll (scp (l :: r)).length)))) := fun kb' BA' H4 ow4 bd4 => by
        refine ⟨ow4.at (by simp), q _ ⟨dx, dn, db, ll, kn, kb', BA', a, as, ?_, h.len, h.num, ?_, hsz2, bot_nm h.bot rfl⟩⟩
        · have := Own.set 0 (u := .ins (cl 22) dx (putF "depth" (.int (((scp (l :: r)).length : Int) + 1)) (rdFs dn db ll (scp (l :: r)).length))) ow4 (by rfl)
          rw [esc, elen]
          exact this
        · rw [esc]
          exact bd4
      have bnd1 := h.bd
      refine ⟨kb, .inr n, hdb2, rfl, ly_lt (by have := bnd1.len; omega), fun v hv => ?_, fun hv => ?_⟩
      · rw [bnd1.val n] at hv
        cases hb : BA.lookup n with
        | none => rw [hb] at hv; cases hv
        | some b =>
          rw [hb] at hv
          cases hv
          obtain ⟨B1, B2, rfl⟩ := lookup_split hb
          have ow3 := ow2.sub (List.sublist_cons_self _ _)
          rw [bdFp_split] at ow3
          have ow3 : Own H0 H2 ((headFp (cl 22) x dx dn db ll kn kb (scp (l :: r)).length (lls (a :: as)) ++ (lvFp (cl 21) a { l with ns := l.ns ++ [n] } ++ (lvsFp (cl 21) as r ++ bdFp (pos0 (scp (l :: r))) B1))) ++ (b, .lst (pos0 (scp (l :: r)) n)) :: bdFp (pos0 (scp (l :: r))) B2) := by
            simpa only [List.append_assoc] using ow3
          have hb3 := ow3.at (a := b) (o := .lst (pos0 (scp (l :: r)) n)) (by simp)
          refine w_tyL (SqL.of hb3) ?_
          walk_at "go"
          refine ⟨x, cl 22, dx, _, _, rfl, hx2, T.cls_Reader, T.nf_Reader_depth, rdF_fs.2.2.1, ?_⟩
          have hpl : (pos0 (scp (l :: r)) n).length ≤ 200000 := by
            rw [List.length_map, posL_len]
            refine Nat.le_trans List.count_le_length ?_
            have := scp_len (l :: r)
            omega
          walk_at "go"
          have ow4 := ow3.mid (u := .lst (pos0 (scp (l :: r)) n ++ [V.int ((scp (l :: r)).length : Int)]))
          generalize upd H2 b (.lst (pos0 (scp (l :: r)) n ++ [V.int ((scp (l :: r)).length : Int)])) = H4 at *
          obtain ⟨hx4, fin4⟩ := fin kb (B1 ++ (n, b) :: B2) H4 (by
            rw [bdFp_upd (g := pos0 (scp (l :: r))) bnd1.nd (fun m hm => by rw [pos0_new, if_neg (Ne.symm hm), List.append_nil]), pos0_new, if_pos rfl]
            simpa only [List.append_assoc] using ow4) ⟨bnd1.nd, bnd1.val, fun m hm => by
              rcases List.mem_append.mp hm with hm | hm
              · exact bnd1.cov m hm
              · rw [List.mem_singleton.mp hm, hb]
                rfl, Nat.le_succ_of_le bnd1.len⟩
          refine ⟨x, cl 22, dx, _, _, rfl, hx4, T.cls_Reader, T.nf_Reader_depth, rdF_fs.2.2.1, ?_⟩
          walk_at "go"
          refine ⟨_, _, rfl, rfl, ?_⟩
          refine ⟨dx, _, hx4, by show 4 < 1000; decide, ?_⟩
          walk_at "go"
          exact fin4
      · rw [bnd1.val n] at hv
        have hb : BA.lookup n = none := by
          cases hb : BA.lookup n with
          | none => rfl
          | some b => rw [hb] at hv; cases hv
        have hn0 : n ∉ scp (l :: r) := fun z => by
          have := bnd1.cov n z
          rw [hb] at this
          cases this
        have hnb : n ∉ BA.map (·.1) := fun z => by
          obtain ⟨c, hc, e⟩ := List.mem_map.mp z
          have : (BA.lookup n).isSome = true := by
            rw [List.lookup_isSome_iff]
            exact ⟨c, hc, by simp [e]⟩
          rw [hb] at this
          cases this
        have hne : p ≠ x := (ne_of_none hx1 hp).symm
        have ow3 : Own H0 (upd H2 db (.dK (putK kb (.inr n) (.ref p)))) ((p, .lst []) :: (headFp (cl 22) x dx dn db ll kn (putK kb (.inr n) (.ref p)) (scp (l :: r)).length (lls (a :: as)) ++ (lvFp (cl 21) a { l with ns := l.ns ++ [n] } ++ (lvsFp (cl 21) as r ++ bdFp (pos0 (scp (l :: r))) BA)))) := Own.set 3 ow2 (by rfl)
        generalize upd H2 db (.dK (putK kb (.inr n) (.ref p))) = H3 at *
        have hp3 := ow3.at (a := p) (o := .lst []) List.mem_cons_self
        have hx3 : H3 x = some (.ins (cl 22) dx (rdFs dn db ll (scp (l :: r)).length)) := ow3.at (by simp)
        refine w_tyL (SqL.of hp3) ?_
        walk_at "go"
        refine ⟨x, cl 22, dx, _, _, rfl, hx3, T.cls_Reader, T.nf_Reader_depth, rdF_fs.2.2.1, ?_⟩
        walk_at "go"
        have ow4 := ow3.put (u := .lst ([] ++ [V.int ((scp (l :: r)).length : Int)]))
        generalize upd H3 p (.lst ([] ++ [V.int ((scp (l :: r)).length : Int)])) = H4 at *
        obtain ⟨hx4, fin4⟩ := fin (putK kb (.inr n) (.ref p)) ((n, p) :: BA) H4 (by
          have e1 : bdFp (pos0 (scp (l :: r) ++ [n])) ((n, p) :: BA) = (p, .lst ([] ++ [V.int ((scp (l :: r)).length : Int)])) :: bdFp (pos0 (scp (l :: r))) BA := by
            show (p, HO.lst (pos0 (scp (l :: r) ++ [n]) n)) :: bdFp (pos0 (scp (l :: r) ++ [n])) BA = _
            rw [pos0_new, if_pos rfl, show pos0 (scp (l :: r)) n = [] by unfold pos0; rw [posL_nil hn0]; rfl]
            congr 1
            exact List.map_congr_left fun c hc => by
              have ne : ¬ n = c.1 := fun z => hnb (by rw [z]; exact List.mem_map.mpr ⟨c, hc, rfl⟩)
              rw [pos0_new, if_neg ne, List.append_nil]
          rw [e1]
          have := ow4.perm (List.perm_middle (l₁ := headFp (cl 22) x dx dn db ll kn (putK kb (.inr n) (.ref p)) (scp (l :: r)).length (lls (a :: as)) ++ (lvFp (cl 21) a { l with ns := l.ns ++ [n] } ++ lvsFp (cl 21) as r)) (l₂ := bdFp (pos0 (scp (l :: r))) BA)).symm
          simpa only [List.append_assoc] using this) ⟨List.nodup_cons.mpr ⟨hnb, bnd1.nd⟩, fun m => by
            rw [valV_put, List.lookup_cons]
            by_cases e : m = n
            · subst e
              simp
            · have e2 : ¬ ((.inr m : L2.Key) = .inr n) := fun z => e (Sum.inr.inj z)
              have e3 : (m == n) = false := beq_eq_false_iff_ne.mpr e
              rw [if_neg e2, e3]
              exact bnd1.val m, fun m hm => by
            rw [List.lookup_cons]
            by_cases e : m = n
            · subst e
              simp
            · have e3 : (m == n) = false := beq_eq_false_iff_ne.mpr e
              rw [e3]
              rcases List.mem_append.mp hm with hm | hm
              · exact bnd1.cov m hm
              · exact absurd (List.mem_singleton.mp hm) e, by
            have hv2 : valV kb (.inr n) = none := by rw [bnd1.val n, hb]; rfl
            rw [putK_new _ hv2, List.length_append, List.length_singleton]
            have := bnd1.len
            omega⟩
        refine ⟨x, cl 22, dx, _, _, rfl, hx4, T.cls_Reader, T.nf_Reader_depth, rdF_fs.2.2.1, ?_⟩
        walk_at "go"
        refine ⟨_, _, rfl, rfl, ?_⟩
        refine ⟨dx, _, hx4, by show 4 < 1000; decide, ?_⟩
        walk_at "go"
        exact fin4
    · rw [hnm]
      walk_at "go"
      refine ⟨a.1, a.2.1, _, rfl, hax, rfl, ?_⟩
      walk_at "go"
      refine ⟨x, dx, _, rfl, hx, rfl, ?_⟩
      walk_at "go"
      refine ⟨x, n, i, H0, fs, N, l, r, k, rfl, h0, hN, hk, fun H1 e1 => ?_⟩
      have ow1 := h.own.mono e1
      walk_at "go"
      intro p hp
      have ow2 := ow1.mono (Ex.new hp (o := .lst [V.int (k : Int)]))
      have hp2 : upd H1 p (.lst [V.int (k : Int)]) p = some (.lst [V.int (k : Int)]) := upd_same
      have hdl1 : H1 a.2.2.2 = some (.lst l.nd) := ow1.at (by simp [lvFp])
      have hpd : p ≠ a.2.2.2 := (ne_of_none hdl1 hp).symm
      generalize upd H1 p (.lst [V.int (k : Int)]) = H2 at *
      walk_at "go"
      refine ⟨a.1, a.2.1, a.2.2.1, a.2.2.2, p, l, [V.int (k : Int)], H0, _, rfl, ow2.perm (List.perm_append_comm_assoc _ _ _), hp2, hpd, ?_, fun H3 ow3 => ?_⟩
      · have : l.nd.length ≤ l.size := by unfold Lv.size; omega
        simp
        omega
      walk_at "go"
      refine q H3 ⟨dx, dn, db, ll, kn, kb, BA, a, as, ow3.perm (List.perm_append_comm_assoc _ _ _), h.len, h.num, ⟨h.bd.nd, h.bd.val, h.bd.cov, Nat.le_succ_of_le h.bd.len⟩, ?_, bot_nm h.bot rfl⟩
      have h1 := size_add l [V.int (k : Int)]
      have h2 : sizes (l :: r) = l.size + sizes r := rfl
      show (l.add [V.int (k : Int)]).size + sizes r ≤ 2 * (N + 1)
      rw [h1, List.length_singleton]
      omega
end
end Ly
set_option Elab.async false
set_option linter.all false
set_option maxRecDepth 100000
set_option maxHeartbeats 8000000
namespace Ly
open PySem PySem.Spec PyProof.Rows L2 Evl
local macro_rules | `(tactic| walk_at "ne") => `(tactic| first
  | assumption
  | ((refine' Ne.symm ?hq); (case hq => assumption))
  | ((refine' ne_of_none ?nh1 ?nh2); (case nh2 => assumption); (case nh1 => walk_at "hp"))
  | ((refine' Ne.symm (ne_of_none ?nh1 ?nh2)); (case nh2 => assumption); (case nh1 => walk_at "hp")))
local macro_rules | `(tactic| walk_at "hp") => `(tactic| first
  | assumption
  | exact upd_same
  | ((refine' SqL.of ?hq); (case hq => walk_at "hp"))
  | ((refine' SqT.of ?hq); (case hq => walk_at "hp"))
  | ((refine' (upd_ne ?hne).trans ?hrest); (case hne => walk_at "ne"); (case hrest => walk_at "hp"))
  | ((refine' ly_at ?hex ?hh); (case hex => assumption); (case hh => walk_at "hp"))
  | ((refine' ly_atF ?hex ?hnn ?hh); (case hex => assumption); (case hh => walk_at "hp"); (case hnn => walk_at "ne"))
  | ((refine' ex_t ?hex ?hh); (case hh => assumption); (case hex => walk_at "ex"))
  | ((refine' ex_l ?hex ?hh); (case hh => assumption); (case hex => walk_at "ex")))
local macro_rules | `(tactic| walk_at "ex") => `(tactic| first
  | assumption
  | exact Ex.refl _
  | ((refine' ex_new ?xa ?xb); (case xb => assumption); (case xa => walk_at "ex"))
  | ((refine' ex_upd ?xa ?xb); (case xb => walk_at "free"); (case xa => walk_at "ex"))
  | ((refine' Ex.trans ?xa ?xb); (case xb => assumption); (case xa => walk_at "ex")))
local macro_rules | `(tactic| walk_at "free") => `(tactic| first
  | assumption
  | ((refine' fresh_back ?xa ?xb); (case xb => assumption); (case xa => walk_at "ex")))
local macro_rules | `(tactic| walk_at "fr") => `(tactic| first
  | assumption
  | exact Fr.refl _ _
  | ((refine' Fr.own ?hq); (case hq => walk_at "fr"))
  | ((refine' Fr.new ?xa ?xb); (case xb => assumption); (case xa => walk_at "fr"))
  | ((refine' Fr.mut ?xa ?xb); (case xb => assumption); (case xa => walk_at "fr"))
  | ((refine' Fr.trans ?xa ?xb); (case xb => assumption); (case xa => walk_at "fr"))
  | ((refine' Fr.trans ?xa (Fr.ex ?xb)); (case xb => assumption); (case xa => walk_at "fr")))
local macro_rules | `(tactic| walk_at "go1") => `(tactic| first
  | (with_reducible refine' w_seq ?_)
  | (with_reducible refine' w_asg ?_)
  | (with_reducible refine' w_ret ?_)
  | (with_reducible refine' w_drop ?_)
  | (with_reducible refine' w_if ?_)
  | (with_reducible refine' w_next ?_)
  | (with_reducible refine' w_name ?_)
  | (with_reducible refine' w_sub ?_)
  | ((with_reducible refine' w_var ?hv ?_); (case hv => exact rfl))
  | (with_reducible refine' w_c ?_)
  | (with_reducible refine' w_op ?_)
  | (with_reducible refine' w_un ?_)
  | (with_reducible refine' w_ch ?_)
  | (with_reducible refine' w_I0 ?_)
  | ((with_reducible refine' w_I ?hc ?_); (case hc => first | (exact ly_mulL (by decide) (by decide)) | (exact ly_mulR (by decide) (by decide)) | (exact ly_mulL (by omega) (by omega)) | (show (_ : Int) ≠ 0; decide) | (show (_ : Int) ≠ 0; omega) | (exact ⟨by decide, by decide⟩) | (exact ⟨by omega, by omega⟩)))
  | (with_reducible refine' w_U ?_)
  | ((with_reducible refine' w_eq ?hs ?_); (case hs => exact rfl))
  | ((with_reducible refine' w_ne ?hs ?_); (case hs => exact rfl))
  | (with_reducible refine' w_isB ?_)
  | (with_reducible refine' w_notB ?_)
  | (with_reducible refine' w_nil ?_)
  | (with_reducible refine' w_cons ?_)
  | (with_reducible refine' w_tup ?_)
  | (with_reducible refine' w_lst ?_)
  | (with_reducible refine' w_cb ?_)
  | (with_reducible refine' w_call ?_)
  | (with_reducible refine' w_bm ?_)
  | (with_reducible refine' w_bm0 ?_)
  | ((with_reducible refine' w_app ?hh ?hz ?_); (case hh => walk_at "hp"); (case hz => first | exact ly_lt (by omega) | exact ly_lt (by simp only [List.length_append, List.length_map, List.length_cons, List.length_nil]; omega)))
  | ((with_reducible refine' w_popA ?hh ?_); (case hh => walk_at "hp"))
  | ((with_reducible refine' w_ext ?hh ?hh2 ?hz ?_); (case hh => walk_at "hp"); (case hh2 => walk_at "hp"))
  | ((with_reducible refine' w_ixL ?hh ?ha ?_); (case hh => walk_at "hp"); (case ha => first | exact rfl | exact at_map (by omega) | exact atI_last _ _ | ((refine' at_of ?ae ?ah); (case ah => assumption); (case ae => omega))))
  | ((with_reducible refine' w_ixT ?hh ?ha ?_); (case hh => walk_at "hp"); (case ha => first | exact rfl | exact at_map (by omega) | exact atI_last _ _ | ((refine' at_of ?ae ?ah); (case ah => assumption); (case ae => omega))))
  | ((with_reducible refine' w_cat ?hh ?hh2 ?hz ?_); (case hh => walk_at "hp"); (case hh2 => walk_at "hp"))
  | ((with_reducible refine' w_setL ?hh ?ha ?_); (case hh => walk_at "hp"); (case ha => exact rfl))
  | (with_reducible refine' w_test ?_)
  | (with_reducible refine' w_tB ?_)
  | (with_reducible refine' w_bl ?_)
  | (with_reducible refine' w_and ?_)
  | (with_reducible refine' w_or ?_)
  | (with_reducible refine' w_not ?_)
  | (with_reducible refine' w_andV ?_)
  | (with_reducible refine' w_orV ?_)
  | (with_reducible refine' w_notV ?_)
  | (with_reducible refine' w_ifE ?_)
  | (with_reducible refine' w_for ?_)
  | ((with_reducible refine' w_nin ?hh ?_); (case hh => walk_at "hp"))
  | ((with_reducible refine' w_sorted ?hh ?_); (case hh => walk_at "hp"))
  | (with_reducible refine' w_tsadd ?_)
  | ((with_reducible refine' w_tsadd1 ?hh ?_); (case hh => walk_at "hp"))
  | ((with_reducible refine' w_sadd ?hh ?hr ?_); (case hh => walk_at "hp"); (case hr => omega))
  | (with_reducible refine' w_iZ ?_)
  | ((with_reducible refine' w_iZ1 ?hh ?hh2 ?_); (case hh => walk_at "hp"); (case hh2 => walk_at "hp"))
  | (with_reducible refine' w_iS ?_)
  | (with_reducible refine' w_iS1 ?_)
  | ((with_reducible refine' w_gtup ?hh ?hn ?_); (case hh => walk_at "hp"); (case hn => exact rfl))
  | (with_reducible refine' w_gcons ?_)
  | (with_reducible refine' w_gnil ?_)
  | (with_reducible refine' w_js ?_)
  | (with_reducible refine' w_jsn ?_)
  | ((with_reducible refine' w_js1 ?hl ?_); (case hl => decide +kernel))
  | (with_reducible refine' w_fmt ?_)
  | ((with_reducible refine' w_fmt1 ?hl ?_); (case hl => decide +kernel))
  | (with_reducible refine' w_callS ?_)
  | ((with_reducible refine' w_truL ?hh ?_); (case hh => walk_at "hp"))
  | (with_reducible refine' w_lc ?_)
  | (with_reducible refine' w_yes ?_)
  | ((with_reducible refine' w_wipe ?he ?_); (case he => exact rfl))
  | (with_reducible refine' w_iL ?_)
  | (with_reducible refine' w_iT ?_)
  | (with_reducible refine' w_iR ?_)
  | ((with_reducible refine' w_iL1 ?hh ?_); (case hh => walk_at "hp"))
  | ((with_reducible refine' w_iT1 ?hh ?_); (case hh => walk_at "hp"))
  | ((with_reducible refine' w_iR1 ?h1 ?h2 ?_); (case h1 => omega); (case h2 => omega))
  | ((with_reducible refine' w_aug ?hv ?_); (case hv => exact rfl))
  | (with_reducible refine' w_ipI ?_)
  | ((with_reducible refine' w_isi ?hy ?hk ?_); (case hy => walk_at "ty"); (case hk => walk_at "kit"))
  | ((with_reducible refine' w_int ?_))
  | ((with_reducible refine' w_intB ?_))
  | ((with_reducible refine' w_abs ?_))
  | ((with_reducible refine' w_lenL ?hh ?_); (case hh => walk_at "hp"))
  | ((with_reducible refine' w_lenT ?hh ?_); (case hh => walk_at "hp"))
  | ((with_reducible refine' w_tupL ?hh ?_); (case hh => walk_at "hp"))
  | ((with_reducible refine' w_tupT ?hh ?_); (case hh => walk_at "hp"))
  | ((with_reducible refine' w_catA ?hh ?hh2 ?hz ?_); (case hh => walk_at "hp"); (case hh2 => walk_at "hp"); (case hz => walk_at "len"))
  | ((with_reducible refine' w_repB ?hh ?hne ?h2 ?h3 ?hz ?_); (case hh => walk_at "hp"); (case hne => simp); (case h2 => omega); (case h3 => omega); (case hz => exact Nat.le_of_ble_eq_true rfl))
  | ((with_reducible refine' w_eqN ?hh ?hh2 ?n1 ?n2 ?_); (case hh => walk_at "hp"); (case hh2 => walk_at "hp"); (case n1 => walk_at "nd"); (case n2 => walk_at "nd"))
  | ((with_reducible refine' w_neN ?hh ?hh2 ?n1 ?n2 ?_); (case hh => walk_at "hp"); (case hh2 => walk_at "hp"); (case n1 => walk_at "nd"); (case n2 => walk_at "nd"))
  | ((with_reducible refine' w_eqL ?hh ?hh2 ?n1 ?n2 ?_); (case hh => walk_at "hp"); (case hh2 => walk_at "hp"); (case n1 => walk_at "nd"); (case n2 => walk_at "nd"))
  | ((with_reducible refine' w_neL ?hh ?hh2 ?n1 ?n2 ?_); (case hh => walk_at "hp"); (case hh2 => walk_at "hp"); (case n1 => walk_at "nd"); (case n2 => walk_at "nd"))
  | ((with_reducible refine' w_neNon ?hh2 ?n2 ?_); (case hh2 => walk_at "hp"); (case n2 => walk_at "nd"))
  | ((with_reducible refine' w_eqNon ?hh2 ?n2 ?_); (case hh2 => walk_at "hp"); (case n2 => walk_at "nd"))
  | ((with_reducible refine' w_slA ?hh ?_); (case hh => walk_at "hp"))
  | ((with_reducible refine' w_disp ?hz ?_); (case hz => exact sz_of (Nat.le_of_ble_eq_true rfl)))
  | ((with_reducible refine' w_tyL ?hh ?_); (case hh => walk_at "hp"))
  | (with_reducible refine' iteT ?_)
  | (with_reducible refine' iteF ?_)
  | (with_reducible refine' w_nT ?_)
  | (with_reducible refine' w_nn ?_)
  | (with_reducible refine' w_nnT ?_)
  | (with_reducible refine' w_nnR ?_)
  | (with_reducible refine' w_neG ?_)
  | (with_reducible refine' w_eqG ?_)
  | (with_reducible refine' w_neS ?_)
  | (with_reducible refine' w_eqS ?_)
  | (with_reducible refine' w_neSb ?_)
  | (with_reducible refine' w_eqSb ?_)
  | (with_reducible refine' w_deIS ?_)
  | (with_reducible refine' w_deSI ?_)
  | (with_reducible refine' w_deISn ?_)
  | ((with_reducible refine' w_deST ?he ?_); (case he => decide +kernel))
  | ((with_reducible refine' w_deSF ?he ?_); (case he => decide +kernel))
  | ((with_reducible refine' w_deSTn ?he ?_); (case he => decide +kernel))
  | ((with_reducible refine' w_deSFn ?he ?_); (case he => decide +kernel))
  | (with_reducible refine' w_nF ?_)
  | dsimp only [Bool.not_true, Bool.not_false])
local macro_rules | `(tactic| walk_at "ty") => `(tactic| first
  | exact .base (.int _) | exact .base (.str _) | exact .base (.bl _) | exact .base .non
  | ((refine' tyx_t ?hq); (case hq => walk_at "hp")) | ((refine' tyx_l ?hq); (case hq => walk_at "hp")) | ((refine' .base (.tup ?hq)); (case hq => walk_at "hp")) | assumption)
local macro_rules | `(tactic| walk_at "go") => `(tactic| repeat walk_at "go1")
local macro_rules | `(tactic| walk_at "st") => `(tactic| try dsimp only [cxOf, Cx.nox, Cx.wish])
local macro_rules | `(tactic| walk_at "kit") => `(tactic| with_reducible first | exact kit_int_int | exact kit_int_str | exact kit_int_bool | exact kit_int_tuple | exact kit_int_list | exact kit_str_int | exact kit_str_str | exact kit_str_bool | exact kit_str_tuple | exact kit_str_list | exact kit_bool_int | exact kit_bool_str | exact kit_bool_bool | exact kit_bool_tuple | exact kit_bool_list | exact kit_NoneType_int | exact kit_NoneType_str | exact kit_NoneType_bool | exact kit_NoneType_tuple | exact kit_NoneType_list | exact kit_list_int | exact kit_list_str | exact kit_list_bool | exact kit_list_tuple | exact kit_list_list | exact kit_tuple_int | exact kit_tuple_str | exact kit_tuple_bool | exact kit_tuple_tuple | exact kit_tuple_list)
local macro_rules | `(tactic| walk_at "nd") => `(tactic| first
  | assumption
  | exact Tm.nds _
  | exact Nds.nil
  | exact Nds.ofInts _
  | ((refine' Nds.cons ?na ?nb); (case na => first | exact Nds.I _ | exact Nds.L | exact Nds.A); (case nb => walk_at "nd"))
  | ((refine' Nds.app ?na ?nb); (case na => walk_at "nd"); (case nb => walk_at "nd"))
  | ((refine' Nds.rep ?na _); (case na => walk_at "nd")))
local macro_rules | `(tactic| walk_at "len") => `(tactic| first
  | exact ly_sz (by omega)
  | ((simp only [List.length_append, List.length_cons, List.length_nil, List.length_map, PyProof.Rows.lm_len_rep_flat]); exact ly_sz (by omega)))
local macro_rules | `(tactic| walk_at "go1") => `(tactic| first
  | (with_reducible refine' w_kget2 ?_)
  | (with_reducible refine' w_isRN ?_)
  | (with_reducible refine' w_isNN ?_)
  | (with_reducible refine' w_isIN ?_)
  | ((with_reducible refine' w_kg ?hd ?_); (case hd => assumption)))
local macro_rules | `(tactic| walk_at "go1") => `(tactic| first
  | ((with_reducible refine' w_extT ?hh ?hh2 ?hz ?_); (case hh => walk_at "hp"); (case hh2 => walk_at "hp"))
  | ((with_reducible refine' w_I ?hc ?_); (case hc => exact ⟨by decide, by decide, by decide⟩))
  | (with_reducible refine' w_sl ?_)
  | (with_reducible refine' w_noP ?_)
  | (with_reducible refine' w_part ?_)
  | (with_reducible refine' w_part1 ?_)
  | (with_reducible refine' w_it ?_)
  | (with_reducible refine' w_it1 ?_)
  | ((with_reducible refine' w_lenZ ?hz ?_); (case hz => omega))
  | ((with_reducible refine' w_addZb ?hz ?_); (case hz => omega))
  | ((with_reducible refine' w_addZf ?hz ?_); (case hz => omega))
  | ((with_reducible refine' w_addZa ?hz ?_); (case hz => omega))
  | ((with_reducible refine' w_inS ?hh ?_); (case hh => walk_at "hp"))
  | ((with_reducible refine' w_ixT ?hh ?ha ?_); (case hh => assumption); (case ha => exact atI_nat (by assumption))))
local macro_rules | `(tactic| walk_at "go1") => `(tactic| first
  | (with_reducible refine' w_iR2 ?_)
  | ((with_reducible refine' w_iR21 ?h1 ?h2 ?h3 ?h4 ?_); (case h1 => omega); (case h2 => omega); (case h3 => omega); (case h4 => omega))
  | (with_reducible refine' w_nnI ?_)
  | (with_reducible refine' w_max ?_)
  | (with_reducible refine' w_break ?_)
  | (with_reducible refine' w_cont ?_))
local macro_rules | `(tactic| walk_at "go1") => `(tactic| first
  | (with_reducible refine' w_tdget ?_)
  | (with_reducible refine' w_tdin ?_)
  | (with_reducible refine' w_tdnotin ?_)
  | (with_reducible refine' w_sdput ?_)
  | (with_reducible refine' w_tdsetd ?_)
  | (with_reducible refine' w_dnew ?_))
local macro_rules | `(tactic| walk_at "go1") => `(tactic| first
  | (with_reducible refine' w_iZL ?_)
  | (with_reducible refine' w_sfld ?_)
  | (with_reducible refine' w_tfld ?_)
  | (with_reducible refine' w_make ?_)
  | fail)
local macro_rules | `(tactic| walk_at "go1") => `(tactic| first
  | (with_reducible refine' w_sfa ?_)
  | (with_reducible refine' w_tmP ?_)
  | (with_reducible refine' w_tdget2 ?_))
section
variable {P : Program} {w : World} {K : PySem.W.Frag} {mg : Str → Option Value} {base : Heap} {tk : Nat → Tok} {cl : Nat → Addr}
/-! ### a token -/
def spRdRead (CR CL : Addr) : Sp := fun vs H Q _ => ∃ (x : Addr) (tok : Str) (i : Int) (H0 : Hp) (fs : List Str) (N : Nat) (l l' : Lv) (r r' : List Lv), vs = [.ref x, .str tok, .int i] ∧ RdAt CR CL H0 H x fs N l r ∧ N ≤ 100000 ∧ stepT fs l r tok = some (l', r') ∧ ∀ H', RdAt CR CL H0 H' x fs (N + 1) l' r' → Q .non H'
theorem ok_rdread {f : Addr} {fd : FuncData} (F : Fun K "read" "Reader.read" s_Reader_read f fd) (T : Txt w K mg tk cl)
    (M_Reader_read_opener : C8.Met P w K mg base 3 (cl 22) "read_opener" (spRdOpen (cl 22) (cl 21)) []) (M_Reader_read_period : C8.Met P w K mg base 1 (cl 22) "read_period" (spRdPer (cl 22) (cl 21)) [])
    (M_Reader_read_closing : C8.Met P w K mg base 4 (cl 22) "read_closing" (spRdClo (cl 22) (cl 21)) []) (M_Reader_read_name : C8.Met P w K mg base 2 (cl 22) "read_name" (spRdName (cl 22) (cl 21)) []) : FnOk P w K mg base CX0 5 f fd ["self", "token", "at"] (spRdRead (cl 22) (cl 21)) := by
  refine F.ok sc_Reader_read (fun vs H Q E h => ?_) (fun cdv A outer s H vs Q E hr h => ?_)
  · obtain ⟨_, _, _, _, _, _, _, _, _, _, rfl, _⟩ := h
    rfl
  · obtain ⟨x, tok, i, H0, fs, N, l, l', r, r', rfl, h, hN, hk, q⟩ := h
    refine ⟨_, (pss_one (ps_if (PW.pt (pw_or (pt_cmpR op_eq (pv 1) pe_str (nomark _)) (pw_or1 (pt_cmpR op_eq (pv 1) pe_str (nomark _))))) (pss_one (ps_expr (C8.pe_mt M_Reader_read_opener hr (by first | decide | omega) (pv 0) (pa_cons (pv 1) (pa_cons (pv 2) pa_nil))))) (pss_one (ps_if (pt_cmpR op_eq (pv 1) pe_str (nomark _)) (pss_one (ps_expr (C8.pe_mt M_Reader_read_period hr (by first | decide | omega) (pv 0) (pa_cons (pv 2) pa_nil)))) (pss_one (ps_if (pt_cmpR op_eq (pv 1) pe_str (nomark _)) (pss_one (ps_expr (C8.pe_mt M_Reader_read_closing hr (by first | decide | omega) (pv 0) (pa_cons (pv 2) pa_nil)))) (pss_one (ps_expr (C8.pe_mt M_Reader_read_name hr (by first | decide | omega) (pv 0) (pa_cons (pv 1) (pa_cons (pv 2) pa_nil))))))))))), ?_⟩
    refine sl_of (σ2 := [some _, some _, some _]) rfl ?_
    obtain ⟨dx, dn, db, ll, ax, adx, nl, dl, d, ys, hx, -, -, -, -, -⟩ := h.top
    have open1 : (tok = "(" ∨ tok = "\\") → l.nm = false ∧ r.length + 1 ≤ 60 ∧ l' = Lv.new tok ∧ r' = l :: r := fun ht => by
      unfold stepT at hk
      rw [if_pos ht] at hk
      split at hk
      · cases hk
      · rename_i hn
        have e := Option.some.inj hk
        rw [not_or] at hn
        exact ⟨by simpa using hn.1, by omega, (congrArg Prod.fst e).symm, (congrArg Prod.snd e).symm⟩
    have goO : (tok = "(" ∨ tok = "\\") → spRdOpen (cl 22) (cl 21) ([.ref x, .str tok, .int i] ++ []) H (fun _ H1 => Q .non H1) C8.E0 := fun ht => by
      obtain ⟨a1, a2, rfl, rfl⟩ := open1 ht
      exact ⟨x, tok, i, H0, fs, N, l, r, rfl, h, hN, a1, a2, fun H1 h1 => q H1 (h1.more (Nat.le_succ _))⟩
    walk_at "st"
    walk_at "go"
    refine w_brS (fun h1 => ?_) (fun h1 => ?_)
    · walk_at "go"
      refine ⟨x, dx, _, rfl, hx, rfl, ?_⟩
      walk_at "go"
      exact goO (.inl h1)
    walk_at "go"
    refine w_brS (fun h2 => ?_) (fun h2 => ?_)
    · walk_at "go"
      refine ⟨x, dx, _, rfl, hx, rfl, ?_⟩
      walk_at "go"
      exact goO (.inr h2)
    unfold stepT at hk
    rw [if_neg (fun z => z.elim h1 h2)] at hk
    walk_at "go"
    refine w_brS (fun h3 => ?_) (fun h3 => ?_)
    · rw [if_pos h3] at hk
      walk_at "go"
      refine ⟨x, dx, _, rfl, hx, rfl, ?_⟩
      walk_at "go"
      split at hk
      · cases hk
      · rename_i hn
        rw [not_or] at hn
        have e := Option.some.inj hk
        refine ⟨x, i, H0, fs, N, l, r, rfl, h, by simpa using hn.1, hn.2, fun H1 h1 => ?_⟩
        walk_at "go"
        have e1 := (congrArg Prod.fst e).symm
        have e2 := (congrArg Prod.snd e).symm
        simp only at e1 e2
        subst e1 e2
        exact q H1 (h1.more (Nat.le_succ _))
    rw [if_neg h3] at hk
    walk_at "go"
    refine w_brS (fun h4 => ?_) (fun h4 => ?_)
    · rw [if_pos h4] at hk
      walk_at "go"
      refine ⟨x, dx, _, rfl, hx, rfl, ?_⟩
      walk_at "go"
      split at hk
      · cases hk
      · rename_i hw
        split at hk
        · rename_i ho
          split at hk
          · cases hk
          · rename_i p r2 hc
            have e := Option.some.inj hk
            refine ⟨x, i, H0, fs, N, l, p, r, r2, rfl, h, hN, by simpa using hw, ho, hc, fun H1 h1 => ?_⟩
            walk_at "go"
            have e1 := (congrArg Prod.fst e).symm
            have e2 := (congrArg Prod.snd e).symm
            simp only at e1 e2
            subst e1 e2
            exact q H1 (h1.more (Nat.le_succ _))
        · cases hk
    rw [if_neg h4] at hk
    walk_at "go"
    refine ⟨x, dx, _, rfl, hx, rfl, ?_⟩
    walk_at "go"
    refine ⟨x, tok, i, H0, fs, N, l, l', r, rfl, h, hN, ?_, fun H1 h1 => ?_⟩
    · split at hk
      · rename_i hn
        exact .inl ⟨hn, (congrArg Prod.fst (Option.some.inj hk)).symm⟩
      · rename_i hn
        split at hk
        · cases hk
        · rename_i k ek
          exact .inr ⟨by simpa using hn, k, ek, (congrArg Prod.fst (Option.some.inj hk)).symm⟩
    · have er : r' = r := by
        split at hk
        · exact (congrArg Prod.snd (Option.some.inj hk)).symm
        · split at hk
          · cases hk
          · exact (congrArg Prod.snd (Option.some.inj hk)).symm
      subst er
      walk_at "go"
      exact q H1 h1
end
end Ly
set_option Elab.async false
set_option linter.all false
set_option maxRecDepth 100000
set_option maxHeartbeats 8000000
namespace Ly
open PySem PySem.Spec PyProof.Rows L2 Evl
local macro_rules | `(tactic| walk_at "ne") => `(tactic| first
  | assumption
  | ((refine' Ne.symm ?hq); (case hq => assumption))
  | ((refine' ne_of_none ?nh1 ?nh2); (case nh2 => assumption); (case nh1 => walk_at "hp"))
  | ((refine' Ne.symm (ne_of_none ?nh1 ?nh2)); (case nh2 => assumption); (case nh1 => walk_at "hp")))
local macro_rules | `(tactic| walk_at "hp") => `(tactic| first
  | assumption
  | exact upd_same
  | ((refine' SqL.of ?hq); (case hq => walk_at "hp"))
  | ((refine' SqT.of ?hq); (case hq => walk_at "hp"))
  | ((refine' (upd_ne ?hne).trans ?hrest); (case hne => walk_at "ne"); (case hrest => walk_at "hp"))
  | ((refine' ly_at ?hex ?hh); (case hex => assumption); (case hh => walk_at "hp"))
  | ((refine' ly_atF ?hex ?hnn ?hh); (case hex => assumption); (case hh => walk_at "hp"); (case hnn => walk_at "ne"))
  | ((refine' ex_t ?hex ?hh); (case hh => assumption); (case hex => walk_at "ex"))
  | ((refine' ex_l ?hex ?hh); (case hh => assumption); (case hex => walk_at "ex")))
local macro_rules | `(tactic| walk_at "ex") => `(tactic| first
  | assumption
  | exact Ex.refl _
  | ((refine' ex_new ?xa ?xb); (case xb => assumption); (case xa => walk_at "ex"))
  | ((refine' ex_upd ?xa ?xb); (case xb => walk_at "free"); (case xa => walk_at "ex"))
  | ((refine' Ex.trans ?xa ?xb); (case xb => assumption); (case xa => walk_at "ex")))
local macro_rules | `(tactic| walk_at "free") => `(tactic| first
  | assumption
  | ((refine' fresh_back ?xa ?xb); (case xb => assumption); (case xa => walk_at "ex")))
local macro_rules | `(tactic| walk_at "fr") => `(tactic| first
  | assumption
  | exact Fr.refl _ _
  | ((refine' Fr.own ?hq); (case hq => walk_at "fr"))
  | ((refine' Fr.new ?xa ?xb); (case xb => assumption); (case xa => walk_at "fr"))
  | ((refine' Fr.mut ?xa ?xb); (case xb => assumption); (case xa => walk_at "fr"))
  | ((refine' Fr.trans ?xa ?xb); (case xb => assumption); (case xa => walk_at "fr"))
  | ((refine' Fr.trans ?xa (Fr.ex ?xb)); (case xb => assumption); (case xa => walk_at "fr")))
local macro_rules | `(tactic| walk_at "go1") => `(tactic| first
  | (with_reducible refine' w_seq ?_)
  | (with_reducible refine' w_asg ?_)
  | (with_reducible refine' w_ret ?_)
  | (with_reducible refine' w_drop ?_)
  | (with_reducible refine' w_if ?_)
  | (with_reducible refine' w_next ?_)
  | (with_reducible refine' w_name ?_)
  | (with_reducible refine' w_sub ?_)
  | ((with_reducible refine' w_var ?hv ?_); (case hv => exact rfl))
  | (with_reducible refine' w_c ?_)
  | (with_reducible refine' w_op ?_)
  | (with_reducible refine' w_un ?_)
  | (with_reducible refine' w_ch ?_)
  | (with_reducible refine' w_I0 ?_)
  | ((with_reducible refine' w_I ?hc ?_); (case hc => first | (exact ly_mulL (by decide) (by decide)) | (exact ly_mulR (by decide) (by decide)) | (exact ly_mulL (by omega) (by omega)) | (show (_ : Int) ≠ 0; decide) | (show (_ : Int) ≠ 0; omega) | (exact ⟨by decide, by decide⟩) | (exact ⟨by omega, by omega⟩)))
  | (with_reducible refine' w_U ?_)
  | ((with_reducible refine' w_eq ?hs ?_); (case hs => exact rfl))
  | ((with_reducible refine' w_ne ?hs ?_); (case hs => exact rfl))
  | (with_reducible refine' w_isB ?_)
  | (with_reducible refine' w_notB ?_)
  | (with_reducible refine' w_nil ?_)
  | (with_reducible refine' w_cons ?_)
  | (with_reducible refine' w_tup ?_)
  | (with_reducible refine' w_lst ?_)
  | (with_reducible refine' w_cb ?_)
  | (with_reducible refine' w_call ?_)
  | (with_reducible refine' w_bm ?_)
  | (with_reducible refine' w_bm0 ?_)
  | ((with_reducible refine' w_app ?hh ?hz ?_); (case hh => walk_at "hp"); (case hz => first | exact ly_lt (by omega) | exact ly_lt (by simp only [List.length_append, List.length_map, List.length_cons, List.length_nil]; omega)))
  | ((with_reducible refine' w_popA ?hh ?_); (case hh => walk_at "hp"))
  | ((with_reducible refine' w_ext ?hh ?hh2 ?hz ?_); (case hh => walk_at "hp"); (case hh2 => walk_at "hp"))
  | ((with_reducible refine' w_ixL ?hh ?ha ?_); (case hh => walk_at "hp"); (case ha => first | exact rfl | exact at_map (by omega) | exact atI_last _ _ | ((refine' at_of ?ae ?ah); (case ah => assumption); (case ae => omega))))
  | ((with_reducible refine' w_ixT ?hh ?ha ?_); (case hh => walk_at "hp"); (case ha => first | exact rfl | exact at_map (by omega) | exact atI_last _ _ | ((refine' at_of ?ae ?ah); (case ah => assumption); (case ae => omega))))
  | ((with_reducible refine' w_cat ?hh ?hh2 ?hz ?_); (case hh => walk_at "hp"); (case hh2 => walk_at "hp"))
  | ((with_reducible refine' w_setL ?hh ?ha ?_); (case hh => walk_at "hp"); (case ha => exact rfl))
  | (with_reducible refine' w_test ?_)
  | (with_reducible refine' w_tB ?_)
  | (with_reducible refine' w_bl ?_)
  | (with_reducible refine' w_and ?_)
  | (with_reducible refine' w_or ?_)
  | (with_reducible refine' w_not ?_)
  | (with_reducible refine' w_andV ?_)
  | (with_reducible refine' w_orV ?_)
  | (with_reducible refine' w_notV ?_)
  | (with_reducible refine' w_ifE ?_)
  | (with_reducible refine' w_for ?_)
  | ((with_reducible refine' w_nin ?hh ?_); (case hh => walk_at "hp"))
  | ((with_reducible refine' w_sorted ?hh ?_); (case hh => walk_at "hp"))
  | (with_reducible refine' w_tsadd ?_)
  | ((with_reducible refine' w_tsadd1 ?hh ?_); (case hh => walk_at "hp"))
  | ((with_reducible refine' w_sadd ?hh ?hr ?_); (case hh => walk_at "hp"); (case hr => omega))
  | (with_reducible refine' w_iZ ?_)
  | ((with_reducible refine' w_iZ1 ?hh ?hh2 ?_); (case hh => walk_at "hp"); (case hh2 => walk_at "hp"))
  | (with_reducible refine' w_iS ?_)
  | (with_reducible refine' w_iS1 ?_)
  | ((with_reducible refine' w_gtup ?hh ?hn ?_); (case hh => walk_at "hp"); (case hn => exact rfl))
  | (with_reducible refine' w_gcons ?_)
  | (with_reducible refine' w_gnil ?_)
  | (with_reducible refine' w_js ?_)
  | (with_reducible refine' w_jsn ?_)
  | ((with_reducible refine' w_js1 ?hl ?_); (case hl => decide +kernel))
  | (with_reducible refine' w_fmt ?_)
  | ((with_reducible refine' w_fmt1 ?hl ?_); (case hl => decide +kernel))
  | (with_reducible refine' w_callS ?_)
  | ((with_reducible refine' w_truL ?hh ?_); (case hh => walk_at "hp"))
  | (with_reducible refine' w_lc ?_)
  | (with_reducible refine' w_yes ?_)
  | ((with_reducible refine' w_wipe ?he ?_); (case he => exact rfl))
  | (with_reducible refine' w_iL ?_)
  | (with_reducible refine' w_iT ?_)
  | (with_reducible refine' w_iR ?_)
  | ((with_reducible refine' w_iL1 ?hh ?_); (case hh => walk_at "hp"))
  | ((with_reducible refine' w_iT1 ?hh ?_); (case hh => walk_at "hp"))
  | ((with_reducible refine' w_iR1 ?h1 ?h2 ?_); (case h1 => omega); (case h2 => omega))
  | ((with_reducible refine' w_aug ?hv ?_); (case hv => exact rfl))
  | (with_reducible refine' w_ipI ?_)
  | ((with_reducible refine' w_isi ?hy ?hk ?_); (case hy => walk_at "ty"); (case hk => walk_at "kit"))
  | ((with_reducible refine' w_int ?_))
  | ((with_reducible refine' w_intB ?_))
  | ((with_reducible refine' w_abs ?_))
  | ((with_reducible refine' w_lenL ?hh ?_); (case hh => walk_at "hp"))
  | ((with_reducible refine' w_lenT ?hh ?_); (case hh => walk_at "hp"))
  | ((with_reducible refine' w_tupL ?hh ?_); (case hh => walk_at "hp"))
  | ((with_reducible refine' w_tupT ?hh ?_); (case hh => walk_at "hp"))
  | ((with_reducible refine' w_catA ?hh ?hh2 ?hz ?_); (case hh => walk_at "hp"); (case hh2 => walk_at "hp"); (case hz => walk_at "len"))
  | ((with_reducible refine' w_repB ?hh ?hne ?h2 ?h3 ?hz ?_); (case hh => walk_at "hp"); (case hne => simp); (case h2 => omega); (case h3 => omega); (case hz => exact Nat.le_of_ble_eq_true rfl))
  | ((with_reducible refine' w_eqN ?hh ?hh2 ?n1 ?n2 ?_); (case hh => walk_at "hp"); (case hh2 => walk_at "hp"); (case n1 => walk_at "nd"); (case n2 => walk_at "nd"))
  | ((with_reducible refine' w_neN ?hh ?hh2 ?n1 ?n2 ?_); (case hh => walk_at "hp"); (case hh2 => walk_at "hp"); (case n1 => walk_at "nd"); (case n2 => walk_at "nd"))
  | ((with_reducible refine' w_eqL ?hh ?hh2 ?n1 ?n2 ?_); (case hh => walk_at "hp"); (case hh2 => walk_at "hp"); (case n1 => walk_at "nd"); (case n2 => walk_at "nd"))
  | ((with_reducible refine' w_neL ?hh ?hh2 ?n1 ?n2 ?_); (case hh => walk_at "hp"); (case hh2 => walk_at "hp"); (case n1 => walk_at "nd"); (case n2 => walk_at "nd"))
  | ((with_reducible refine' w_neNon ?hh2 ?n2 ?_); (case hh2 => walk_at "hp"); (case n2 => walk_at "nd"))
  | ((with_reducible refine' w_eqNon ?hh2 ?n2 ?_); (case hh2 => walk_at "hp"); (case n2 => walk_at "nd"))
  | ((with_reducible refine' w_slA ?hh ?_); (case hh => walk_at "hp"))
  | ((with_reducible refine' w_disp ?hz ?_); (case hz => exact sz_of (Nat.le_of_ble_eq_true rfl)))
  | ((with_reducible refine' w_tyL ?hh ?_); (case hh => walk_at "hp"))
  | (with_reducible refine' iteT ?_)
  | (with_reducible refine' iteF ?_)
  | (with_reducible refine' w_nT ?_)
  | (with_reducible refine' w_nn ?_)
  | (with_reducible refine' w_nnT ?_)
  | (with_reducible refine' w_nnR ?_)
  | (with_reducible refine' w_neG ?_)
  | (with_reducible refine' w_eqG ?_)
  | (with_reducible refine' w_neS ?_)
  | (with_reducible refine' w_eqS ?_)
  | (with_reducible refine' w_neSb ?_)
  | (with_reducible refine' w_eqSb ?_)
  | (with_reducible refine' w_deIS ?_)
  | (with_reducible refine' w_deSI ?_)
  | (with_reducible refine' w_deISn ?_)
  | ((with_reducible refine' w_deST ?he ?_); (case he => decide +kernel))
  | ((with_reducible refine' w_deSF ?he ?_); (case he => decide +kernel))
  | ((with_reducible refine' w_deSTn ?he ?_); (case he => decide +kernel))
  | ((with_reducible refine' w_deSFn ?he ?_); (case he => decide +kernel))
  | (with_reducible refine' w_nF ?_)
  | dsimp only [Bool.not_true, Bool.not_false])
local macro_rules | `(tactic| walk_at "ty") => `(tactic| first
  | exact .base (.int _) | exact .base (.str _) | exact .base (.bl _) | exact .base .non
  | ((refine' tyx_t ?hq); (case hq => walk_at "hp")) | ((refine' tyx_l ?hq); (case hq => walk_at "hp")) | ((refine' .base (.tup ?hq)); (case hq => walk_at "hp")) | assumption)
local macro_rules | `(tactic| walk_at "go") => `(tactic| repeat walk_at "go1")
local macro_rules | `(tactic| walk_at "st") => `(tactic| try dsimp only [cxOf, Cx.nox, Cx.wish])
local macro_rules | `(tactic| walk_at "kit") => `(tactic| with_reducible first | exact kit_int_int | exact kit_int_str | exact kit_int_bool | exact kit_int_tuple | exact kit_int_list | exact kit_str_int | exact kit_str_str | exact kit_str_bool | exact kit_str_tuple | exact kit_str_list | exact kit_bool_int | exact kit_bool_str | exact kit_bool_bool | exact kit_bool_tuple | exact kit_bool_list | exact kit_NoneType_int | exact kit_NoneType_str | exact kit_NoneType_bool | exact kit_NoneType_tuple | exact kit_NoneType_list | exact kit_list_int | exact kit_list_str | exact kit_list_bool | exact kit_list_tuple | exact kit_list_list | exact kit_tuple_int | exact kit_tuple_str | exact kit_tuple_bool | exact kit_tuple_tuple | exact kit_tuple_list)
local macro_rules | `(tactic| walk_at "nd") => `(tactic| first
  | assumption
  | exact Tm.nds _
  | exact Nds.nil
  | exact Nds.ofInts _
  | ((refine' Nds.cons ?na ?nb); (case na => first | exact Nds.I _ | exact Nds.L | exact Nds.A); (case nb => walk_at "nd"))
  | ((refine' Nds.app ?na ?nb); (case na => walk_at "nd"); (case nb => walk_at "nd"))
  | ((refine' Nds.rep ?na _); (case na => walk_at "nd")))
local macro_rules | `(tactic| walk_at "len") => `(tactic| first
  | exact ly_sz (by omega)
  | ((simp only [List.length_append, List.length_cons, List.length_nil, List.length_map, PyProof.Rows.lm_len_rep_flat]); exact ly_sz (by omega)))
local macro_rules | `(tactic| walk_at "go1") => `(tactic| first
  | (with_reducible refine' w_kget2 ?_)
  | (with_reducible refine' w_isRN ?_)
  | (with_reducible refine' w_isNN ?_)
  | (with_reducible refine' w_isIN ?_)
  | ((with_reducible refine' w_kg ?hd ?_); (case hd => assumption)))
local macro_rules | `(tactic| walk_at "go1") => `(tactic| first
  | ((with_reducible refine' w_extT ?hh ?hh2 ?hz ?_); (case hh => walk_at "hp"); (case hh2 => walk_at "hp"))
  | ((with_reducible refine' w_I ?hc ?_); (case hc => exact ⟨by decide, by decide, by decide⟩))
  | (with_reducible refine' w_sl ?_)
  | (with_reducible refine' w_noP ?_)
  | (with_reducible refine' w_part ?_)
  | (with_reducible refine' w_part1 ?_)
  | (with_reducible refine' w_it ?_)
  | (with_reducible refine' w_it1 ?_)
  | ((with_reducible refine' w_lenZ ?hz ?_); (case hz => omega))
  | ((with_reducible refine' w_addZb ?hz ?_); (case hz => omega))
  | ((with_reducible refine' w_addZf ?hz ?_); (case hz => omega))
  | ((with_reducible refine' w_addZa ?hz ?_); (case hz => omega))
  | ((with_reducible refine' w_inS ?hh ?_); (case hh => walk_at "hp"))
  | ((with_reducible refine' w_ixT ?hh ?ha ?_); (case hh => assumption); (case ha => exact atI_nat (by assumption))))
local macro_rules | `(tactic| walk_at "go1") => `(tactic| first
  | (with_reducible refine' w_iR2 ?_)
  | ((with_reducible refine' w_iR21 ?h1 ?h2 ?h3 ?h4 ?_); (case h1 => omega); (case h2 => omega); (case h3 => omega); (case h4 => omega))
  | (with_reducible refine' w_nnI ?_)
  | (with_reducible refine' w_max ?_)
  | (with_reducible refine' w_break ?_)
  | (with_reducible refine' w_cont ?_))
local macro_rules | `(tactic| walk_at "go1") => `(tactic| first
  | (with_reducible refine' w_tdget ?_)
  | (with_reducible refine' w_tdin ?_)
  | (with_reducible refine' w_tdnotin ?_)
  | (with_reducible refine' w_sdput ?_)
  | (with_reducible refine' w_tdsetd ?_)
  | (with_reducible refine' w_dnew ?_))
local macro_rules | `(tactic| walk_at "go1") => `(tactic| first
  | (with_reducible refine' w_iZL ?_)
  | (with_reducible refine' w_sfld ?_)
  | (with_reducible refine' w_tfld ?_)
  | (with_reducible refine' w_make ?_)
  | fail)
local macro_rules | `(tactic| walk_at "go1") => `(tactic| first
  | (with_reducible refine' w_sfa ?_)
  | (with_reducible refine' w_tmP ?_)
  | (with_reducible refine' w_tdget2 ?_))
section
variable {P : Program} {w : World} {K : PySem.W.Frag} {mg : Str → Option Value} {base : Heap} {tk : Nat → Tok} {cl : Nat → Addr}
/-! ### tokens -/
theorem digs : ("0123456789" : Str).cps.toList = [48, 49, 50, 51, 52, 53, 54, 55, 56, 57] := by decide +kernel
theorem lows : ("abcdefghijklmnopqrstuvwxyz" : Str).cps.toList = [97, 98, 99, 100, 101, 102, 103, 104, 105, 106, 107, 108, 109, 110, 111, 112, 113, 114, 115, 116, 117, 118, 119, 120, 121, 122] := by decide +kernel
theorem sgns : ("\\.()" : Str).cps.toList = [92, 46, 40, 41] := by decide +kernel
theorem in_digs (c : Nat) : decide (c ∈ ("0123456789" : Str).cps.toList) = isDig c := by
  rw [digs]
  unfold isDig
  apply decide_eq_decide.mpr
  simp
  omega
theorem in_lows (c : Nat) : decide (c ∈ ("abcdefghijklmnopqrstuvwxyz" : Str).cps.toList) = isLow c := by
  rw [lows]
  unfold isLow
  apply decide_eq_decide.mpr
  simp
  omega
theorem in_sgns (c : Nat) : decide (c ∈ ("\\.()" : Str).cps.toList) = isSgn c := by
  rw [sgns]
  unfold isSgn
  apply Bool.eq_iff_iff.mpr
  simp only [decide_eq_true_eq, List.mem_cons, List.not_mem_nil, or_false, Bool.or_eq_true, beq_iff_eq]
  omega
theorem tokL_cons (c : Nat) (r : List Nat) : tokL (c :: r) = if isLow c = true then (if 10 ≤ (r.takeWhile isDig).length then .inr 10 else .inl (1 + (r.takeWhile isDig).length)) else if isSgn c = true then .inl 1 else .inr 0 := rfl
theorem tw_lt {p : Nat → Bool} : ∀ {xs : List Nat} {j : Nat}, j < (xs.takeWhile p).length → ∃ c, xs[j]? = some c ∧ p c = true
  | [], j, h => by simp at h
  | x :: xs, j, h => by
    rw [List.takeWhile_cons] at h
    split at h
    · rename_i hx
      cases j with
      | zero => exact ⟨x, rfl, hx⟩
      | succ j => exact tw_lt (xs := xs) (by simpa using h)
    · simp at h
theorem tw_ge {p : Nat → Bool} : ∀ {xs : List Nat} {c : Nat}, xs[(xs.takeWhile p).length]? = some c → p c = false
  | [], c, h => by simp at h
  | x :: xs, c, h => by
    rw [List.takeWhile_cons] at h
    split at h
    · exact tw_ge (xs := xs) (by simpa using h)
    · rename_i hx
      simp at h
      rw [← h]
      simpa using hx
theorem tw_le {p : Nat → Bool} (xs : List Nat) : (xs.takeWhile p).length ≤ xs.length := (List.takeWhile_sublist p).length_le
theorem w_lenP {p : List Nat} {A : Int → Prop} (z : p.length ≤ 1000000) (q : A p.length) : ∃ y, [V.str (pl p)] = [V.str y] ∧ y.length ≤ sizeLine ∧ A y.length := ⟨pl p, rfl, by rw [pl_len]; exact Nat.le_of_lt (ly_lt (by omega)), by rw [pl_len]; exact q⟩
theorem w_lenPl {p : List Nat} {H : Hp} {Q : VK} (z : p.length ≤ 1000000) (q : Q (.int p.length) H) : rLenZ [.str (pl p)] H Q := ⟨pl p, rfl, by rw [pl_len]; exact Nat.le_of_lt (ly_lt (by omega)), by rw [pl_len]; exact q⟩
theorem w_ixPl {p : List Nat} {i c : Nat} {H : Hp} {Q : VK} (z : p.length ≤ 1000000) (h : p[i]? = some c) (q : Q (.str (pl [c])) H) : rIxS (.str (pl p)) (.int (i : Int)) H Q :=
  ⟨pl p, _, c, rfl, rfl, by rw [pl_len]; exact Nat.le_of_lt (ly_lt (by omega)), atI_nat (by simpa [pl] using h), q⟩
def spNameEnd : Sp := fun vs H Q _ => ∃ (cs : List Nat) (s : Nat), vs = [.str (pl cs), .int (s : Int)] ∧ cs.length ≤ 100000 ∧ s < cs.length ∧ ((cs.drop (s + 1)).takeWhile isDig).length < 10 ∧ Q (.int ((s + (1 + ((cs.drop (s + 1)).takeWhile isDig).length) : Nat) : Int)) H
theorem ok_nameend {f : Addr} {fd : FuncData} {k : Nat} (F : Fun K "name_end" "name_end" s_name_end f fd) (T : Txt w K mg tk cl) : FnOk P w K mg base CX0 (k + 1) f fd ["text", "start"] spNameEnd := by
  refine F.ok sc_name_end (fun vs H Q E h => ?_) (fun cdv A outer s H vs Q E hr h => ?_)
  · obtain ⟨_, _, rfl, _⟩ := h
    rfl
  · obtain ⟨cs, s, rfl, hz, hs, hd, q⟩ := h
    refine ⟨_, (pss_cons (ps_set (i := 2) sc_name_end.nd rfl (.inl rfl) (pe_op op_add (pv 1) pe_int)) (pss_cons (ps_while PassesOwn.never (PW.pt (pw_and (pt_cmpR op_lt (pv 2) (pe_callB call_lenZ (by rfl) T.n_len (by decide +kernel) (pa_cons (pv 0) pa_nil)) (nomark _)) (pw_and1 (pt_cmpR op_in_sign (pe_ix ix_str (pv 0) (pv 2) (fun _ _ => rfl)) (pe_glob (v := .str "0123456789") (by rfl) T.g_DIGITS ⟨_, rfl⟩) rfl)))) (pss_cons (ps_if (pt_cmpR op_eq (pe_op op_sub (pv 2) (pv 1)) (pe_glob (v := .int 10) rfl T.g_MOST_LENGTH ⟨_, rfl⟩) (nomark _)) (pss_one ps_dead) pss_nil) (pss_one (ps_aug (i := 2) sc_name_end.nd rfl (.inl rfl) pe_int ip_add)))) (pss_one (ps_ret (pv 2))))), ?_⟩
    refine sl_of (σ2 := [some _, some _, none]) rfl ?_
    have hle := tw_le (p := isDig) (cs.drop (s + 1))
    rw [List.length_drop] at hle
    generalize hD : ((cs.drop (s + 1)).takeWhile isDig).length = d at *
    walk_at "st"
    walk_at "go"
    refine w_while (fun m σ H' => ∃ j : Nat, σ = [some (.str (pl cs)), some (.int (s : Int)), some (.int ((s + (1 + j) : Nat) : Int))] ∧ H' = H ∧ j ≤ d ∧ m = d - j) d ⟨0, rfl, rfl, Nat.zero_le _, rfl⟩ ?_
    rintro m σ H1 ⟨j, rfl, rfl, hj, rfl⟩
    walk_at "go"
    refine w_br (fun h1 => ?_) (fun h1 => ?_)
    · have hlt : s + (1 + j) < cs.length := by omega
      have hc : cs[s + (1 + j)]? = some cs[s + (1 + j)] := List.getElem?_eq_getElem hlt
      have hcd : (cs.drop (s + 1))[j]? = some cs[s + (1 + j)] := by rw [List.getElem?_drop, ← hc]; congr 1; omega
      generalize cs[s + (1 + j)] = c at *
      walk_at "go"
      refine w_ixPl (p := cs) (by omega) hc ?_
      walk_at "go"
      refine ⟨c, _, rfl, rfl, ?_⟩
      rw [in_digs]
      by_cases hjd : j < d
      · obtain ⟨c', e1, e2⟩ := tw_lt (p := isDig) (xs := cs.drop (s + 1)) (by rw [hD]; exact hjd)
        rw [hcd] at e1
        cases e1
        rw [e2]
        refine ⟨_, rfl, ?_⟩
        refine iteT ?_
        refine ⟨fun σ' H' => ∃ j2 : Nat, σ' = [some (.str (pl cs)), some (.int (s : Int)), some (.int ((s + (1 + j2) : Nat) : Int))] ∧ H' = H1 ∧ j2 ≤ d ∧ d - (j + 1) = d - j2, fun σ' H' ⟨j2, a1, a2, a3, a4⟩ => ⟨_, ?_, j2, a1, a2, a3, a4⟩, ?_⟩
        · omega
        walk_at "go"
        refine w_brI (fun z => by omega) (fun _ => ?_)
        walk_at "go"
        exact ⟨j + 1, by rw [show ((s + (1 + j) : Nat) : Int) + 1 = ((s + (1 + (j + 1)) : Nat) : Int) by omega]; rfl, rfl, hjd, rfl⟩
      · obtain rfl : j = d := by omega
        have e2 : isDig c = false := tw_ge (p := isDig) (xs := cs.drop (s + 1)) (by rw [hD]; exact hcd)
        rw [e2]
        refine ⟨_, rfl, iteF ?_⟩
        walk_at "go"
        exact q
    · have hjd : j = d := by
        refine Nat.le_antisymm hj ?_
        omega
      subst hjd
      walk_at "go"
      exact q
def spTokEnd : Sp := fun vs H Q _ => ∃ (cs : List Nat) (s k : Nat), vs = [.str (pl cs), .int (s : Int)] ∧ cs.length ≤ 100000 ∧ tokL (cs.drop s) = .inl k ∧ Q (.int ((s + k : Nat) : Int)) H
theorem ok_tokend {f : Addr} {fd : FuncData} (F : Fun K "token_end" "token_end" s_token_end f fd) (T : Txt w K mg tk cl)
    (D1 : Def P w K mg base CX0 1 "name_end" ["text", "start"] spNameEnd) : FnOk P w K mg base CX0 2 f fd ["text", "start"] spTokEnd := by
  obtain ⟨f1, fd1, g_name_end, kp_name_end, b_name_end, G_name_end⟩ := D1
  refine F.ok sc_token_end (fun vs H Q E h => ?_) (fun cdv A outer s H vs Q E hr h => ?_)
  · obtain ⟨_, _, _, rfl, _⟩ := h
    rfl
  · obtain ⟨cs, s, k, rfl, hz, hk, q⟩ := h
    refine ⟨_, (pss_cons (ps_if (pt_cmpR op_in_sign (pe_ix ix_str (pv 0) (pv 1) (fun _ _ => rfl)) (pe_glob (v := .str "abcdefghijklmnopqrstuvwxyz") (by rfl) T.g_LETTERS ⟨_, rfl⟩) rfl) (pss_one (ps_ret (pe_call G_name_end (hr.mono (by first | decide | omega)) (by rfl) g_name_end kp_name_end b_name_end .nil pass0 (pa_cons (pv 0) (pa_cons (pv 1) pa_nil))))) pss_nil) (pss_cons (ps_if (pt_cmpR op_in_sign (pe_ix ix_str (pv 0) (pv 1) (fun _ _ => rfl)) (pe_glob (v := .str "\\.()") (by rfl) T.g_SIGNS ⟨_, rfl⟩) rfl) (pss_one (ps_ret (pe_op op_add (pv 1) pe_int))) pss_nil) (pss_one ps_dead))), ?_⟩
    refine sl_of (σ2 := [some _, some _]) rfl ?_
    cases hd : cs.drop s with
    | nil =>
      rw [hd] at hk
      cases hk
    | cons c r =>
      rw [hd] at hk
      have hlt : s < cs.length := by
        have := congrArg List.length hd
        rw [List.length_drop, List.length_cons] at this
        omega
      have hc : cs[s]? = some c := by
        have := congrArg (fun l => l[0]?) hd
        simpa using this
      have hr : cs.drop (s + 1) = r := by
        have := congrArg List.tail hd
        simpa using this
      rw [tokL_cons] at hk
      walk_at "st"
      walk_at "go"
      refine w_ixPl (p := cs) (by omega) hc ?_
      walk_at "go"
      refine ⟨c, _, rfl, rfl, ?_⟩
      rw [in_lows]
      by_cases h1 : isLow c = true
      · rw [if_pos h1] at hk
        rw [h1]
        split at hk
        · cases hk
        · rename_i h2
          cases hk
          walk_at "go"
          refine ⟨cs, s, rfl, hz, hlt, by rw [hr]; omega, ?_⟩
          walk_at "go"
          rw [hr]
          exact q
      · rw [if_neg h1] at hk
        rw [Bool.eq_false_iff.mpr h1]
        walk_at "go"
        refine w_ixPl (p := cs) (by omega) hc ?_
        walk_at "go"
        refine ⟨c, _, rfl, rfl, ?_⟩
        rw [in_sgns]
        split at hk
        · rename_i h2
          cases hk
          rw [h2]
          walk_at "go"
          exact q
        · cases hk
end
end Ly
set_option Elab.async false
set_option linter.all false
set_option maxRecDepth 100000
set_option maxHeartbeats 8000000
namespace Ly
open PySem PySem.Spec PyProof.Rows L2 Evl
local macro_rules | `(tactic| walk_at "ne") => `(tactic| first
  | assumption
  | ((refine' Ne.symm ?hq); (case hq => assumption))
  | ((refine' ne_of_none ?nh1 ?nh2); (case nh2 => assumption); (case nh1 => walk_at "hp"))
  | ((refine' Ne.symm (ne_of_none ?nh1 ?nh2)); (case nh2 => assumption); (case nh1 => walk_at "hp")))
local macro_rules | `(tactic| walk_at "hp") => `(tactic| first
  | assumption
  | exact upd_same
  | ((refine' SqL.of ?hq); (case hq => walk_at "hp"))
  | ((refine' SqT.of ?hq); (case hq => walk_at "hp"))
  | ((refine' (upd_ne ?hne).trans ?hrest); (case hne => walk_at "ne"); (case hrest => walk_at "hp"))
  | ((refine' ly_at ?hex ?hh); (case hex => assumption); (case hh => walk_at "hp"))
  | ((refine' ly_atF ?hex ?hnn ?hh); (case hex => assumption); (case hh => walk_at "hp"); (case hnn => walk_at "ne"))
  | ((refine' ex_t ?hex ?hh); (case hh => assumption); (case hex => walk_at "ex"))
  | ((refine' ex_l ?hex ?hh); (case hh => assumption); (case hex => walk_at "ex")))
local macro_rules | `(tactic| walk_at "ex") => `(tactic| first
  | assumption
  | exact Ex.refl _
  | ((refine' ex_new ?xa ?xb); (case xb => assumption); (case xa => walk_at "ex"))
  | ((refine' ex_upd ?xa ?xb); (case xb => walk_at "free"); (case xa => walk_at "ex"))
  | ((refine' Ex.trans ?xa ?xb); (case xb => assumption); (case xa => walk_at "ex")))
local macro_rules | `(tactic| walk_at "free") => `(tactic| first
  | assumption
  | ((refine' fresh_back ?xa ?xb); (case xb => assumption); (case xa => walk_at "ex")))
local macro_rules | `(tactic| walk_at "fr") => `(tactic| first
  | assumption
  | exact Fr.refl _ _
  | ((refine' Fr.own ?hq); (case hq => walk_at "fr"))
  | ((refine' Fr.new ?xa ?xb); (case xb => assumption); (case xa => walk_at "fr"))
  | ((refine' Fr.mut ?xa ?xb); (case xb => assumption); (case xa => walk_at "fr"))
  | ((refine' Fr.trans ?xa ?xb); (case xb => assumption); (case xa => walk_at "fr"))
  | ((refine' Fr.trans ?xa (Fr.ex ?xb)); (case xb => assumption); (case xa => walk_at "fr")))
local macro_rules | `(tactic| walk_at "go1") => `(tactic| first
  | (with_reducible refine' w_seq ?_)
  | (with_reducible refine' w_asg ?_)
  | (with_reducible refine' w_ret ?_)
  | (with_reducible refine' w_drop ?_)
  | (with_reducible refine' w_if ?_)
  | (with_reducible refine' w_next ?_)
  | (with_reducible refine' w_name ?_)
  | (with_reducible refine' w_sub ?_)
  | ((with_reducible refine' w_var ?hv ?_); (case hv => exact rfl))
  | (with_reducible refine' w_c ?_)
  | (with_reducible refine' w_op ?_)
  | (with_reducible refine' w_un ?_)
  | (with_reducible refine' w_ch ?_)
  | (with_reducible refine' w_I0 ?_)
  | ((with_reducible refine' w_I ?hc ?_); (case hc => first | (exact ly_mulL (by decide) (by decide)) | (exact ly_mulR (by decide) (by decide)) | (exact ly_mulL (by omega) (by omega)) | (show (_ : Int) ≠ 0; decide) | (show (_ : Int) ≠ 0; omega) | (exact ⟨by decide, by decide⟩) | (exact ⟨by omega, by omega⟩)))
  | (with_reducible refine' w_U ?_)
  | ((with_reducible refine' w_eq ?hs ?_); (case hs => exact rfl))
  | ((with_reducible refine' w_ne ?hs ?_); (case hs => exact rfl))
  | (with_reducible refine' w_isB ?_)
  | (with_reducible refine' w_notB ?_)
  | (with_reducible refine' w_nil ?_)
  | (with_reducible refine' w_cons ?_)
  | (with_reducible refine' w_tup ?_)
  | (with_reducible refine' w_lst ?_)
  | (with_reducible refine' w_cb ?_)
  | (with_reducible refine' w_call ?_)
  | (with_reducible refine' w_bm ?_)
  | (with_reducible refine' w_bm0 ?_)
  | ((with_reducible refine' w_app ?hh ?hz ?_); (case hh => walk_at "hp"); (case hz => first | exact ly_lt (by omega) | exact ly_lt (by simp only [List.length_append, List.length_map, List.length_cons, List.length_nil]; omega)))
  | ((with_reducible refine' w_popA ?hh ?_); (case hh => walk_at "hp"))
  | ((with_reducible refine' w_ext ?hh ?hh2 ?hz ?_); (case hh => walk_at "hp"); (case hh2 => walk_at "hp"))
  | ((with_reducible refine' w_ixL ?hh ?ha ?_); (case hh => walk_at "hp"); (case ha => first | exact rfl | exact at_map (by omega) | exact atI_last _ _ | ((refine' at_of ?ae ?ah); (case ah => assumption); (case ae => omega))))
  | ((with_reducible refine' w_ixT ?hh ?ha ?_); (case hh => walk_at "hp"); (case ha => first | exact rfl | exact at_map (by omega) | exact atI_last _ _ | ((refine' at_of ?ae ?ah); (case ah => assumption); (case ae => omega))))
  | ((with_reducible refine' w_cat ?hh ?hh2 ?hz ?_); (case hh => walk_at "hp"); (case hh2 => walk_at "hp"))
  | ((with_reducible refine' w_setL ?hh ?ha ?_); (case hh => walk_at "hp"); (case ha => exact rfl))
  | (with_reducible refine' w_test ?_)
  | (with_reducible refine' w_tB ?_)
  | (with_reducible refine' w_bl ?_)
  | (with_reducible refine' w_and ?_)
  | (with_reducible refine' w_or ?_)
  | (with_reducible refine' w_not ?_)
  | (with_reducible refine' w_andV ?_)
  | (with_reducible refine' w_orV ?_)
  | (with_reducible refine' w_notV ?_)
  | (with_reducible refine' w_ifE ?_)
  | (with_reducible refine' w_for ?_)
  | ((with_reducible refine' w_nin ?hh ?_); (case hh => walk_at "hp"))
  | ((with_reducible refine' w_sorted ?hh ?_); (case hh => walk_at "hp"))
  | (with_reducible refine' w_tsadd ?_)
  | ((with_reducible refine' w_tsadd1 ?hh ?_); (case hh => walk_at "hp"))
  | ((with_reducible refine' w_sadd ?hh ?hr ?_); (case hh => walk_at "hp"); (case hr => omega))
  | (with_reducible refine' w_iZ ?_)
  | ((with_reducible refine' w_iZ1 ?hh ?hh2 ?_); (case hh => walk_at "hp"); (case hh2 => walk_at "hp"))
  | (with_reducible refine' w_iS ?_)
  | (with_reducible refine' w_iS1 ?_)
  | ((with_reducible refine' w_gtup ?hh ?hn ?_); (case hh => walk_at "hp"); (case hn => exact rfl))
  | (with_reducible refine' w_gcons ?_)
  | (with_reducible refine' w_gnil ?_)
  | (with_reducible refine' w_js ?_)
  | (with_reducible refine' w_jsn ?_)
  | ((with_reducible refine' w_js1 ?hl ?_); (case hl => decide +kernel))
  | (with_reducible refine' w_fmt ?_)
  | ((with_reducible refine' w_fmt1 ?hl ?_); (case hl => decide +kernel))
  | (with_reducible refine' w_callS ?_)
  | ((with_reducible refine' w_truL ?hh ?_); (case hh => walk_at "hp"))
  | (with_reducible refine' w_lc ?_)
  | (with_reducible refine' w_yes ?_)
  | ((with_reducible refine' w_wipe ?he ?_); (case he => exact rfl))
  | (with_reducible refine' w_iL ?_)
  | (with_reducible refine' w_iT ?_)
  | (with_reducible refine' w_iR ?_)
  | ((with_reducible refine' w_iL1 ?hh ?_); (case hh => walk_at "hp"))
  | ((with_reducible refine' w_iT1 ?hh ?_); (case hh => walk_at "hp"))
  | ((with_reducible refine' w_iR1 ?h1 ?h2 ?_); (case h1 => omega); (case h2 => omega))
  | ((with_reducible refine' w_aug ?hv ?_); (case hv => exact rfl))
  | (with_reducible refine' w_ipI ?_)
  | ((with_reducible refine' w_isi ?hy ?hk ?_); (case hy => walk_at "ty"); (case hk => walk_at "kit"))
  | ((with_reducible refine' w_int ?_))
  | ((with_reducible refine' w_intB ?_))
  | ((with_reducible refine' w_abs ?_))
  | ((with_reducible refine' w_lenL ?hh ?_); (case hh => walk_at "hp"))
  | ((with_reducible refine' w_lenT ?hh ?_); (case hh => walk_at "hp"))
  | ((with_reducible refine' w_tupL ?hh ?_); (case hh => walk_at "hp"))
  | ((with_reducible refine' w_tupT ?hh ?_); (case hh => walk_at "hp"))
  | ((with_reducible refine' w_catA ?hh ?hh2 ?hz ?_); (case hh => walk_at "hp"); (case hh2 => walk_at "hp"); (case hz => walk_at "len"))
  | ((with_reducible refine' w_repB ?hh ?hne ?h2 ?h3 ?hz ?_); (case hh => walk_at "hp"); (case hne => simp); (case h2 => omega); (case h3 => omega); (case hz => exact Nat.le_of_ble_eq_true rfl))
  | ((with_reducible refine' w_eqN ?hh ?hh2 ?n1 ?n2 ?_); (case hh => walk_at "hp"); (case hh2 => walk_at "hp"); (case n1 => walk_at "nd"); (case n2 => walk_at "nd"))
  | ((with_reducible refine' w_neN ?hh ?hh2 ?n1 ?n2 ?_); (case hh => walk_at "hp"); (case hh2 => walk_at "hp"); (case n1 => walk_at "nd"); (case n2 => walk_at "nd"))
  | ((with_reducible refine' w_eqL ?hh ?hh2 ?n1 ?n2 ?_); (case hh => walk_at "hp"); (case hh2 => walk_at "hp"); (case n1 => walk_at "nd"); (case n2 => walk_at "nd"))
  | ((with_reducible refine' w_neL ?hh ?hh2 ?n1 ?n2 ?_); (case hh => walk_at "hp"); (case hh2 => walk_at "hp"); (case n1 => walk_at "nd"); (case n2 => walk_at "nd"))
  | ((with_reducible refine' w_neNon ?hh2 ?n2 ?_); (case hh2 => walk_at "hp"); (case n2 => walk_at "nd"))
  | ((with_reducible refine' w_eqNon ?hh2 ?n2 ?_); (case hh2 => walk_at "hp"); (case n2 => walk_at "nd"))
  | ((with_reducible refine' w_slA ?hh ?_); (case hh => walk_at "hp"))
  | ((with_reducible refine' w_disp ?hz ?_); (case hz => exact sz_of (Nat.le_of_ble_eq_true rfl)))
  | ((with_reducible refine' w_tyL ?hh ?_); (case hh => walk_at "hp"))
  | (with_reducible refine' iteT ?_)
  | (with_reducible refine' iteF ?_)
  | (with_reducible refine' w_nT ?_)
  | (with_reducible refine' w_nn ?_)
  | (with_reducible refine' w_nnT ?_)
  | (with_reducible refine' w_nnR ?_)
  | (with_reducible refine' w_neG ?_)
  | (with_reducible refine' w_eqG ?_)
  | (with_reducible refine' w_neS ?_)
  | (with_reducible refine' w_eqS ?_)
  | (with_reducible refine' w_neSb ?_)
  | (with_reducible refine' w_eqSb ?_)
  | (with_reducible refine' w_deIS ?_)
  | (with_reducible refine' w_deSI ?_)
  | (with_reducible refine' w_deISn ?_)
  | ((with_reducible refine' w_deST ?he ?_); (case he => decide +kernel))
  | ((with_reducible refine' w_deSF ?he ?_); (case he => decide +kernel))
  | ((with_reducible refine' w_deSTn ?he ?_); (case he => decide +kernel))
  | ((with_reducible refine' w_deSFn ?he ?_); (case he => decide +kernel))
  | (with_reducible refine' w_nF ?_)
  | dsimp only [Bool.not_true, Bool.not_false])
local macro_rules | `(tactic| walk_at "ty") => `(tactic| first
  | exact .base (.int _) | exact .base (.str _) | exact .base (.bl _) | exact .base .non
  | ((refine' tyx_t ?hq); (case hq => walk_at "hp")) | ((refine' tyx_l ?hq); (case hq => walk_at "hp")) | ((refine' .base (.tup ?hq)); (case hq => walk_at "hp")) | assumption)
local macro_rules | `(tactic| walk_at "go") => `(tactic| repeat walk_at "go1")
local macro_rules | `(tactic| walk_at "st") => `(tactic| try dsimp only [cxOf, Cx.nox, Cx.wish])
local macro_rules | `(tactic| walk_at "kit") => `(tactic| with_reducible first | exact kit_int_int | exact kit_int_str | exact kit_int_bool | exact kit_int_tuple | exact kit_int_list | exact kit_str_int | exact kit_str_str | exact kit_str_bool | exact kit_str_tuple | exact kit_str_list | exact kit_bool_int | exact kit_bool_str | exact kit_bool_bool | exact kit_bool_tuple | exact kit_bool_list | exact kit_NoneType_int | exact kit_NoneType_str | exact kit_NoneType_bool | exact kit_NoneType_tuple | exact kit_NoneType_list | exact kit_list_int | exact kit_list_str | exact kit_list_bool | exact kit_list_tuple | exact kit_list_list | exact kit_tuple_int | exact kit_tuple_str | exact kit_tuple_bool | exact kit_tuple_tuple | exact kit_tuple_list)
local macro_rules | `(tactic| walk_at "nd") => `(tactic| first
  | assumption
  | exact Tm.nds _
  | exact Nds.nil
  | exact Nds.ofInts _
  | ((refine' Nds.cons ?na ?nb); (case na => first | exact Nds.I _ | exact Nds.L | exact Nds.A); (case nb => walk_at "nd"))
  | ((refine' Nds.app ?na ?nb); (case na => walk_at "nd"); (case nb => walk_at "nd"))
  | ((refine' Nds.rep ?na _); (case na => walk_at "nd")))
local macro_rules | `(tactic| walk_at "len") => `(tactic| first
  | exact ly_sz (by omega)
  | ((simp only [List.length_append, List.length_cons, List.length_nil, List.length_map, PyProof.Rows.lm_len_rep_flat]); exact ly_sz (by omega)))
local macro_rules | `(tactic| walk_at "go1") => `(tactic| first
  | (with_reducible refine' w_kget2 ?_)
  | (with_reducible refine' w_isRN ?_)
  | (with_reducible refine' w_isNN ?_)
  | (with_reducible refine' w_isIN ?_)
  | ((with_reducible refine' w_kg ?hd ?_); (case hd => assumption)))
local macro_rules | `(tactic| walk_at "go1") => `(tactic| first
  | ((with_reducible refine' w_extT ?hh ?hh2 ?hz ?_); (case hh => walk_at "hp"); (case hh2 => walk_at "hp"))
  | ((with_reducible refine' w_I ?hc ?_); (case hc => exact ⟨by decide, by decide, by decide⟩))
  | (with_reducible refine' w_sl ?_)
  | (with_reducible refine' w_noP ?_)
  | (with_reducible refine' w_part ?_)
  | (with_reducible refine' w_part1 ?_)
  | (with_reducible refine' w_it ?_)
  | (with_reducible refine' w_it1 ?_)
  | ((with_reducible refine' w_lenZ ?hz ?_); (case hz => omega))
  | ((with_reducible refine' w_addZb ?hz ?_); (case hz => omega))
  | ((with_reducible refine' w_addZf ?hz ?_); (case hz => omega))
  | ((with_reducible refine' w_addZa ?hz ?_); (case hz => omega))
  | ((with_reducible refine' w_inS ?hh ?_); (case hh => walk_at "hp"))
  | ((with_reducible refine' w_ixT ?hh ?ha ?_); (case hh => assumption); (case ha => exact atI_nat (by assumption))))
local macro_rules | `(tactic| walk_at "go1") => `(tactic| first
  | (with_reducible refine' w_iR2 ?_)
  | ((with_reducible refine' w_iR21 ?h1 ?h2 ?h3 ?h4 ?_); (case h1 => omega); (case h2 => omega); (case h3 => omega); (case h4 => omega))
  | (with_reducible refine' w_nnI ?_)
  | (with_reducible refine' w_max ?_)
  | (with_reducible refine' w_break ?_)
  | (with_reducible refine' w_cont ?_))
local macro_rules | `(tactic| walk_at "go1") => `(tactic| first
  | (with_reducible refine' w_tdget ?_)
  | (with_reducible refine' w_tdin ?_)
  | (with_reducible refine' w_tdnotin ?_)
  | (with_reducible refine' w_sdput ?_)
  | (with_reducible refine' w_tdsetd ?_)
  | (with_reducible refine' w_dnew ?_))
local macro_rules | `(tactic| walk_at "go1") => `(tactic| first
  | (with_reducible refine' w_iZL ?_)
  | (with_reducible refine' w_sfld ?_)
  | (with_reducible refine' w_tfld ?_)
  | (with_reducible refine' w_make ?_)
  | fail)
local macro_rules | `(tactic| walk_at "go1") => `(tactic| first
  | (with_reducible refine' w_sfa ?_)
  | (with_reducible refine' w_tmP ?_)
  | (with_reducible refine' w_tdget2 ?_))
section
variable {P : Program} {w : World} {K : PySem.W.Frag} {mg : Str → Option Value} {base : Heap} {tk : Nat → Tok} {cl : Nat → Addr}
theorem readT_nil (fs : List Str) (n : Nat) (l : Lv) (r : List Lv) (i : Nat) : readT fs n l r i [] = .ok (l, r) := by cases n <;> rfl
theorem cutS_mid (p : List Nat) (i k : Nat) (h : i + k ≤ p.length) : cutS (pl p) (some (i : Int)) (some ((i + k : Nat) : Int)) = pl ((p.drop i).take k) := by
  unfold cutS
  rw [HT.sIx_nat, HT.sIx_nat, pl_len]
  show pl ((p.drop (min i p.length)).take (min (i + k) p.length - min i p.length)) = _
  rw [Nat.min_eq_left (show i ≤ p.length by omega), Nat.min_eq_left h, Nat.add_sub_cancel_left]
theorem tokL_le {cs : List Nat} {k : Nat} (h : tokL cs = .inl k) : 0 < k ∧ k ≤ cs.length := by
  cases cs with
  | nil => cases h
  | cons c r =>
    rw [tokL_cons] at h
    have hle := tw_le (p := isDig) r
    split at h
    · split at h
      · cases h
      · cases h
        simp
        omega
    · split at h
      · cases h
        simp
      · cases h
def spParse (K : PySem.W.Frag) (C : Addr) : Sp := fun vs H Q E => ∃ (cs : List Nat) (p : Addr) (fs : List Str) (xs : List V), vs = [.str (pl cs), .ref p] ∧ H p = some (.lst (txts fs)) ∧ cs.length ≤ 50000 ∧ fs.length ≤ 1000 ∧ parseT fs cs = .ok xs ∧ Flat xs ∧
  (fitsV xs = true → ∀ H' q, Ex H H' → SqT K H' q xs → Q (.ref q) H') ∧ (fitsV xs = false → ∀ H', Ex H H' → E (.ref C) none H')
theorem ok_parse {f : Addr} {fd : FuncData} (F : Fun K "parse" "parse" s_parse f fd) (T : Txt w K mg tk cl)
    (D1 : DefC P w K mg base CX0 3 (cl 22) ["self", "names"] (spRdInit (cl 22) (cl 21))) (D2 : Def P w K mg base CX0 2 "token_end" ["text", "start"] spTokEnd)
    (M_Reader_read : C8.Met P w K mg base 5 (cl 22) "read" (spRdRead (cl 22) (cl 21)) []) (M_Reader_finish : C8.Met P w K mg base 4 (cl 22) "finish" (spRdFin (cl 22) (cl 21)) [])
    (D5 : Def P w K mg base (L2.CX P w) 2 "checked" ["term"] (spChecked K (cl 1))) : FnOk P w K mg base (L2.CX P w) 6 f fd ["text", "names"] (spParse K (cl 1)) := by
  obtain ⟨f1, fd1, M_Reader, b_Reader_init, G_Reader_init⟩ := D1
  obtain ⟨f2, fd2, g_token_end, kp_token_end, b_token_end, G_token_end⟩ := D2
  obtain ⟨f5, fd5, g_checked, kp_checked, b_checked, G_checked⟩ := D5
  refine F.okX sc_parse (fun vs H Q E h => ?_) (fun cdv A outer s H vs Q E hr h => ?_)
  · obtain ⟨_, _, _, _, rfl, _⟩ := h
    rfl
  · obtain ⟨cs, p, fs, xs, rfl, hp, hz, hfz, hpar, hfl, q, xq⟩ := h
    refine ⟨_, (pss_cons (ps_set (i := 2) sc_parse.nd rfl (.inl rfl) (pe_make M_Reader G_Reader_init (hr.mono (by first | decide | omega)) (by rfl) T.g_Reader b_Reader_init .nil pass0 (pa_cons (pv 1) pa_nil))) (pss_cons (ps_set (i := 3) sc_parse.nd rfl (.inl rfl) pe_int) (pss_cons (ps_while (passes_of rfl) (pt_cmpR op_lt (pv 3) (pe_callB call_lenZ (by rfl) T.n_len (by decide +kernel) (pa_cons (pv 0) pa_nil)) (nomark _)) (pss_one (ps_if (pt_cmpR op_eq (pe_ix ix_str (pv 0) (pv 3) (fun _ _ => rfl)) pe_str (nomark _)) (pss_one (ps_aug (i := 3) sc_parse.nd rfl (.inl rfl) pe_int ip_add)) (pss_cons (ps_set (i := 4) sc_parse.nd rfl (.inl rfl) (pe_call G_token_end (hr.mono (by first | decide | omega)) (by rfl) g_token_end kp_token_end b_token_end .nil pass0 (pa_cons (pv 0) (pa_cons (pv 3) pa_nil)))) (pss_cons (ps_expr (C8.pe_mt M_Reader_read hr (by first | decide | omega) (pv 2) (pa_cons (pe_slice sl_str (pv 0) (po_some (pv 3)) (po_some (pv 4))) (pa_cons (pv 3) pa_nil)))) (pss_one (ps_set (i := 3) sc_parse.nd rfl (.inl rfl) (pv 4)))))))) (pss_one (ps_ret (pe_call G_checked (hr.mono (by first | decide | omega)) (by rfl) g_checked kp_checked b_checked .nil (passes_call (takes_of rfl rfl rfl rfl) (fun _ _ _ _ h => h)) (pa_cons (pe_callTy call_tuple_of (by rfl) T.n_tuple (by decide +kernel) (pa_cons (C8.pe_mt M_Reader_finish hr (by first | decide | omega) (pv 2) (pa_cons (pe_callB call_lenZ (by rfl) T.n_len (by decide +kernel) (pa_cons (pv 0) pa_nil)) pa_nil)) pa_nil)) pa_nil))))))), ?_⟩
    refine sl_of (σ2 := [some _, some _, none, none, none]) rfl ?_
    obtain ⟨l0, r0, hread, hfin⟩ : ∃ l0 r0, readT fs cs.length (Lv.new "") [] 0 cs = .ok (l0, r0) ∧ finT l0 r0 = some xs := by
      unfold parseT at hpar
      split at hpar
      · cases hpar
      · rename_i l r e
        split at hpar
        · cases hpar
        · rename_i ys e2
          cases hpar
          exact ⟨l, r, e, e2⟩
    walk_at "st"
    walk_at "go"
    intro x dx hx hdx hne
    have ow1 := (Own.nil (Ex.refl H)).new (u := .own x) hdx
    have ow2 := (ow1.new (a := x) (u := .ins (cl 22) dx []) (by rw [upd_ne hne.symm]; exact hx)).sub (G := [(x, .ins (cl 22) dx [])]) (List.Sublist.cons_cons _ (List.nil_sublist _))
    refine ⟨x, dx, p, fs, H, rfl, ow2, hp, by omega, fun H1 h1 => ⟨rfl, ?_⟩⟩
    walk_at "go"
    refine w_while (fun m σ H' => ∃ (i n : Nat) (l : Lv) (r : List Lv) (y : Option V), σ = [some (.str (pl cs)), some (.ref p), some (.ref x), some (.int (i : Int)), y] ∧ RdAt (cl 22) (cl 21) H H' x fs i l r ∧ i ≤ cs.length ∧ cs.length - i ≤ n ∧ readT fs n l r i (cs.drop i) = .ok (l0, r0) ∧ m = cs.length - i) cs.length ⟨0, cs.length, _, _, none, rfl, h1, Nat.zero_le _, Nat.le_refl _, by rw [List.drop_zero]; exact hread, rfl⟩ ?_
    rintro m σ H2 ⟨i, n, l, r, y, rfl, h2, hi, hn, hrd, rfl⟩
    walk_at "go"
    refine w_br (fun hlt => ?_) (fun hlt => ?_)
    · have hlt : i < cs.length := by omega
      have hc : cs[i]? = some cs[i] := List.getElem?_eq_getElem hlt
      have hd : cs.drop i = cs[i] :: cs.drop (i + 1) := List.drop_eq_getElem_cons hlt
      generalize cs[i] = c at *
      obtain ⟨n, rfl⟩ : ∃ n', n = n' + 1 := ⟨n - 1, by omega⟩
      rw [hd, readT] at hrd
      refine ⟨fun σ' H' => ∃ (i2 n : Nat) (l : Lv) (r : List Lv) (y : Option V), σ' = [some (.str (pl cs)), some (.ref p), some (.ref x), some (.int (i2 : Int)), y] ∧ RdAt (cl 22) (cl 21) H H' x fs i2 l r ∧ i < i2 ∧ i2 ≤ cs.length ∧ cs.length - i2 ≤ n ∧ readT fs n l r i2 (cs.drop i2) = .ok (l0, r0), fun σ' H' ⟨i2, n, l, r, y, a1, a2, a3, a4, a5, a6⟩ => ⟨cs.length - i2, by omega, i2, n, l, r, y, a1, a2, a4, a5, a6, rfl⟩, ?_⟩
      walk_at "go"
      refine w_ixPl (p := cs) (by omega) hc ?_
      walk_at "go"
      by_cases hs : c = 32
      · rw [if_pos hs] at hrd
        have e : decide (V.str (pl [c]) = V.str " ") = true := by
          rw [hs]
          decide +kernel
        rw [e]
        walk_at "go"
        refine ⟨i + 1, n, l, r, y, by rw [show ((i : Int) + 1) = ((i + 1 : Nat) : Int) from rfl]; rfl, h2.more (Nat.le_succ _), Nat.lt_succ_self _, hlt, by omega, hrd⟩
      · rw [if_neg hs] at hrd
        have e : decide (V.str (pl [c]) = V.str " ") = false := by
          apply decide_eq_false
          intro z
          have z2 := V.str.inj z
          rw [show (" " : Str) = pl [32] by decide +kernel] at z2
          have := pl_inj z2
          simp at this
          exact hs this
        rw [e]
        cases ht : tokL (c :: cs.drop (i + 1)) with
        | inr k =>
          rw [ht] at hrd
          cases hrd
        | inl k =>
          rw [ht] at hrd
          simp only at hrd
          obtain ⟨k0, k1⟩ := tokL_le ht
          have hk : i + k ≤ cs.length := by
            rw [← hd, List.length_drop] at k1
            omega
          walk_at "go"
          refine ⟨cs, i, k, rfl, by omega, by rw [hd]; exact ht, ?_⟩
          walk_at "go"
          obtain ⟨dx2, _, _, _, _, _, _, _, _, _, hx2, -, -, -, -, -⟩ := h2.top
          refine ⟨x, dx2, _, rfl, hx2, rfl, ?_⟩
          walk_at "go"
          refine w_slS (by omega) ?_
          rw [cutS_mid cs i k hk, hd]
          walk_at "go"
          cases hst : stepT fs l r (⟨((c :: cs.drop (i + 1)).take k).toArray⟩) with
          | none =>
            rw [hst] at hrd
            cases hrd
          | some lr =>
            obtain ⟨l2, r2⟩ := lr
            rw [hst] at hrd
            simp only at hrd
            refine ⟨x, _, _, H, fs, i, l, l2, r, r2, rfl, h2, by omega, hst, fun H3 h3 => ?_⟩
            walk_at "go"
            refine ⟨i + k, n, l2, r2, _, rfl, h3.more (by omega), by omega, hk, by omega, ?_⟩
            rw [← hrd, ← hd, List.drop_drop]
    · have hie : i = cs.length := by omega
      subst hie
      rw [List.drop_length, readT_nil] at hrd
      cases hrd
      obtain ⟨dx2, _, _, _, _, _, _, _, _, _, hx2, -, -, -, -, -⟩ := h2.top
      walk_at "go"
      refine ⟨x, dx2, _, rfl, hx2, rfl, ?_⟩
      walk_at "go"
      refine ⟨x, _, H, fs, _, l0, r0, xs, rfl, h2, by omega, hfin, fun H3 pp e3 hp3 => ?_⟩
      walk_at "go"
      intro p4 hp4
      walk_at "go"
      have hS : SqT K (upd H3 p4 (.tup xs)) p4 xs := SqT.of upd_same
      have e4 := e3.trans (Ex.new hp4 (o := .tup xs))
      exact ⟨p4, xs, rfl, hS, hfl, fun h => q h _ p4 e4 hS, fun h => xq h _ e4⟩
end
end Ly
set_option Elab.async false
set_option linter.all false
set_option maxRecDepth 100000
set_option maxHeartbeats 8000000
namespace Ly
open PySem PySem.Spec PyProof.Rows L2 Evl
local macro_rules | `(tactic| walk_at "ne") => `(tactic| first
  | assumption
  | ((refine' Ne.symm ?hq); (case hq => assumption))
  | ((refine' ne_of_none ?nh1 ?nh2); (case nh2 => assumption); (case nh1 => walk_at "hp"))
  | ((refine' Ne.symm (ne_of_none ?nh1 ?nh2)); (case nh2 => assumption); (case nh1 => walk_at "hp")))
local macro_rules | `(tactic| walk_at "hp") => `(tactic| first
  | assumption
  | exact upd_same
  | ((refine' SqL.of ?hq); (case hq => walk_at "hp"))
  | ((refine' SqT.of ?hq); (case hq => walk_at "hp"))
  | ((refine' (upd_ne ?hne).trans ?hrest); (case hne => walk_at "ne"); (case hrest => walk_at "hp"))
  | ((refine' ly_at ?hex ?hh); (case hex => assumption); (case hh => walk_at "hp"))
  | ((refine' ly_atF ?hex ?hnn ?hh); (case hex => assumption); (case hh => walk_at "hp"); (case hnn => walk_at "ne"))
  | ((refine' ex_t ?hex ?hh); (case hh => assumption); (case hex => walk_at "ex"))
  | ((refine' ex_l ?hex ?hh); (case hh => assumption); (case hex => walk_at "ex")))
local macro_rules | `(tactic| walk_at "ex") => `(tactic| first
  | assumption
  | exact Ex.refl _
  | ((refine' ex_new ?xa ?xb); (case xb => assumption); (case xa => walk_at "ex"))
  | ((refine' ex_upd ?xa ?xb); (case xb => walk_at "free"); (case xa => walk_at "ex"))
  | ((refine' Ex.trans ?xa ?xb); (case xb => assumption); (case xa => walk_at "ex")))
local macro_rules | `(tactic| walk_at "free") => `(tactic| first
  | assumption
  | ((refine' fresh_back ?xa ?xb); (case xb => assumption); (case xa => walk_at "ex")))
local macro_rules | `(tactic| walk_at "fr") => `(tactic| first
  | assumption
  | exact Fr.refl _ _
  | ((refine' Fr.own ?hq); (case hq => walk_at "fr"))
  | ((refine' Fr.new ?xa ?xb); (case xb => assumption); (case xa => walk_at "fr"))
  | ((refine' Fr.mut ?xa ?xb); (case xb => assumption); (case xa => walk_at "fr"))
  | ((refine' Fr.trans ?xa ?xb); (case xb => assumption); (case xa => walk_at "fr"))
  | ((refine' Fr.trans ?xa (Fr.ex ?xb)); (case xb => assumption); (case xa => walk_at "fr")))
local macro_rules | `(tactic| walk_at "go1") => `(tactic| first
  | (with_reducible refine' w_seq ?_)
  | (with_reducible refine' w_asg ?_)
  | (with_reducible refine' w_ret ?_)
  | (with_reducible refine' w_drop ?_)
  | (with_reducible refine' w_if ?_)
  | (with_reducible refine' w_next ?_)
  | (with_reducible refine' w_name ?_)
  | (with_reducible refine' w_sub ?_)
  | ((with_reducible refine' w_var ?hv ?_); (case hv => exact rfl))
  | (with_reducible refine' w_c ?_)
  | (with_reducible refine' w_op ?_)
  | (with_reducible refine' w_un ?_)
  | (with_reducible refine' w_ch ?_)
  | (with_reducible refine' w_I0 ?_)
  | ((with_reducible refine' w_I ?hc ?_); (case hc => first | (exact ly_mulL (by decide) (by decide)) | (exact ly_mulR (by decide) (by decide)) | (exact ly_mulL (by omega) (by omega)) | (show (_ : Int) ≠ 0; decide) | (show (_ : Int) ≠ 0; omega) | (exact ⟨by decide, by decide⟩) | (exact ⟨by omega, by omega⟩)))
  | (with_reducible refine' w_U ?_)
  | ((with_reducible refine' w_eq ?hs ?_); (case hs => exact rfl))
  | ((with_reducible refine' w_ne ?hs ?_); (case hs => exact rfl))
  | (with_reducible refine' w_isB ?_)
  | (with_reducible refine' w_notB ?_)
  | (with_reducible refine' w_nil ?_)
  | (with_reducible refine' w_cons ?_)
  | (with_reducible refine' w_tup ?_)
  | (with_reducible refine' w_lst ?_)
  | (with_reducible refine' w_cb ?_)
  | (with_reducible refine' w_call ?_)
  | (with_reducible refine' w_bm ?_)
  | (with_reducible refine' w_bm0 ?_)
  | ((with_reducible refine' w_app ?hh ?hz ?_); (case hh => walk_at "hp"); (case hz => first | exact ly_lt (by omega) | exact ly_lt (by simp only [List.length_append, List.length_map, List.length_cons, List.length_nil]; omega)))
  | ((with_reducible refine' w_popA ?hh ?_); (case hh => walk_at "hp"))
  | ((with_reducible refine' w_ext ?hh ?hh2 ?hz ?_); (case hh => walk_at "hp"); (case hh2 => walk_at "hp"))
  | ((with_reducible refine' w_ixL ?hh ?ha ?_); (case hh => walk_at "hp"); (case ha => first | exact rfl | exact at_map (by omega) | exact atI_last _ _ | ((refine' at_of ?ae ?ah); (case ah => assumption); (case ae => omega))))
  | ((with_reducible refine' w_ixT ?hh ?ha ?_); (case hh => walk_at "hp"); (case ha => first | exact rfl | exact at_map (by omega) | exact atI_last _ _ | ((refine' at_of ?ae ?ah); (case ah => assumption); (case ae => omega))))
  | ((with_reducible refine' w_cat ?hh ?hh2 ?hz ?_); (case hh => walk_at "hp"); (case hh2 => walk_at "hp"))
  | ((with_reducible refine' w_setL ?hh ?ha ?_); (case hh => walk_at "hp"); (case ha => exact rfl))
  | (with_reducible refine' w_test ?_)
  | (with_reducible refine' w_tB ?_)
  | (with_reducible refine' w_bl ?_)
  | (with_reducible refine' w_and ?_)
  | (with_reducible refine' w_or ?_)
  | (with_reducible refine' w_not ?_)
  | (with_reducible refine' w_andV ?_)
  | (with_reducible refine' w_orV ?_)
  | (with_reducible refine' w_notV ?_)
  | (with_reducible refine' w_ifE ?_)
  | (with_reducible refine' w_for ?_)
  | ((with_reducible refine' w_nin ?hh ?_); (case hh => walk_at "hp"))
  | ((with_reducible refine' w_sorted ?hh ?_); (case hh => walk_at "hp"))
  | (with_reducible refine' w_tsadd ?_)
  | ((with_reducible refine' w_tsadd1 ?hh ?_); (case hh => walk_at "hp"))
  | ((with_reducible refine' w_sadd ?hh ?hr ?_); (case hh => walk_at "hp"); (case hr => omega))
  | (with_reducible refine' w_iZ ?_)
  | ((with_reducible refine' w_iZ1 ?hh ?hh2 ?_); (case hh => walk_at "hp"); (case hh2 => walk_at "hp"))
  | (with_reducible refine' w_iS ?_)
  | (with_reducible refine' w_iS1 ?_)
  | ((with_reducible refine' w_gtup ?hh ?hn ?_); (case hh => walk_at "hp"); (case hn => exact rfl))
  | (with_reducible refine' w_gcons ?_)
  | (with_reducible refine' w_gnil ?_)
  | (with_reducible refine' w_js ?_)
  | (with_reducible refine' w_jsn ?_)
  | ((with_reducible refine' w_js1 ?hl ?_); (case hl => decide +kernel))
  | (with_reducible refine' w_fmt ?_)
  | ((with_reducible refine' w_fmt1 ?hl ?_); (case hl => decide +kernel))
  | (with_reducible refine' w_callS ?_)
  | ((with_reducible refine' w_truL ?hh ?_); (case hh => walk_at "hp"))
  | (with_reducible refine' w_lc ?_)
  | (with_reducible refine' w_yes ?_)
  | ((with_reducible refine' w_wipe ?he ?_); (case he => exact rfl))
  | (with_reducible refine' w_iL ?_)
  | (with_reducible refine' w_iT ?_)
  | (with_reducible refine' w_iR ?_)
  | ((with_reducible refine' w_iL1 ?hh ?_); (case hh => walk_at "hp"))
  | ((with_reducible refine' w_iT1 ?hh ?_); (case hh => walk_at "hp"))
  | ((with_reducible refine' w_iR1 ?h1 ?h2 ?_); (case h1 => omega); (case h2 => omega))
  | ((with_reducible refine' w_aug ?hv ?_); (case hv => exact rfl))
  | (with_reducible refine' w_ipI ?_)
  | ((with_reducible refine' w_isi ?hy ?hk ?_); (case hy => walk_at "ty"); (case hk => walk_at "kit"))
  | ((with_reducible refine' w_int ?_))
  | ((with_reducible refine' w_intB ?_))
  | ((with_reducible refine' w_abs ?_))
  | ((with_reducible refine' w_lenL ?hh ?_); (case hh => walk_at "hp"))
  | ((with_reducible refine' w_lenT ?hh ?_); (case hh => walk_at "hp"))
  | ((with_reducible refine' w_tupL ?hh ?_); (case hh => walk_at "hp"))
  | ((with_reducible refine' w_tupT ?hh ?_); (case hh => walk_at "hp"))
  | ((with_reducible refine' w_catA ?hh ?hh2 ?hz ?_); (case hh => walk_at "hp"); (case hh2 => walk_at "hp"); (case hz => walk_at "len"))
  | ((with_reducible refine' w_repB ?hh ?hne ?h2 ?h3 ?hz ?_); (case hh => walk_at "hp"); (case hne => simp); (case h2 => omega); (case h3 => omega); (case hz => exact Nat.le_of_ble_eq_true rfl))
  | ((with_reducible refine' w_eqN ?hh ?hh2 ?n1 ?n2 ?_); (case hh => walk_at "hp"); (case hh2 => walk_at "hp"); (case n1 => walk_at "nd"); (case n2 => walk_at "nd"))
  | ((with_reducible refine' w_neN ?hh ?hh2 ?n1 ?n2 ?_); (case hh => walk_at "hp"); (case hh2 => walk_at "hp"); (case n1 => walk_at "nd"); (case n2 => walk_at "nd"))
  | ((with_reducible refine' w_eqL ?hh ?hh2 ?n1 ?n2 ?_); (case hh => walk_at "hp"); (case hh2 => walk_at "hp"); (case n1 => walk_at "nd"); (case n2 => walk_at "nd"))
  | ((with_reducible refine' w_neL ?hh ?hh2 ?n1 ?n2 ?_); (case hh => walk_at "hp"); (case hh2 => walk_at "hp"); (case n1 => walk_at "nd"); (case n2 => walk_at "nd"))
  | ((with_reducible refine' w_neNon ?hh2 ?n2 ?_); (case hh2 => walk_at "hp"); (case n2 => walk_at "nd"))
  | ((with_reducible refine' w_eqNon ?hh2 ?n2 ?_); (case hh2 => walk_at "hp"); (case n2 => walk_at "nd"))
  | ((with_reducible refine' w_slA ?hh ?_); (case hh => walk_at "hp"))
  | ((with_reducible refine' w_disp ?hz ?_); (case hz => exact sz_of (Nat.le_of_ble_eq_true rfl)))
  | ((with_reducible refine' w_tyL ?hh ?_); (case hh => walk_at "hp"))
  | (with_reducible refine' iteT ?_)
  | (with_reducible refine' iteF ?_)
  | (with_reducible refine' w_nT ?_)
  | (with_reducible refine' w_nn ?_)
  | (with_reducible refine' w_nnT ?_)
  | (with_reducible refine' w_nnR ?_)
  | (with_reducible refine' w_neG ?_)
  | (with_reducible refine' w_eqG ?_)
  | (with_reducible refine' w_neS ?_)
  | (with_reducible refine' w_eqS ?_)
  | (with_reducible refine' w_neSb ?_)
  | (with_reducible refine' w_eqSb ?_)
  | (with_reducible refine' w_deIS ?_)
  | (with_reducible refine' w_deSI ?_)
  | (with_reducible refine' w_deISn ?_)
  | ((with_reducible refine' w_deST ?he ?_); (case he => decide +kernel))
  | ((with_reducible refine' w_deSF ?he ?_); (case he => decide +kernel))
  | ((with_reducible refine' w_deSTn ?he ?_); (case he => decide +kernel))
  | ((with_reducible refine' w_deSFn ?he ?_); (case he => decide +kernel))
  | (with_reducible refine' w_nF ?_)
  | dsimp only [Bool.not_true, Bool.not_false])
local macro_rules | `(tactic| walk_at "ty") => `(tactic| first
  | exact .base (.int _) | exact .base (.str _) | exact .base (.bl _) | exact .base .non
  | ((refine' tyx_t ?hq); (case hq => walk_at "hp")) | ((refine' tyx_l ?hq); (case hq => walk_at "hp")) | ((refine' .base (.tup ?hq)); (case hq => walk_at "hp")) | assumption)
local macro_rules | `(tactic| walk_at "go") => `(tactic| repeat walk_at "go1")
local macro_rules | `(tactic| walk_at "st") => `(tactic| try dsimp only [cxOf, Cx.nox, Cx.wish])
local macro_rules | `(tactic| walk_at "kit") => `(tactic| with_reducible first | exact kit_int_int | exact kit_int_str | exact kit_int_bool | exact kit_int_tuple | exact kit_int_list | exact kit_str_int | exact kit_str_str | exact kit_str_bool | exact kit_str_tuple | exact kit_str_list | exact kit_bool_int | exact kit_bool_str | exact kit_bool_bool | exact kit_bool_tuple | exact kit_bool_list | exact kit_NoneType_int | exact kit_NoneType_str | exact kit_NoneType_bool | exact kit_NoneType_tuple | exact kit_NoneType_list | exact kit_list_int | exact kit_list_str | exact kit_list_bool | exact kit_list_tuple | exact kit_list_list | exact kit_tuple_int | exact kit_tuple_str | exact kit_tuple_bool | exact kit_tuple_tuple | exact kit_tuple_list)
local macro_rules | `(tactic| walk_at "nd") => `(tactic| first
  | assumption
  | exact Tm.nds _
  | exact Nds.nil
  | exact Nds.ofInts _
  | ((refine' Nds.cons ?na ?nb); (case na => first | exact Nds.I _ | exact Nds.L | exact Nds.A); (case nb => walk_at "nd"))
  | ((refine' Nds.app ?na ?nb); (case na => walk_at "nd"); (case nb => walk_at "nd"))
  | ((refine' Nds.rep ?na _); (case na => walk_at "nd")))
local macro_rules | `(tactic| walk_at "len") => `(tactic| first
  | exact ly_sz (by omega)
  | ((simp only [List.length_append, List.length_cons, List.length_nil, List.length_map, PyProof.Rows.lm_len_rep_flat]); exact ly_sz (by omega)))
local macro_rules | `(tactic| walk_at "go1") => `(tactic| first
  | (with_reducible refine' w_kget2 ?_)
  | (with_reducible refine' w_isRN ?_)
  | (with_reducible refine' w_isNN ?_)
  | (with_reducible refine' w_isIN ?_)
  | ((with_reducible refine' w_kg ?hd ?_); (case hd => assumption)))
section
variable {P : Program} {w : World} {K : PySem.W.Frag} {mg : Str → Option Value} {base : Heap} {tk : Nat → Tok} {cl : Nat → Addr}
/-! ### is_number, is_node, part_count, is_written -/
def spNumber : Sp := fun vs H Q _ => ∃ (v : V) (m : Int), vs = [v, .int m] ∧ Kd H v ∧ Q (.bl (numV m v)) H
theorem ok_is_number {f : Addr} {fd : FuncData} {k : Nat} (F : Fun K "is_number" "is_number" s_is_number f fd) (T : Txt w K mg tk cl) : FnOk P w K mg base CX0 (k + 1) f fd ["value", "most"] spNumber := by
  refine F.ok sc_is_number (fun vs H Q E h => ?_) (fun cdv A outer s H vs Q E hr h => ?_)
  · obtain ⟨v, m, rfl, _⟩ := h
    rfl
  · obtain ⟨v, m, rfl, hk, q⟩ := h
    refine ⟨_, (pss_cons (ps_if (PW.pt (pw_or (pt_val (pe_callB call_isi (by rfl) T.n_isinstance (by decide +kernel) (pa_cons (pv 0) (pa_cons (pe_bltn (v := .ty "bool") (by rfl) T.n_bool (by decide +kernel) rfl) pa_nil)))) (pw_or1 (pt_not (pt_val (pe_callB call_isi (by rfl) T.n_isinstance (by decide +kernel) (pa_cons (pv 0) (pa_cons (pe_bltn (v := .ty "int") (by rfl) T.n_int (by decide +kernel) rfl) pa_nil)))))))) (pss_one (ps_ret pe_bl)) pss_nil) (pss_one (ps_ret (pe_chain op_le op_le pe_int (pv 0) (pv 1))))), ?_⟩
    refine sl_of (σ2 := [some _, some _]) rfl ?_
    walk_at "st"
    cases hk with
    | int i =>
      walk_at "go"
      refine w_br (fun h1 => ?_) (fun h1 => ?_)
      · walk_at "go"
        exact qeq q (by simp [numV, h1])
      · exact qeq q (by simp [numV, h1])
    | str x => walk_at "go"; exact q
    | bl b => walk_at "go"; exact q
    | non => walk_at "go"; exact q
    | lst h => walk_at "go"; exact q
    | tup h => walk_at "go"; exact q
def spNodeW (K : PySem.W.Frag) : Sp := fun vs H Q _ => ∃ (v : V) (b : Addr) (ws : List Str), vs = [v, .ref b] ∧ Kd H v ∧ SqT K H b (ws.map V.str) ∧ Q (.bl (nodeW ws v)) H
theorem ok_is_node {f : Addr} {fd : FuncData} (F : Fun K "is_node" "is_node" s_is_node f fd) (T : Txt w K mg tk cl)
    (D1 : Def P w K mg base CX0 1 "is_number" ["value", "most"] spNumber) : FnOk P w K mg base CX0 2 f fd ["value", "words"] (spNodeW K) := by
  obtain ⟨f1, fd1, g_is_number, kp_is_number, b_is_number, G_is_number⟩ := D1
  refine F.ok sc_is_node (fun vs H Q E h => ?_) (fun cdv A outer s H vs Q E hr h => ?_)
  · obtain ⟨v, b, ws, rfl, _⟩ := h
    rfl
  · obtain ⟨v, b, ws, rfl, hk, hb, q⟩ := h
    refine ⟨_, (pss_cons (ps_if (pt_val (pe_callB call_isi (by rfl) T.n_isinstance (by decide +kernel) (pa_cons (pv 0) (pa_cons (pe_bltn (v := .ty "str") (by rfl) T.n_str (by decide +kernel) rfl) pa_nil)))) (pss_one (ps_ret (pe_cmpR op_in_seq (pv 0) (pv 1) (by rfl)))) pss_nil) (pss_one (ps_ret (pe_call G_is_number (hr.mono (by first | decide | omega)) (by rfl) g_is_number kp_is_number b_is_number .nil pass0 (pa_cons (pv 0) (pa_cons (pe_glob (v := .int 1000000) rfl T.g_MOST_VARIABLE ⟨_, rfl⟩) pa_nil)))))), ?_⟩
    refine sl_of (σ2 := [some _, some _]) rfl ?_
    walk_at "st"
    cases hk with
    | int i =>
      walk_at "go"
      exact ⟨_, _, rfl, .int i, q⟩
    | str x =>
      walk_at "go"
      exact w_inW hb q
    | bl c =>
      walk_at "go"
      exact ⟨_, _, rfl, .bl c, q⟩
    | non =>
      walk_at "go"
      exact ⟨_, _, rfl, .non, q⟩
    | lst h =>
      walk_at "go"
      exact ⟨_, _, rfl, .lst h, q⟩
    | tup h =>
      walk_at "go"
      exact ⟨_, _, rfl, .tup h, q⟩
def spCountD : Sp := fun vs H Q _ => ∃ v, vs = [v] ∧ (∃ k, v = kV k) ∧ Q (.int (pcD v)) H
theorem ok_part_countD {f : Addr} {fd : FuncData} {k : Nat} (F : Fun K "part_count" "part_count" s_part_count f fd) (T : Txt w K mg tk cl) : FnOk P w K mg base CX0 (k + 1) f fd ["node"] spCountD := by
  refine F.ok sc_part_count (fun vs H Q E h => ?_) (fun cdv A outer s H vs Q E hr h => ?_)
  · obtain ⟨v, rfl, _⟩ := h
    rfl
  · obtain ⟨v, rfl, h, q⟩ := h
    refine ⟨_, (pss_one (ps_ret (pe_kget2 (pe_glob (v := .ref (cl 40)) (by rfl) T.g_PART_COUNTS (by rfl)) (pv 0) pe_int ⟨by rfl, by rfl, by rfl, by rfl⟩))), ?_⟩
    refine sl_of (σ2 := [some _]) rfl ?_
    walk_at "st"
    have hd := T.d_PART_COUNTS
    walk_at "go"
    exact ⟨h, q_eq q (pcD_get h)⟩
def spWritten (K : PySem.W.Frag) : Sp := fun vs H Q _ => ∃ (v : V) (wb : Addr) (ws : List Str), vs = [v, .ref wb] ∧ SqT K H wb (ws.map V.str) ∧ ((∃ a xs, v = .ref a ∧ SqT K H a xs ∧ xs.length ≤ 100000 ∧ (∀ x ∈ xs, Kd H x) ∧ Q (.bl (isW ws xs)) H) ∨ (∃ n b, TyX K H v (.type n) ∧ PySem.W.kitOne K (.type n) (.type "tuple") = some b ∧ b = false ∧ Q (.bl false) H))
theorem ok_is_written {f : Addr} {fd : FuncData} (F : Fun K "is_written" "is_written" s_is_written f fd) (T : Txt w K mg tk cl)
    (D1 : Def P w K mg base CX0 2 "is_node" ["value", "words"] (spNodeW K)) (D2 : Def P w K mg base CX0 1 "part_count" ["node"] spCountD) : FnOk P w K mg base CX0 3 f fd ["value", "words"] (spWritten K) := by
  obtain ⟨f1, fd1, g_is_node, kp_is_node, b_is_node, G_is_node⟩ := D1
  obtain ⟨f2, fd2, g_part_count, kp_part_count, b_part_count, G_part_count⟩ := D2
  refine F.ok sc_is_written (fun vs H Q E h => ?_) (fun cdv A outer s H vs Q E hr h => ?_)
  · obtain ⟨v, wb, ws, rfl, _⟩ := h
    rfl
  · obtain ⟨v, wb, ws, rfl, hw, h⟩ := h
    refine ⟨_, (pss_cons (ps_if (PW.pt (pw_or (pt_not (pt_val (pe_callB call_isi (by rfl) T.n_isinstance (by decide +kernel) (pa_cons (pv 0) (pa_cons (pe_bltn (v := .ty "tuple") (by rfl) T.n_tuple (by decide +kernel) rfl) pa_nil))))) (pw_or1 (pt_cmpR op_gt (pe_callB call_len_seq (by rfl) T.n_len (by decide +kernel) (pa_cons (pv 0) pa_nil)) (pe_glob (v := .int 1000) rfl T.g_MOST_NODES ⟨_, rfl⟩) (nomark _))))) (pss_one (ps_ret pe_bl)) pss_nil) (pss_cons (ps_set (i := 2) sc_is_written.nd rfl (.inl rfl) pe_int) (pss_cons (ps_for PassesOwn.never rfl (pi_tup (pv 0)) (pg_name (i := 3) sc_is_written.nd rfl (.inl rfl)) (pss_cons (ps_if (PW.pt (pw_or (pt_cmpR op_eq (pv 2) pe_int (nomark _)) (pw_or1 (pt_not (pt_val (pe_call G_is_node (hr.mono (by first | decide | omega)) (by rfl) g_is_node kp_is_node b_is_node .nil pass0 (pa_cons (pv 3) (pa_cons (pv 1) pa_nil)))))))) (pss_one (ps_ret pe_bl)) pss_nil) (pss_one (ps_aug (i := 2) sc_is_written.nd rfl (.inl rfl) (pe_op op_sub (pe_call G_part_count (hr.mono (by first | decide | omega)) (by rfl) g_part_count kp_part_count b_part_count .nil pass0 (pa_cons (pv 3) pa_nil)) pe_int) ip_add)))) (pss_one (ps_ret (pe_cmpR op_eq (pv 2) pe_int (nomark _))))))), ?_⟩
    refine sl_of (σ2 := [some _, some _, none, none]) rfl ?_
    walk_at "st"
    rcases h with ⟨a, xs, rfl, hS, hz, hk, q⟩ | ⟨n, b, ht, hkit, rfl, q⟩
    · walk_at "go"
      refine w_br (fun h1 => ?_) (fun h1 => ?_)
      · walk_at "go"
        exact qeq q (by simp [isW]; omega)
      · walk_at "go"
        have h2 : xs.length ≤ 1000 := by omega
        refine for_tup (K := K) (a := a) (xs := xs) (fun i σ H' => H' = H ∧ ∃ m y, σ = [some (.ref a), some (.ref wb), some (.int m), y] ∧ scanW ws m (xs.drop i) = scanW ws 1 xs) ⟨rfl, 1, none, rfl, rfl⟩ (fun i σ H' _ e => by rw [e.1]; exact hS) ?_ ?_
        · rintro i x σ H' hi ⟨rfl, m, y, rfl, hm⟩
          have hd := drop_at hi
          have hx : x ∈ xs := List.mem_of_getElem? hi
          rw [hd] at hm
          walk_at "go"
          refine w_brI (fun h3 => ?_) (fun h3 => ?_)
          · walk_at "go"
            exact qeq q (by rw [isW, ← hm]; simp [scanW, h3])
          · walk_at "go"
            refine ⟨x, wb, ws, rfl, hk x hx, hw, ?_⟩
            walk_at "go"
            cases hn : nodeW ws x with
            | false =>
              walk_at "go"
              exact qeq q (by rw [isW, ← hm]; simp [scanW, hn])
            | true =>
              walk_at "go"
              refine ⟨x, rfl, nodeW_key hn, ?_⟩
              walk_at "go"
              refine ⟨rfl, _, _, rfl, ?_⟩
              rw [← hm]
              simp [scanW, h3, hn]
        · rintro σ H' ⟨rfl, m, y, rfl, hm⟩
          walk_at "go"
          refine qeq q ?_
          rw [isW, ← hm]
          simp [scanW, h2]
    · walk_at "go"
      refine w_isi ht hkit ?_
      walk_at "go"
      exact q
def spIsW (K : PySem.W.Frag) (ws : List Str) : Sp := fun vs H Q _ => ∃ v, vs = [v] ∧ ((∃ a xs, v = .ref a ∧ SqT K H a xs ∧ xs.length ≤ 100000 ∧ (∀ x ∈ xs, Kd H x) ∧ ∀ H', Ex H H' → Q (.bl (isW ws xs)) H') ∨ (∃ n b, (∀ H', Ex H H' → TyX K H' v (.type n)) ∧ PySem.W.kitOne K (.type n) (.type "tuple") = some b ∧ b = false ∧ ∀ H', Ex H H' → Q (.bl false) H'))
theorem ok_is_term {f : Addr} {fd : FuncData} (F : Fun K "is_term" "is_term" s_is_term f fd) (T : Txt w K mg tk cl)
    (D1 : Def P w K mg base CX0 3 "is_written" ["value", "words"] (spWritten K)) : FnOk P w K mg base CX0 4 f fd ["value"] (spIsW K ["lam", "app"]) := by
  obtain ⟨f1, fd1, g_is_written, kp_is_written, b_is_written, G_is_written⟩ := D1
  refine F.ok sc_is_term (fun vs H Q E h => ?_) (fun cdv A outer s H vs Q E hr h => ?_)
  · obtain ⟨v, rfl, _⟩ := h
    rfl
  · obtain ⟨v, rfl, h⟩ := h
    refine ⟨_, (pss_one (ps_ret (pe_call G_is_written (hr.mono (by first | decide | omega)) (by rfl) g_is_written kp_is_written b_is_written .nil pass0 (pa_cons (pv 0) (pa_cons (pe_tup (pa_cons pe_str (pa_cons pe_str pa_nil))) pa_nil))))), ?_⟩
    refine sl_of (σ2 := [some _]) rfl ?_
    walk_at "st"
    walk_at "go"
    intro p hp
    have e := Ex.new hp (o := .tup [V.str "lam", V.str "app"])
    walk_at "go"
    refine ⟨v, p, ["lam", "app"], rfl, SqT.of upd_same, ?_⟩
    rcases h with ⟨a, xs, rfl, hS, hz, hk, q⟩ | ⟨n, b, ht, hkit, rfl, q⟩
    · exact .inl ⟨a, xs, rfl, ex_t e hS, hz, all_kp hk (Kp.ex e), q _ e⟩
    · exact .inr ⟨n, false, ht _ e, hkit, rfl, q _ e⟩

end
end Ly
set_option Elab.async false
set_option linter.all false
set_option maxRecDepth 100000
set_option maxHeartbeats 8000000
namespace Ly
open PySem PySem.Spec PyProof.Rows L2 Evl
local macro_rules | `(tactic| walk_at "ne") => `(tactic| first
  | assumption
  | ((refine' Ne.symm ?hq); (case hq => assumption))
  | ((refine' ne_of_none ?nh1 ?nh2); (case nh2 => assumption); (case nh1 => walk_at "hp"))
  | ((refine' Ne.symm (ne_of_none ?nh1 ?nh2)); (case nh2 => assumption); (case nh1 => walk_at "hp")))
local macro_rules | `(tactic| walk_at "hp") => `(tactic| first
  | assumption
  | exact upd_same
  | ((refine' SqL.of ?hq); (case hq => walk_at "hp"))
  | ((refine' SqT.of ?hq); (case hq => walk_at "hp"))
  | ((refine' (upd_ne ?hne).trans ?hrest); (case hne => walk_at "ne"); (case hrest => walk_at "hp"))
  | ((refine' ly_at ?hex ?hh); (case hex => assumption); (case hh => walk_at "hp"))
  | ((refine' ly_atF ?hex ?hnn ?hh); (case hex => assumption); (case hh => walk_at "hp"); (case hnn => walk_at "ne"))
  | ((refine' ex_t ?hex ?hh); (case hh => assumption); (case hex => walk_at "ex"))
  | ((refine' ex_l ?hex ?hh); (case hh => assumption); (case hex => walk_at "ex")))
local macro_rules | `(tactic| walk_at "ex") => `(tactic| first
  | assumption
  | exact Ex.refl _
  | ((refine' ex_new ?xa ?xb); (case xb => assumption); (case xa => walk_at "ex"))
  | ((refine' ex_upd ?xa ?xb); (case xb => walk_at "free"); (case xa => walk_at "ex"))
  | ((refine' Ex.trans ?xa ?xb); (case xb => assumption); (case xa => walk_at "ex")))
local macro_rules | `(tactic| walk_at "free") => `(tactic| first
  | assumption
  | ((refine' fresh_back ?xa ?xb); (case xb => assumption); (case xa => walk_at "ex")))
local macro_rules | `(tactic| walk_at "fr") => `(tactic| first
  | assumption
  | exact Fr.refl _ _
  | ((refine' Fr.own ?hq); (case hq => walk_at "fr"))
  | ((refine' Fr.new ?xa ?xb); (case xb => assumption); (case xa => walk_at "fr"))
  | ((refine' Fr.mut ?xa ?xb); (case xb => assumption); (case xa => walk_at "fr"))
  | ((refine' Fr.trans ?xa ?xb); (case xb => assumption); (case xa => walk_at "fr"))
  | ((refine' Fr.trans ?xa (Fr.ex ?xb)); (case xb => assumption); (case xa => walk_at "fr")))
local macro_rules | `(tactic| walk_at "go1") => `(tactic| first
  | (with_reducible refine' w_seq ?_)
  | (with_reducible refine' w_asg ?_)
  | (with_reducible refine' w_ret ?_)
  | (with_reducible refine' w_drop ?_)
  | (with_reducible refine' w_if ?_)
  | (with_reducible refine' w_next ?_)
  | (with_reducible refine' w_name ?_)
  | (with_reducible refine' w_sub ?_)
  | ((with_reducible refine' w_var ?hv ?_); (case hv => exact rfl))
  | (with_reducible refine' w_c ?_)
  | (with_reducible refine' w_op ?_)
  | (with_reducible refine' w_un ?_)
  | (with_reducible refine' w_ch ?_)
  | (with_reducible refine' w_I0 ?_)
  | ((with_reducible refine' w_I ?hc ?_); (case hc => first | (exact ly_mulL (by decide) (by decide)) | (exact ly_mulR (by decide) (by decide)) | (exact ly_mulL (by omega) (by omega)) | (show (_ : Int) ≠ 0; decide) | (show (_ : Int) ≠ 0; omega) | (exact ⟨by decide, by decide⟩) | (exact ⟨by omega, by omega⟩)))
  | (with_reducible refine' w_U ?_)
  | ((with_reducible refine' w_eq ?hs ?_); (case hs => exact rfl))
  | ((with_reducible refine' w_ne ?hs ?_); (case hs => exact rfl))
  | (with_reducible refine' w_isB ?_)
  | (with_reducible refine' w_notB ?_)
  | (with_reducible refine' w_nil ?_)
  | (with_reducible refine' w_cons ?_)
  | (with_reducible refine' w_tup ?_)
  | (with_reducible refine' w_lst ?_)
  | (with_reducible refine' w_cb ?_)
  | (with_reducible refine' w_call ?_)
  | (with_reducible refine' w_bm ?_)
  | (with_reducible refine' w_bm0 ?_)
  | ((with_reducible refine' w_app ?hh ?hz ?_); (case hh => walk_at "hp"); (case hz => first | exact ly_lt (by omega) | exact ly_lt (by simp only [List.length_append, List.length_map, List.length_cons, List.length_nil]; omega)))
  | ((with_reducible refine' w_popA ?hh ?_); (case hh => walk_at "hp"))
  | ((with_reducible refine' w_ext ?hh ?hh2 ?hz ?_); (case hh => walk_at "hp"); (case hh2 => walk_at "hp"))
  | ((with_reducible refine' w_ixL ?hh ?ha ?_); (case hh => walk_at "hp"); (case ha => first | exact rfl | exact at_map (by omega) | exact atI_last _ _ | ((refine' at_of ?ae ?ah); (case ah => assumption); (case ae => omega))))
  | ((with_reducible refine' w_ixT ?hh ?ha ?_); (case hh => walk_at "hp"); (case ha => first | exact rfl | exact at_map (by omega) | exact atI_last _ _ | ((refine' at_of ?ae ?ah); (case ah => assumption); (case ae => omega))))
  | ((with_reducible refine' w_cat ?hh ?hh2 ?hz ?_); (case hh => walk_at "hp"); (case hh2 => walk_at "hp"))
  | ((with_reducible refine' w_setL ?hh ?ha ?_); (case hh => walk_at "hp"); (case ha => exact rfl))
  | (with_reducible refine' w_test ?_)
  | (with_reducible refine' w_tB ?_)
  | (with_reducible refine' w_bl ?_)
  | (with_reducible refine' w_and ?_)
  | (with_reducible refine' w_or ?_)
  | (with_reducible refine' w_not ?_)
  | (with_reducible refine' w_andV ?_)
  | (with_reducible refine' w_orV ?_)
  | (with_reducible refine' w_notV ?_)
  | (with_reducible refine' w_ifE ?_)
  | (with_reducible refine' w_for ?_)
  | ((with_reducible refine' w_nin ?hh ?_); (case hh => walk_at "hp"))
  | ((with_reducible refine' w_sorted ?hh ?_); (case hh => walk_at "hp"))
  | (with_reducible refine' w_tsadd ?_)
  | ((with_reducible refine' w_tsadd1 ?hh ?_); (case hh => walk_at "hp"))
  | ((with_reducible refine' w_sadd ?hh ?hr ?_); (case hh => walk_at "hp"); (case hr => omega))
  | (with_reducible refine' w_iZ ?_)
  | ((with_reducible refine' w_iZ1 ?hh ?hh2 ?_); (case hh => walk_at "hp"); (case hh2 => walk_at "hp"))
  | (with_reducible refine' w_iS ?_)
  | (with_reducible refine' w_iS1 ?_)
  | ((with_reducible refine' w_gtup ?hh ?hn ?_); (case hh => walk_at "hp"); (case hn => exact rfl))
  | (with_reducible refine' w_gcons ?_)
  | (with_reducible refine' w_gnil ?_)
  | (with_reducible refine' w_js ?_)
  | (with_reducible refine' w_jsn ?_)
  | ((with_reducible refine' w_js1 ?hl ?_); (case hl => decide +kernel))
  | (with_reducible refine' w_fmt ?_)
  | ((with_reducible refine' w_fmt1 ?hl ?_); (case hl => decide +kernel))
  | (with_reducible refine' w_callS ?_)
  | ((with_reducible refine' w_truL ?hh ?_); (case hh => walk_at "hp"))
  | (with_reducible refine' w_lc ?_)
  | (with_reducible refine' w_yes ?_)
  | ((with_reducible refine' w_wipe ?he ?_); (case he => exact rfl))
  | (with_reducible refine' w_iL ?_)
  | (with_reducible refine' w_iT ?_)
  | (with_reducible refine' w_iR ?_)
  | ((with_reducible refine' w_iL1 ?hh ?_); (case hh => walk_at "hp"))
  | ((with_reducible refine' w_iT1 ?hh ?_); (case hh => walk_at "hp"))
  | ((with_reducible refine' w_iR1 ?h1 ?h2 ?_); (case h1 => omega); (case h2 => omega))
  | ((with_reducible refine' w_aug ?hv ?_); (case hv => exact rfl))
  | (with_reducible refine' w_ipI ?_)
  | ((with_reducible refine' w_isi ?hy ?hk ?_); (case hy => walk_at "ty"); (case hk => walk_at "kit"))
  | ((with_reducible refine' w_int ?_))
  | ((with_reducible refine' w_intB ?_))
  | ((with_reducible refine' w_abs ?_))
  | ((with_reducible refine' w_lenL ?hh ?_); (case hh => walk_at "hp"))
  | ((with_reducible refine' w_lenT ?hh ?_); (case hh => walk_at "hp"))
  | ((with_reducible refine' w_tupL ?hh ?_); (case hh => walk_at "hp"))
  | ((with_reducible refine' w_tupT ?hh ?_); (case hh => walk_at "hp"))
  | ((with_reducible refine' w_catA ?hh ?hh2 ?hz ?_); (case hh => walk_at "hp"); (case hh2 => walk_at "hp"); (case hz => walk_at "len"))
  | ((with_reducible refine' w_repB ?hh ?hne ?h2 ?h3 ?hz ?_); (case hh => walk_at "hp"); (case hne => simp); (case h2 => omega); (case h3 => omega); (case hz => exact Nat.le_of_ble_eq_true rfl))
  | ((with_reducible refine' w_eqN ?hh ?hh2 ?n1 ?n2 ?_); (case hh => walk_at "hp"); (case hh2 => walk_at "hp"); (case n1 => walk_at "nd"); (case n2 => walk_at "nd"))
  | ((with_reducible refine' w_neN ?hh ?hh2 ?n1 ?n2 ?_); (case hh => walk_at "hp"); (case hh2 => walk_at "hp"); (case n1 => walk_at "nd"); (case n2 => walk_at "nd"))
  | ((with_reducible refine' w_eqL ?hh ?hh2 ?n1 ?n2 ?_); (case hh => walk_at "hp"); (case hh2 => walk_at "hp"); (case n1 => walk_at "nd"); (case n2 => walk_at "nd"))
  | ((with_reducible refine' w_neL ?hh ?hh2 ?n1 ?n2 ?_); (case hh => walk_at "hp"); (case hh2 => walk_at "hp"); (case n1 => walk_at "nd"); (case n2 => walk_at "nd"))
  | ((with_reducible refine' w_neNon ?hh2 ?n2 ?_); (case hh2 => walk_at "hp"); (case n2 => walk_at "nd"))
  | ((with_reducible refine' w_eqNon ?hh2 ?n2 ?_); (case hh2 => walk_at "hp"); (case n2 => walk_at "nd"))
  | ((with_reducible refine' w_slA ?hh ?_); (case hh => walk_at "hp"))
  | ((with_reducible refine' w_disp ?hz ?_); (case hz => exact sz_of (Nat.le_of_ble_eq_true rfl)))
  | ((with_reducible refine' w_tyL ?hh ?_); (case hh => walk_at "hp"))
  | (with_reducible refine' iteT ?_)
  | (with_reducible refine' iteF ?_)
  | (with_reducible refine' w_nT ?_)
  | (with_reducible refine' w_nn ?_)
  | (with_reducible refine' w_nnT ?_)
  | (with_reducible refine' w_nnR ?_)
  | (with_reducible refine' w_neG ?_)
  | (with_reducible refine' w_eqG ?_)
  | (with_reducible refine' w_neS ?_)
  | (with_reducible refine' w_eqS ?_)
  | (with_reducible refine' w_neSb ?_)
  | (with_reducible refine' w_eqSb ?_)
  | (with_reducible refine' w_deIS ?_)
  | (with_reducible refine' w_deSI ?_)
  | (with_reducible refine' w_deISn ?_)
  | ((with_reducible refine' w_deST ?he ?_); (case he => decide +kernel))
  | ((with_reducible refine' w_deSF ?he ?_); (case he => decide +kernel))
  | ((with_reducible refine' w_deSTn ?he ?_); (case he => decide +kernel))
  | ((with_reducible refine' w_deSFn ?he ?_); (case he => decide +kernel))
  | (with_reducible refine' w_nF ?_)
  | dsimp only [Bool.not_true, Bool.not_false])
local macro_rules | `(tactic| walk_at "ty") => `(tactic| first
  | exact .base (.int _) | exact .base (.str _) | exact .base (.bl _) | exact .base .non
  | ((refine' tyx_t ?hq); (case hq => walk_at "hp")) | ((refine' tyx_l ?hq); (case hq => walk_at "hp")) | ((refine' .base (.tup ?hq)); (case hq => walk_at "hp")) | assumption)
local macro_rules | `(tactic| walk_at "go") => `(tactic| repeat walk_at "go1")
local macro_rules | `(tactic| walk_at "st") => `(tactic| try dsimp only [cxOf, Cx.nox, Cx.wish])
local macro_rules | `(tactic| walk_at "kit") => `(tactic| with_reducible first | exact kit_int_int | exact kit_int_str | exact kit_int_bool | exact kit_int_tuple | exact kit_int_list | exact kit_str_int | exact kit_str_str | exact kit_str_bool | exact kit_str_tuple | exact kit_str_list | exact kit_bool_int | exact kit_bool_str | exact kit_bool_bool | exact kit_bool_tuple | exact kit_bool_list | exact kit_NoneType_int | exact kit_NoneType_str | exact kit_NoneType_bool | exact kit_NoneType_tuple | exact kit_NoneType_list | exact kit_list_int | exact kit_list_str | exact kit_list_bool | exact kit_list_tuple | exact kit_list_list | exact kit_tuple_int | exact kit_tuple_str | exact kit_tuple_bool | exact kit_tuple_tuple | exact kit_tuple_list)
local macro_rules | `(tactic| walk_at "nd") => `(tactic| first
  | assumption
  | exact Tm.nds _
  | exact Nds.nil
  | exact Nds.ofInts _
  | ((refine' Nds.cons ?na ?nb); (case na => first | exact Nds.I _ | exact Nds.L | exact Nds.A); (case nb => walk_at "nd"))
  | ((refine' Nds.app ?na ?nb); (case na => walk_at "nd"); (case nb => walk_at "nd"))
  | ((refine' Nds.rep ?na _); (case na => walk_at "nd")))
local macro_rules | `(tactic| walk_at "len") => `(tactic| first
  | exact ly_sz (by omega)
  | ((simp only [List.length_append, List.length_cons, List.length_nil, List.length_map, PyProof.Rows.lm_len_rep_flat]); exact ly_sz (by omega)))
local macro_rules | `(tactic| walk_at "go1") => `(tactic| first
  | (with_reducible refine' w_kget2 ?_)
  | (with_reducible refine' w_isRN ?_)
  | (with_reducible refine' w_isNN ?_)
  | (with_reducible refine' w_isIN ?_)
  | ((with_reducible refine' w_kg ?hd ?_); (case hd => assumption)))
local macro_rules | `(tactic| walk_at "go1") => `(tactic| first
  | ((with_reducible refine' w_extT ?hh ?hh2 ?hz ?_); (case hh => walk_at "hp"); (case hh2 => walk_at "hp"))
  | ((with_reducible refine' w_I ?hc ?_); (case hc => exact ⟨by decide, by decide, by decide⟩))
  | (with_reducible refine' w_sl ?_)
  | (with_reducible refine' w_noP ?_)
  | (with_reducible refine' w_part ?_)
  | (with_reducible refine' w_part1 ?_)
  | (with_reducible refine' w_it ?_)
  | (with_reducible refine' w_it1 ?_)
  | ((with_reducible refine' w_lenZ ?hz ?_); (case hz => omega))
  | ((with_reducible refine' w_addZb ?hz ?_); (case hz => omega))
  | ((with_reducible refine' w_addZf ?hz ?_); (case hz => omega))
  | ((with_reducible refine' w_addZa ?hz ?_); (case hz => omega))
  | ((with_reducible refine' w_inS ?hh ?_); (case hh => walk_at "hp"))
  | ((with_reducible refine' w_ixT ?hh ?ha ?_); (case hh => assumption); (case ha => exact atI_nat (by assumption))))
local macro_rules | `(tactic| walk_at "go1") => `(tactic| first
  | (with_reducible refine' w_iR2 ?_)
  | ((with_reducible refine' w_iR21 ?h1 ?h2 ?h3 ?h4 ?_); (case h1 => omega); (case h2 => omega); (case h3 => omega); (case h4 => omega))
  | (with_reducible refine' w_nnI ?_)
  | (with_reducible refine' w_max ?_)
  | (with_reducible refine' w_break ?_)
  | (with_reducible refine' w_cont ?_))
section
variable {P : Program} {w : World} {K : PySem.W.Frag} {mg : Str → Option Value} {base : Heap} {tk : Nat → Tok} {cl : Nat → Addr}
/-! ### names drawn -/
theorem w_addZp {p q : List Nat} {H : Hp} {Q : VK} (z : p.length ≤ 400000) (z2 : q.length ≤ 400000) (h : Q (.str (pl (p ++ q))) H) : rAddZ (.str (pl p)) (.str (pl q)) H Q :=
  ⟨pl p, pl q, rfl, rfl, by rw [pl_len, pl_len]; exact ly_sz (by omega), by rw [pl_app]; exact h⟩
theorem pl_digit : ∀ d : Nat, d < 10 → Str.ofString (toString (d : Int)) = pl [48 + d] ∧ isDig (48 + d) = true ∧ ((d : Int).natAbs.log2 < 1920) := by decide +kernel
theorem pl_letters : ("abcdefghijklmnopqrstuvwxyz" : Str) = pl (List.range' 97 26) := by decide +kernel
theorem pl_abxy : ("abxy" : Str) = pl [97, 98, 120, 121] := by decide +kernel
theorem pl_space : (" " : Str) = pl [32] := by decide +kernel
theorem get_letters : ∀ c, c < 26 → (List.range' 97 26)[c]? = some (97 + c) := by decide
theorem get_abxy : ∀ c, c < 4 → ∃ x, [97, 98, 120, 121][c]? = some x ∧ isLow x = true := by decide
theorem low_letters : ∀ c, c < 26 → isLow (97 + c) = true := by decide

def spDName : Sp := fun vs H Q _ => ∃ (s : Addr) (m : Stm), vs = [.ref s] ∧ StAt H s m ∧ ∀ H' m' w, Fr s H H' → StAt H' s m' → Fol m m' → IsNm w → Q (.str (pl w)) H'
theorem ok_dname {f : Addr} {fd : FuncData} (F : Fun K "_law_drawn_name" "_law_drawn_name" s_law_drawn_name f fd) (T : Txt w K mg tk cl)
    (D1 : Def P w K mg base CX0 1 "_law_draw" ["stream", "many"] spDraw) : FnOk P w K mg base CX0 2 f fd ["stream"] spDName := by
  obtain ⟨f1, fd1, g_law_draw, kp_law_draw, b_law_draw, G_law_draw⟩ := D1
  refine F.ok sc_law_drawn_name (fun vs H Q E h => ?_) (fun cdv A outer s H vs Q E hr h => ?_)
  · obtain ⟨s1, m, rfl, _⟩ := h
    rfl
  · obtain ⟨s1, m, rfl, st, q⟩ := h
    refine ⟨_, (pss_cons (ps_set (i := 1) sc_law_drawn_name.nd rfl (.inl rfl) (pe_ix ix_str pe_str (pe_call G_law_draw (hr.mono (by first | decide | omega)) (by rfl) g_law_draw kp_law_draw b_law_draw .nil pass0 (pa_cons (pv 0) (pa_cons pe_int pa_nil))) (fun _ _ => rfl))) (pss_cut (ps_if (pt_cmpR op_gt (pe_call G_law_draw (hr.mono (by first | decide | omega)) (by rfl) g_law_draw kp_law_draw b_law_draw .nil pass0 (pa_cons (pv 0) (pa_cons pe_int pa_nil))) pe_int (nomark _)) (pss_one (ps_set (i := 1) sc_law_drawn_name.nd rfl (.inl rfl) (pe_ix ix_str pe_str (pe_call G_law_draw (hr.mono (by first | decide | omega)) (by rfl) g_law_draw kp_law_draw b_law_draw .nil pass0 (pa_cons (pv 0) (pa_cons pe_int pa_nil))) (fun _ _ => rfl)))) pss_nil) (pss_cons (ps_for PassesOwn.never rfl (pi_range1 (by rfl) T.n_range (pa_cons (pe_op op_add (pe_op op_fdivN (pe_call G_law_draw (hr.mono (by first | decide | omega)) (by rfl) g_law_draw kp_law_draw b_law_draw .nil pass0 (pa_cons (pv 0) (pa_cons pe_int pa_nil))) pe_int) (pe_op op_mul pe_int (pe_callTy call_int1 (by rfl) T.n_int (by decide +kernel) (pa_cons (pe_cmpR op_eq (pe_call G_law_draw (hr.mono (by first | decide | omega)) (by rfl) g_law_draw kp_law_draw b_law_draw .nil pass0 (pa_cons (pv 0) (pa_cons pe_int pa_nil))) pe_int (nomark _)) pa_nil)))) pa_nil)) (pg_name (i := 2) sc_law_drawn_name.nd rfl (.inl rfl)) (pss_one (ps_set (i := 1) sc_law_drawn_name.nd rfl (.inl rfl) (pe_op op_addZ (pv 1) (pe_callTy call_str_int (by rfl) T.n_str (by decide +kernel) (pa_cons (pe_call G_law_draw (hr.mono (by first | decide | omega)) (by rfl) g_law_draw kp_law_draw b_law_draw .nil pass0 (pa_cons (pv 0) (pa_cons pe_int pa_nil))) pa_nil)))))) (pss_one (ps_ret (pv 1)))))), ?_⟩
    refine sl_of (σ2 := [some _, none, none]) rfl ?_
    walk_at "st"
    walk_at "go"
    refine ⟨s1, m, 26, rfl, st, by decide, by decide, fun H2 fr2 st2 => ?_⟩
    have v2 := m.val_lt (n := 26) (by decide)
    have fol2 := Fol.next m 26
    generalize m.val 26 = n2 at *
    generalize m.next 26 = m2 at *
    obtain ⟨c, rfl⟩ : ∃ k : Nat, n2 = (k : Int) := ⟨n2.toNat, (Int.toNat_of_nonneg v2.1).symm⟩
    have hc := get_letters c (by omega)
    have hcl := low_letters c (by omega)
    rw [pl_letters]
    refine w_ixSt (by simp) (atI_nat hc) ?_
    generalize 97 + c = c at *
    walk_at "go"
    refine w_cut (M := fun σ' H' => ∃ m' c', σ' = [some (.ref s1), some (.str (pl [c'])), none] ∧ isLow c' = true ∧ Fr s1 H H' ∧ StAt H' s1 m' ∧ Fol m m') ?_ ?_
    · walk_at "go"
      refine ⟨s1, m2, 3, rfl, st2, by decide, by decide, fun H3 fr3 st3 => ?_⟩
      have fol3 := fol2.trans (Fol.next m2 3)
      generalize m2.val 3 = n3 at *
      generalize m2.next 3 = m3 at *
      walk_at "go"
      refine w_br (fun c1 => ?_) (fun c1 => ?_)
      · walk_at "go"
        refine ⟨s1, m3, 4, rfl, st3, by decide, by decide, fun H4 fr4 st4 => ?_⟩
        have v4 := m3.val_lt (n := 4) (by decide)
        have fol4 := fol3.trans (Fol.next m3 4)
        generalize m3.val 4 = n4 at *
        generalize m3.next 4 = m4 at *
        obtain ⟨d, rfl⟩ : ∃ k : Nat, n4 = (k : Int) := ⟨n4.toNat, (Int.toNat_of_nonneg v4.1).symm⟩
        obtain ⟨x, hx, hxl⟩ := get_abxy d (by omega)
        rw [pl_abxy]
        refine w_ixSt (by simp) (atI_nat hx) ?_
        walk_at "go"
        exact ⟨m4, x, rfl, hxl, (fr2.trans fr3).trans fr4, st4, fol4⟩
      · walk_at "go"
        exact ⟨m3, c, rfl, hcl, fr2.trans fr3, st3, fol3⟩
    · rintro σ' H3 ⟨m3, c3, rfl, hcl3, fr3, st3, fol3⟩
      clear fr2 st2 fol2 hcl hc
      walk_at "go"
      refine ⟨s1, m3, 5, rfl, st3, by decide, by decide, fun H4 fr4 st4 => ?_⟩
      have v4 := m3.val_lt (n := 5) (by decide)
      have fol4 := fol3.trans (Fol.next m3 5)
      generalize m3.val 5 = n4 at *
      generalize m3.next 5 = m4 at *
      walk_at "go"
      refine ⟨s1, m4, 12, rfl, st4, by decide, by decide, fun H5 fr5 st5 => ?_⟩
      have fol5 := fol4.trans (Fol.next m4 12)
      generalize m4.val 12 = n5 at *
      generalize m4.next 12 = m5 at *
      have h2 : 0 ≤ n4.fdiv 2 ∧ n4.fdiv 2 ≤ 2 := by
        rcases (by omega : n4 = 0 ∨ n4 = 1 ∨ n4 = 2 ∨ n4 = 3 ∨ n4 = 4) with rfl | rfl | rfl | rfl | rfl <;> decide
      generalize n4.fdiv 2 = a at *
      walk_at "go"
      have h3 : 0 ≤ (if decide (V.int n5 = V.int 0) = true then (1 : Int) else 0) ∧ (if decide (V.int n5 = V.int 0) = true then (1 : Int) else 0) ≤ 1 := by split <;> decide
      generalize (if decide (V.int n5 = V.int 0) = true then (1 : Int) else 0) = b at *
      refine for_range (lo := 0) (n := (a + 4 * b).toNat) (fun i σ H' => ∃ m' ds y, σ = [some (.ref s1), some (.str (pl (c3 :: ds))), y] ∧ Fr s1 H H' ∧ StAt H' s1 m' ∧ Fol m m' ∧ ds.all isDig = true ∧ ds.length = i)
        ⟨m5, [], none, rfl, (fr3.trans fr4).trans fr5, st5, fol5, rfl, rfl⟩ ?_ ?_
      · rintro i σ H6 hi ⟨m6, ds, y, rfl, fr6, st6, fol6, hds, hdl⟩
        have hi6 : i < 6 := by omega
        walk_at "go"
        refine ⟨s1, m6, 10, rfl, st6, by decide, by decide, fun H7 fr7 st7 => ?_⟩
        have v7 := m6.val_lt (n := 10) (by decide)
        have fol7 := fol6.trans (Fol.next m6 10)
        generalize m6.val 10 = n7 at *
        generalize m6.next 10 = m7 at *
        obtain ⟨d, rfl⟩ : ∃ k : Nat, n7 = (k : Int) := ⟨n7.toNat, (Int.toNat_of_nonneg v7.1).symm⟩
        walk_at "go"
        obtain ⟨ed, edd, edl⟩ := pl_digit d (by omega)
        refine ⟨edl, ?_⟩
        rw [ed]
        refine w_addZp (by simp; omega) (by simp) ?_
        walk_at "go"
        exact ⟨m7, ds ++ [48 + d], _, rfl, fr6.trans fr7, st7, fol7, by rw [List.all_append, hds]; simp [edd], by rw [List.length_append, hdl]; rfl⟩
      · rintro σ H6 ⟨m6, ds, y, rfl, fr6, st6, fol6, hds, hdl⟩
        walk_at "go"
        refine q H6 m6 (c3 :: ds) fr6 st6 fol6 ⟨⟨c3, ds, rfl, hcl3, hds, by omega⟩⟩
theorem w_ixfirst {K : PySem.W.Frag} {H : Hp} {Q : VK} {p : Addr} {r : List Nat} {qs : List (List Nat)} (h : H p = some (.lst (plcs qs))) (hm : r ∈ qs) (q : Q (.int (qs.idxOf r : Nat)) H) : rIndex K (.ref p) [.str (pl r)] H Q := by
  have hlt := List.idxOf_lt_length_of_mem hm
  have hg : qs[qs.idxOf r]? = some r := by
    rw [List.getElem?_eq_getElem hlt, List.getElem_idxOf hlt]
  refine ⟨p, _, _, qs.idxOf r, .str (pl r), rfl, rfl, SqL.of h, rfl, flat_pl qs, by rw [List.getElem?_map, hg]; rfl, beq_self_eq_true (pl r), fun m z hmm hz => ?_, q⟩
  rw [List.getElem?_map] at hz
  cases e : qs[m]? with
  | none => rw [e] at hz; cases hz
  | some r2 =>
    rw [e] at hz
    cases hz
    show (pl r2 == pl r) = false
    refine beq_eq_false_iff_ne.mpr fun e2 => ?_
    have e3 := pl_inj e2
    subst e3
    have h2 := List.not_of_lt_findIdx (p := (· == r2)) (xs := qs) hmm
    obtain ⟨hl, hq⟩ := List.getElem?_eq_some_iff.mp e
    simp [hq] at h2
theorem idx_map (r : List Nat) : ∀ qs : List (List Nat), (qs.map pl).idxOf (pl r) = qs.idxOf r
  | [] => rfl
  | q :: qs => by
    have ih := idx_map r qs
    rw [List.map_cons, List.idxOf_cons, List.idxOf_cons, ih]
    by_cases h : q = r
    · rw [h, beq_self_eq_true, beq_self_eq_true]
    · rw [beq_eq_false_iff_ne.mpr h, beq_eq_false_iff_ne.mpr (fun e => h (pl_inj e))]
theorem mem_map_pl {r : List Nat} {qs : List (List Nat)} : pl r ∈ qs.map pl ↔ r ∈ qs := by
  constructor
  · intro h
    obtain ⟨x, hx, e⟩ := List.mem_map.mp h
    rw [← pl_inj e]
    exact hx
  · exact fun h => List.mem_map_of_mem h
theorem nmOf_eq (fs sc : List (List Nat)) (w : List Nat) : nmOf fs sc w = if w ∈ sc then some (sc.reverse.idxOf w) else if w ∈ fs then some (sc.length + fs.idxOf w) else none := by
  unfold nmOf numOf
  rw [← List.map_reverse, idx_map, idx_map, List.length_map]
  by_cases h : w ∈ sc
  · rw [if_pos h, if_pos (mem_map_pl.mpr h)]
  · rw [if_neg h, if_neg (fun z => h (mem_map_pl.mp z))]
    by_cases h2 : w ∈ fs
    · rw [if_pos h2, if_pos (mem_map_pl.mpr h2)]
    · rw [if_neg h2, if_neg (fun z => h2 (mem_map_pl.mp z))]
theorem pl_off {H : Hp} {s p : Addr} {m : Stm} {ws : List (List Nat)} (st : StAt H s m) (h : H p = some (.lst (plcs ws))) : p ≠ s := fun z => by
  rw [z, st.2.1] at h
  have h2 := Option.some.inj h
  have h3 := HO.lst.inj h2
  match ws, h3 with
  | _ :: _, h3 => simp [plcs] at h3
def spDNames : Sp := fun vs H Q _ => ∃ (s : Addr) (m : Stm), vs = [.ref s] ∧ StAt H s m ∧ ∀ H' p m' fs, Fr s H H' → StAt H' s m' → H' p = some (.lst (plcs fs)) → (∀ w ∈ fs, IsNm w) → fs.length ≤ 4 → Q (.ref p) H'
theorem ok_dnames {f : Addr} {fd : FuncData} (F : Fun K "_law_drawn_names" "_law_drawn_names" s_law_drawn_names f fd) (T : Txt w K mg tk cl)
    (D1 : Def P w K mg base CX0 1 "_law_draw" ["stream", "many"] spDraw) (D2 : Def P w K mg base CX0 2 "_law_drawn_name" ["stream"] spDName) : FnOk P w K mg base CX0 3 f fd ["stream"] spDNames := by
  obtain ⟨f1, fd1, g_law_draw, kp_law_draw, b_law_draw, G_law_draw⟩ := D1
  obtain ⟨f2, fd2, g_law_drawn_name, kp_law_drawn_name, b_law_drawn_name, G_law_drawn_name⟩ := D2
  refine F.ok sc_law_drawn_names (fun vs H Q E h => ?_) (fun cdv A outer s H vs Q E hr h => ?_)
  · obtain ⟨s1, m, rfl, _⟩ := h
    rfl
  · obtain ⟨s1, m, rfl, st, q⟩ := h
    refine ⟨_, (pss_cons (ps_set (i := 1) sc_law_drawn_names.nd rfl (.inl rfl) (pe_lst pa_nil)) (pss_cons (ps_for PassesOwn.never rfl (pi_range1 (by rfl) T.n_range (pa_cons (pe_call G_law_draw (hr.mono (by first | decide | omega)) (by rfl) g_law_draw kp_law_draw b_law_draw .nil pass0 (pa_cons (pv 0) (pa_cons pe_int pa_nil))) pa_nil)) (pg_name (i := 2) sc_law_drawn_names.nd rfl (.inl rfl)) (pss_cons (ps_set (i := 3) sc_law_drawn_names.nd rfl (.inl rfl) (pe_call G_law_drawn_name (hr.mono (by first | decide | omega)) (by rfl) g_law_drawn_name kp_law_drawn_name b_law_drawn_name .nil pass0 (pa_cons (pv 0) pa_nil))) (pss_one (ps_if (pt_cmpR op_notIn_seq (pv 3) (pv 1) (by rfl)) (pss_one (ps_expr (pe_bm PySem.F.plainAttrs_list PySem.F.slot_list_append PySem.F.type_list_append mt_append (pv 1) (pa_cons (pv 3) pa_nil)))) pss_nil)))) (pss_one (ps_ret (pv 1))))), ?_⟩
    refine sl_of (σ2 := [some _, none, none, none]) rfl ?_
    walk_at "st"
    walk_at "go"
    intro fl hfl
    have e0 := Ex.new hfl (o := .lst (plcs []))
    have hf0 : upd H fl (.lst (plcs [])) fl = some (.lst (plcs [])) := upd_same
    have nf := st.ne hfl
    have st0 := st.ex e0
    rw [show (HO.lst ([] : List V)) = .lst (plcs []) from rfl]
    generalize upd H fl (.lst (plcs [])) = H1 at *
    walk_at "go"
    refine ⟨s1, m, 5, rfl, st0, by decide, by decide, fun H2 fr2 st2 => ?_⟩
    have v2 := m.val_lt (n := 5) (by decide)
    have fol2 := Fol.next m 5
    generalize m.val 5 = n2 at *
    generalize m.next 5 = m2 at *
    walk_at "go"
    refine for_range (lo := 0) (n := n2.toNat) (fun i σ H' => ∃ m' fs y1 y2, σ = [some (.ref s1), some (.ref fl), y1, y2] ∧ Fr s1 H H' ∧ StAt H' s1 m' ∧ Fol m m' ∧ H' fl = some (.lst (plcs fs)) ∧ (∀ w ∈ fs, IsNm w) ∧ fs.length ≤ i)
      ⟨m2, [], none, none, rfl, (Fr.ex e0).trans fr2, st2, fol2, fr2 _ _ nf.1 hf0, by simp, Nat.le_refl 0⟩ ?_ ?_
    · rintro i σ H3 hi ⟨m3, fs, y1, y2, rfl, fr3, st3, fol3, hf3, hfs, hfl3⟩
      walk_at "go"
      refine ⟨s1, m3, rfl, st3, fun H4 m4 w fr4 st4 fol4 hw => ?_⟩
      have hf4 := fr4 _ _ nf.1 hf3
      have fol34 := fol3.trans fol4
      walk_at "go"
      refine w_ninS hf4 ?_
      walk_at "go"
      by_cases hm : w ∈ fs
      · rw [decide_eq_true hm]
        walk_at "go"
        exact ⟨m4, fs, _, _, rfl, fr3.trans fr4, st4, fol34, hf4, hfs, by omega⟩
      · rw [decide_eq_false hm]
        walk_at "go"
        have hh : m4.home = m.home := fol34.1
        refine ⟨m4, fs ++ [w], _, _, rfl, Fr.mut (fr3.trans fr4) hfl, st4.put nf.1 (by rw [hh]; exact nf.2), fol34, by rw [upd_same]; simp [plcs], ?_, by rw [List.length_append, List.length_singleton]; omega⟩
        intro v hv
        rcases List.mem_append.mp hv with h | h
        · exact hfs v h
        · rw [List.mem_singleton.mp h]
          exact hw
    · rintro σ H3 ⟨m3, fs, y1, y2, rfl, fr3, st3, fol3, hf3, hfs, hfl3⟩
      walk_at "go"
      exact q H3 fl m3 fs fr3 st3 hf3 hfs (by omega)
def spScn : Sp := fun vs H Q _ => ∃ (a b : Addr) (sc fs : List (List Nat)), vs = [.ref a, .ref b] ∧ H a = some (.lst (plcs sc)) ∧ H b = some (.lst (plcs fs)) ∧ sc.length ≤ 1000 ∧ fs.length ≤ 1000 ∧
  ∀ H' p kn, Ex H H' → H' p = some (.lst (plcs kn)) → (∀ w ∈ kn, w ∈ sc ∨ w ∈ fs) → (kn = [] → sc = [] ∧ fs = []) → kn.length ≤ 2000 → Q (.ref p) H'
theorem ok_scn {f : Addr} {fd : FuncData} {k : Nat} (F : Fun K "_law_scope_names" "_law_scope_names" s_law_scope_names f fd) (T : Txt w K mg tk cl) : FnOk P w K mg base CX0 (k + 1) f fd ["scope", "names"] spScn := by
  refine F.ok sc_law_scope_names (fun vs H Q E h => ?_) (fun cdv A outer s H vs Q E hr h => ?_)
  · obtain ⟨a, b, sc, fs, rfl, _⟩ := h
    rfl
  · obtain ⟨a, b, sc, fs, rfl, ha, hb, ls, lf, q⟩ := h
    refine ⟨_, (pss_cons (ps_set (i := 2) sc_law_scope_names.nd rfl (.inl rfl) (pe_lst pa_nil)) (pss_cons (ps_for PassesOwn.never rfl (pi_list (pe_op op_cat (pv 0) (pv 1))) (pg_name (i := 3) sc_law_scope_names.nd rfl (.inl rfl)) (pss_one (ps_if (pt_cmpR op_notIn_seq (pv 3) (pv 2) (by rfl)) (pss_one (ps_expr (pe_bm PySem.F.plainAttrs_list PySem.F.slot_list_append PySem.F.type_list_append mt_append (pv 2) (pa_cons (pv 3) pa_nil)))) pss_nil))) (pss_one (ps_ret (pv 2))))), ?_⟩
    refine sl_of (σ2 := [some _, some _, none, none]) rfl ?_
    walk_at "st"
    walk_at "go"
    intro fl hfl
    have e0 := Ex.new hfl (o := .lst (plcs []))
    have hf0 : upd H fl (.lst (plcs [])) fl = some (.lst (plcs [])) := upd_same
    rw [show (HO.lst ([] : List V)) = .lst (plcs []) from rfl]
    have ha := e0 _ _ ha
    have hb := e0 _ _ hb
    generalize upd H fl (.lst (plcs [])) = H1 at *
    have l1 : (plcs sc).length = sc.length := List.length_map _
    have l2 : (plcs fs).length = fs.length := List.length_map _
    walk_at "go"
    · exact ly_sz (by omega)
    intro pc hpc
    have e1 := Ex.new hpc (o := .lst (plcs sc ++ plcs fs))
    have hc1 : upd H1 pc (.lst (plcs sc ++ plcs fs)) pc = some (.lst (plcs (sc ++ fs))) := by rw [upd_same]; simp [plcs]
    have e01 := e0.trans e1
    have hf1 := e1 _ _ hf0
    have ncf : pc ≠ fl := (ne_of_none hf0 hpc).symm
    generalize upd H1 pc (.lst (plcs sc ++ plcs fs)) = H2 at *
    refine ⟨pc, rfl, ⟨_, SqL.of hc1⟩, ?_⟩
    refine for_list (K := K) (a := pc) (xs := plcs (sc ++ fs)) (fun i σ H' => ∃ kn y, σ = [some (.ref a), some (.ref b), some (.ref fl), y] ∧ Ex H H' ∧ H' pc = some (.lst (plcs (sc ++ fs))) ∧ H' fl = some (.lst (plcs kn)) ∧ (∀ w ∈ kn, w ∈ sc ++ fs) ∧ (kn = [] → i = 0) ∧ kn.length ≤ i)
      ⟨[], none, rfl, e01, hc1, hf1, by simp, fun _ => rfl, Nat.le_refl 0⟩ (fun i σ H' _ ⟨_, _, _, _, h, _⟩ => SqL.of h) ?_ ?_
    · rintro i z σ H3 hi ⟨kn, y, rfl, e3, hc3, hf3, hk, hk0, hkl⟩
      rw [List.getElem?_map] at hi
      obtain ⟨w, hw, rfl⟩ := Option.map_eq_some_iff.mp hi
      have hil := (List.getElem?_eq_some_iff.mp hw).1
      rw [List.length_append] at hil
      walk_at "go"
      refine w_ninS hf3 ?_
      walk_at "go"
      by_cases hm : w ∈ kn
      · rw [decide_eq_true hm]
        walk_at "go"
        refine ⟨kn, _, rfl, e3, hc3, hf3, hk, fun z => ?_, by omega⟩
        rw [z] at hm
        cases hm
      · rw [decide_eq_false hm]
        walk_at "go"
        refine ⟨kn ++ [w], _, rfl, e3.mut hfl, by rw [upd_ne ncf]; exact hc3, by rw [upd_same]; simp [plcs], ?_, fun z => by simp at z, by rw [List.length_append, List.length_singleton]; omega⟩
        intro v hv
        rcases List.mem_append.mp hv with h | h
        · exact hk v h
        · rw [List.mem_singleton.mp h]
          exact List.mem_of_getElem? hw
    · rintro σ H3 ⟨kn, y, rfl, e3, hc3, hf3, hk, hk0, hkl⟩
      have hl : (plcs (sc ++ fs)).length = sc.length + fs.length := by simp
      rw [hl] at hk0 hkl
      walk_at "go"
      refine q H3 fl kn e3 hf3 (fun w hw => List.mem_append.mp (hk w hw)) (fun z => ?_) (by omega)
      have := hk0 z
      exact ⟨List.length_eq_zero_iff.mp (by omega), List.length_eq_zero_iff.mp (by omega)⟩
def spUse (K : PySem.W.Frag) : Sp := fun vs H Q _ => ∃ (w : List Nat) (a b : Addr) (sc fs : List (List Nat)), vs = [.str (pl w), .ref a, .ref b] ∧ H a = some (.lst (plcs sc)) ∧ H b = some (.lst (plcs fs)) ∧ sc.length ≤ 1000 ∧ fs.length ≤ 1000 ∧ (w ∈ sc ∨ w ∈ fs) ∧
  ∀ k, nmOf fs sc w = some k → ∀ H' p, Ex H H' → SqT K H' p [.int (k : Int)] → Q (.ref p) H'
theorem ok_use {f : Addr} {fd : FuncData} {k : Nat} (F : Fun K "_law_use" "_law_use" s_law_use f fd) (T : Txt w K mg tk cl) : FnOk P w K mg base CX0 (k + 1) f fd ["name", "scope", "names"] (spUse K) := by
  refine F.ok sc_law_use (fun vs H Q E h => ?_) (fun cdv A outer s H vs Q E hr h => ?_)
  · obtain ⟨w, a, b, sc, fs, rfl, _⟩ := h
    rfl
  · obtain ⟨w, a, b, sc, fs, rfl, ha, hb, ls, lf, hwm, q⟩ := h
    refine ⟨_, (pss_cons (ps_for PassesOwn.never rfl (pi_range1 (by rfl) T.n_range (pa_cons (pe_callB call_len_seq (by rfl) T.n_len (by decide +kernel) (pa_cons (pv 1) pa_nil)) pa_nil)) (pg_name (i := 3) sc_law_use.nd rfl (.inl rfl)) (pss_one (ps_if (pt_cmpR op_eq (pe_ix ix_list (pv 1) (pe_op op_sub (pe_op op_sub (pe_callB call_len_seq (by rfl) T.n_len (by decide +kernel) (pa_cons (pv 1) pa_nil)) pe_int) (pv 3)) (fun _ _ => rfl)) (pv 0) (nomark _)) (pss_one (ps_ret (pe_tup (pa_cons (pv 3) pa_nil)))) pss_nil))) (pss_one (ps_ret (pe_tup (pa_cons (pe_op op_add (pe_callB call_len_seq (by rfl) T.n_len (by decide +kernel) (pa_cons (pv 1) pa_nil)) (pe_bm PySem.F.plainAttrs_list PySem.F.slot_list_index PySem.F.type_list_index mt_index (pv 2) (pa_cons (pv 0) pa_nil))) pa_nil))))), ?_⟩
    refine sl_of (σ2 := [some _, some _, some _, none]) rfl ?_
    have l1 : (plcs sc).length = sc.length := List.length_map _
    rw [nmOf_eq] at q
    walk_at "st"
    walk_at "go"
    refine for_range (lo := 0) (n := ((plcs sc).length : Int).toNat) (fun i σ H' => H' = H ∧ ∃ y, σ = [some (.str (pl w)), some (.ref a), some (.ref b), y] ∧ ∀ j, j < i → sc.reverse[j]? ≠ some w)
      ⟨rfl, none, rfl, fun j h => absurd h (Nat.not_lt_zero j)⟩ ?_ ?_
    · rintro i σ H3 hi ⟨rfl, y, rfl, hno⟩
      walk_at "go"
      have hil : i < sc.length := by omega
      obtain ⟨v, hv⟩ : ∃ v, sc.reverse[i]? = some v := ⟨_, List.getElem?_eq_getElem (by rw [List.length_reverse]; exact hil)⟩
      have hv2 : sc[sc.length - 1 - i]? = some v := by rw [← hv, List.getElem?_reverse hil]
      have ix : atI (plcs sc) (((plcs sc).length : Int) - 1 - (0 + (i : Int))) = some (.str (pl v)) := by
        rw [l1, show ((sc.length : Nat) : Int) - 1 - (0 + (i : Int)) = ((sc.length - 1 - i : Nat) : Int) by omega]
        exact atI_nat (by rw [List.getElem?_map, hv2]; rfl)
      refine w_ixL (SqL.of ha) ix ?_
      walk_at "go"
      by_cases e : v = w
      · subst e
        rw [decide_eq_true rfl]
        walk_at "go"
        intro p hp
        have hm : v ∈ sc := List.mem_reverse.mp (List.mem_of_getElem? hv)
        rw [if_pos hm] at q
        have e1 : sc.reverse.idxOf v = i := by
          have hlt := List.idxOf_lt_length_of_mem (List.mem_reverse.mpr hm)
          have hg : sc.reverse[sc.reverse.idxOf v]? = some v := by rw [List.getElem?_eq_getElem hlt, List.getElem_idxOf hlt]
          rcases Nat.lt_trichotomy (sc.reverse.idxOf v) i with h | h | h
          · exact absurd hg (hno _ h)
          · exact h
          · have h2 := List.not_of_lt_findIdx (p := (· == v)) (xs := sc.reverse) h
            obtain ⟨hl, hq⟩ := List.getElem?_eq_some_iff.mp hv
            simp [hq] at h2
        rw [e1] at q
        refine q i rfl _ p (Ex.new hp) ?_
        rw [show (0 : Int) + (i : Int) = (i : Int) by omega]
        exact SqT.of upd_same
      · rw [decide_eq_false (fun z => e (pl_inj (V.str.inj z)))]
        walk_at "go"
        refine ⟨rfl, _, rfl, fun j hj => ?_⟩
        rcases Nat.lt_succ_iff_lt_or_eq.mp hj with h | rfl
        · exact hno j h
        · rw [hv]
          exact fun z => e (Option.some.inj z)
    · rintro σ H3 ⟨rfl, y, rfl, hno⟩
      have hns : w ∉ sc := fun h => by
        obtain ⟨j, hj⟩ := List.getElem?_of_mem (List.mem_reverse.mpr h)
        have hjl := (List.getElem?_eq_some_iff.mp hj).1
        rw [List.length_reverse] at hjl
        exact hno j (by omega) hj
      have hm : w ∈ fs := hwm.resolve_left hns
      rw [if_neg hns, if_pos hm] at q
      have hlt := List.idxOf_lt_length_of_mem hm
      walk_at "go"
      refine w_ixfirst hb hm ?_
      walk_at "go"
      intro p hp
      refine q _ rfl _ p (Ex.new hp) ?_
      rw [l1, show ((sc.length : Nat) : Int) + ((fs.idxOf w : Nat) : Int) = ((sc.length + fs.idxOf w : Nat) : Int) by omega]
      exact SqT.of upd_same
def spWrap : Sp := fun vs H Q _ => ∃ (a : Addr) (ws : List (List Nat)), vs = [.ref a] ∧ H a = some (.lst (plcs ws)) ∧ ws.length ≤ 100000 ∧ ∀ H' p, Ex H H' → H' p = some (.lst (plcs (wrapW ws))) → Q (.ref p) H'
theorem ok_wrap {f : Addr} {fd : FuncData} {k : Nat} (F : Fun K "_law_wrapped" "_law_wrapped" s_law_wrapped f fd) (T : Txt w K mg tk cl) : FnOk P w K mg base CX0 (k + 1) f fd ["words"] spWrap := by
  refine F.ok sc_law_wrapped (fun vs H Q E h => ?_) (fun cdv A outer s H vs Q E hr h => ?_)
  · obtain ⟨a, ws, rfl, _⟩ := h
    rfl
  · obtain ⟨a, ws, rfl, ha, hl, q⟩ := h
    refine ⟨_, (pss_one (ps_ret (pe_op op_cat (pe_op op_cat (pe_lst (pa_cons pe_str pa_nil)) (pv 0)) (pe_lst (pa_cons pe_str pa_nil))))), ?_⟩
    refine sl_of (σ2 := [some _]) rfl ?_
    have l1 : (plcs ws).length = ws.length := List.length_map _
    walk_at "st"
    walk_at "go"
    intro p1 hp1
    have e1 := Ex.new hp1 (o := .lst (plcs [[40]]))
    have h1 : upd H p1 (.lst (plcs [[40]])) p1 = some (.lst (plcs [[40]])) := upd_same
    rw [show (HO.lst [V.str "("]) = .lst (plcs [[40]]) by rw [plcs, List.map_cons, List.map_nil, pl_lp]]
    have ha1 := e1 _ _ ha
    generalize upd H p1 (.lst (plcs [[40]])) = H1 at *
    walk_at "go"
    · exact ly_sz (by simp; omega)
    intro p2 hp2
    have e2 := Ex.new hp2 (o := .lst (plcs [[40]] ++ plcs ws))
    have h2 : upd H1 p2 (.lst (plcs [[40]] ++ plcs ws)) p2 = some (.lst (plcs [[40]] ++ plcs ws)) := upd_same
    generalize upd H1 p2 (.lst (plcs [[40]] ++ plcs ws)) = H2 at *
    walk_at "go"
    intro p3 hp3
    have e3 := Ex.new hp3 (o := .lst (plcs [[41]]))
    have h3 : upd H2 p3 (.lst (plcs [[41]])) p3 = some (.lst (plcs [[41]])) := upd_same
    rw [show (HO.lst [V.str ")"]) = .lst (plcs [[41]]) by rw [plcs, List.map_cons, List.map_nil, pl_rp]]
    have h2 := e3 _ _ h2
    generalize upd H2 p3 (.lst (plcs [[41]])) = H3 at *
    refine w_cat h2 h3 (ly_sz (by simp; omega)) fun p4 hp4 => ?_
    refine q _ p4 (((e1.trans e2).trans e3).trans (Ex.new hp4)) ?_
    rw [upd_same]
    simp [plcs, wrapW]
end
end Ly
set_option Elab.async false
set_option linter.all false
set_option maxRecDepth 100000
set_option maxHeartbeats 8000000
namespace Ly
open PySem PySem.Spec PyProof.Rows L2 Evl
local macro_rules | `(tactic| walk_at "ne") => `(tactic| first
  | assumption
  | ((refine' Ne.symm ?hq); (case hq => assumption))
  | ((refine' ne_of_none ?nh1 ?nh2); (case nh2 => assumption); (case nh1 => walk_at "hp"))
  | ((refine' Ne.symm (ne_of_none ?nh1 ?nh2)); (case nh2 => assumption); (case nh1 => walk_at "hp")))
local macro_rules | `(tactic| walk_at "hp") => `(tactic| first
  | assumption
  | exact upd_same
  | ((refine' SqL.of ?hq); (case hq => walk_at "hp"))
  | ((refine' SqT.of ?hq); (case hq => walk_at "hp"))
  | ((refine' (upd_ne ?hne).trans ?hrest); (case hne => walk_at "ne"); (case hrest => walk_at "hp"))
  | ((refine' ly_at ?hex ?hh); (case hex => assumption); (case hh => walk_at "hp"))
  | ((refine' ly_atF ?hex ?hnn ?hh); (case hex => assumption); (case hh => walk_at "hp"); (case hnn => walk_at "ne"))
  | ((refine' ex_t ?hex ?hh); (case hh => assumption); (case hex => walk_at "ex"))
  | ((refine' ex_l ?hex ?hh); (case hh => assumption); (case hex => walk_at "ex")))
local macro_rules | `(tactic| walk_at "ex") => `(tactic| first
  | assumption
  | exact Ex.refl _
  | ((refine' ex_new ?xa ?xb); (case xb => assumption); (case xa => walk_at "ex"))
  | ((refine' ex_upd ?xa ?xb); (case xb => walk_at "free"); (case xa => walk_at "ex"))
  | ((refine' Ex.trans ?xa ?xb); (case xb => assumption); (case xa => walk_at "ex")))
local macro_rules | `(tactic| walk_at "free") => `(tactic| first
  | assumption
  | ((refine' fresh_back ?xa ?xb); (case xb => assumption); (case xa => walk_at "ex")))
local macro_rules | `(tactic| walk_at "fr") => `(tactic| first
  | assumption
  | exact Fr.refl _ _
  | ((refine' Fr.own ?hq); (case hq => walk_at "fr"))
  | ((refine' Fr.new ?xa ?xb); (case xb => assumption); (case xa => walk_at "fr"))
  | ((refine' Fr.mut ?xa ?xb); (case xb => assumption); (case xa => walk_at "fr"))
  | ((refine' Fr.trans ?xa ?xb); (case xb => assumption); (case xa => walk_at "fr"))
  | ((refine' Fr.trans ?xa (Fr.ex ?xb)); (case xb => assumption); (case xa => walk_at "fr")))
local macro_rules | `(tactic| walk_at "go1") => `(tactic| first
  | (with_reducible refine' w_seq ?_)
  | (with_reducible refine' w_asg ?_)
  | (with_reducible refine' w_ret ?_)
  | (with_reducible refine' w_drop ?_)
  | (with_reducible refine' w_if ?_)
  | (with_reducible refine' w_next ?_)
  | (with_reducible refine' w_name ?_)
  | (with_reducible refine' w_sub ?_)
  | ((with_reducible refine' w_var ?hv ?_); (case hv => exact rfl))
  | (with_reducible refine' w_c ?_)
  | (with_reducible refine' w_op ?_)
  | (with_reducible refine' w_un ?_)
  | (with_reducible refine' w_ch ?_)
  | (with_reducible refine' w_I0 ?_)
  | ((with_reducible refine' w_I ?hc ?_); (case hc => first | (exact ly_mulL (by decide) (by decide)) | (exact ly_mulR (by decide) (by decide)) | (exact ly_mulL (by omega) (by omega)) | (show (_ : Int) ≠ 0; decide) | (show (_ : Int) ≠ 0; omega) | (exact ⟨by decide, by decide⟩) | (exact ⟨by omega, by omega⟩)))
  | (with_reducible refine' w_U ?_)
  | ((with_reducible refine' w_eq ?hs ?_); (case hs => exact rfl))
  | ((with_reducible refine' w_ne ?hs ?_); (case hs => exact rfl))
  | (with_reducible refine' w_isB ?_)
  | (with_reducible refine' w_notB ?_)
  | (with_reducible refine' w_nil ?_)
  | (with_reducible refine' w_cons ?_)
  | (with_reducible refine' w_tup ?_)
  | (with_reducible refine' w_lst ?_)
  | (with_reducible refine' w_cb ?_)
  | (with_reducible refine' w_call ?_)
  | (with_reducible refine' w_bm ?_)
  | (with_reducible refine' w_bm0 ?_)
  | ((with_reducible refine' w_app ?hh ?hz ?_); (case hh => walk_at "hp"); (case hz => first | exact ly_lt (by omega) | exact ly_lt (by simp only [List.length_append, List.length_map, List.length_cons, List.length_nil]; omega)))
  | ((with_reducible refine' w_popA ?hh ?_); (case hh => walk_at "hp"))
  | ((with_reducible refine' w_ext ?hh ?hh2 ?hz ?_); (case hh => walk_at "hp"); (case hh2 => walk_at "hp"))
  | ((with_reducible refine' w_ixL ?hh ?ha ?_); (case hh => walk_at "hp"); (case ha => first | exact rfl | exact at_map (by omega) | exact atI_last _ _ | ((refine' at_of ?ae ?ah); (case ah => assumption); (case ae => omega))))
  | ((with_reducible refine' w_ixT ?hh ?ha ?_); (case hh => walk_at "hp"); (case ha => first | exact rfl | exact at_map (by omega) | exact atI_last _ _ | ((refine' at_of ?ae ?ah); (case ah => assumption); (case ae => omega))))
  | ((with_reducible refine' w_cat ?hh ?hh2 ?hz ?_); (case hh => walk_at "hp"); (case hh2 => walk_at "hp"))
  | ((with_reducible refine' w_setL ?hh ?ha ?_); (case hh => walk_at "hp"); (case ha => exact rfl))
  | (with_reducible refine' w_test ?_)
  | (with_reducible refine' w_tB ?_)
  | (with_reducible refine' w_bl ?_)
  | (with_reducible refine' w_and ?_)
  | (with_reducible refine' w_or ?_)
  | (with_reducible refine' w_not ?_)
  | (with_reducible refine' w_andV ?_)
  | (with_reducible refine' w_orV ?_)
  | (with_reducible refine' w_notV ?_)
  | (with_reducible refine' w_ifE ?_)
  | (with_reducible refine' w_for ?_)
  | ((with_reducible refine' w_nin ?hh ?_); (case hh => walk_at "hp"))
  | ((with_reducible refine' w_sorted ?hh ?_); (case hh => walk_at "hp"))
  | (with_reducible refine' w_tsadd ?_)
  | ((with_reducible refine' w_tsadd1 ?hh ?_); (case hh => walk_at "hp"))
  | ((with_reducible refine' w_sadd ?hh ?hr ?_); (case hh => walk_at "hp"); (case hr => omega))
  | (with_reducible refine' w_iZ ?_)
  | ((with_reducible refine' w_iZ1 ?hh ?hh2 ?_); (case hh => walk_at "hp"); (case hh2 => walk_at "hp"))
  | (with_reducible refine' w_iS ?_)
  | (with_reducible refine' w_iS1 ?_)
  | ((with_reducible refine' w_gtup ?hh ?hn ?_); (case hh => walk_at "hp"); (case hn => exact rfl))
  | (with_reducible refine' w_gcons ?_)
  | (with_reducible refine' w_gnil ?_)
  | (with_reducible refine' w_js ?_)
  | (with_reducible refine' w_jsn ?_)
  | ((with_reducible refine' w_js1 ?hl ?_); (case hl => decide +kernel))
  | (with_reducible refine' w_fmt ?_)
  | ((with_reducible refine' w_fmt1 ?hl ?_); (case hl => decide +kernel))
  | (with_reducible refine' w_callS ?_)
  | ((with_reducible refine' w_truL ?hh ?_); (case hh => walk_at "hp"))
  | (with_reducible refine' w_lc ?_)
  | (with_reducible refine' w_yes ?_)
  | ((with_reducible refine' w_wipe ?he ?_); (case he => exact rfl))
  | (with_reducible refine' w_iL ?_)
  | (with_reducible refine' w_iT ?_)
  | (with_reducible refine' w_iR ?_)
  | ((with_reducible refine' w_iL1 ?hh ?_); (case hh => walk_at "hp"))
  | ((with_reducible refine' w_iT1 ?hh ?_); (case hh => walk_at "hp"))
  | ((with_reducible refine' w_iR1 ?h1 ?h2 ?_); (case h1 => omega); (case h2 => omega))
  | ((with_reducible refine' w_aug ?hv ?_); (case hv => exact rfl))
  | (with_reducible refine' w_ipI ?_)
  | ((with_reducible refine' w_isi ?hy ?hk ?_); (case hy => walk_at "ty"); (case hk => walk_at "kit"))
  | ((with_reducible refine' w_int ?_))
  | ((with_reducible refine' w_intB ?_))
  | ((with_reducible refine' w_abs ?_))
  | ((with_reducible refine' w_lenL ?hh ?_); (case hh => walk_at "hp"))
  | ((with_reducible refine' w_lenT ?hh ?_); (case hh => walk_at "hp"))
  | ((with_reducible refine' w_tupL ?hh ?_); (case hh => walk_at "hp"))
  | ((with_reducible refine' w_tupT ?hh ?_); (case hh => walk_at "hp"))
  | ((with_reducible refine' w_catA ?hh ?hh2 ?hz ?_); (case hh => walk_at "hp"); (case hh2 => walk_at "hp"); (case hz => walk_at "len"))
  | ((with_reducible refine' w_repB ?hh ?hne ?h2 ?h3 ?hz ?_); (case hh => walk_at "hp"); (case hne => simp); (case h2 => omega); (case h3 => omega); (case hz => exact Nat.le_of_ble_eq_true rfl))
  | ((with_reducible refine' w_eqN ?hh ?hh2 ?n1 ?n2 ?_); (case hh => walk_at "hp"); (case hh2 => walk_at "hp"); (case n1 => walk_at "nd"); (case n2 => walk_at "nd"))
  | ((with_reducible refine' w_neN ?hh ?hh2 ?n1 ?n2 ?_); (case hh => walk_at "hp"); (case hh2 => walk_at "hp"); (case n1 => walk_at "nd"); (case n2 => walk_at "nd"))
  | ((with_reducible refine' w_eqL ?hh ?hh2 ?n1 ?n2 ?_); (case hh => walk_at "hp"); (case hh2 => walk_at "hp"); (case n1 => walk_at "nd"); (case n2 => walk_at "nd"))
  | ((with_reducible refine' w_neL ?hh ?hh2 ?n1 ?n2 ?_); (case hh => walk_at "hp"); (case hh2 => walk_at "hp"); (case n1 => walk_at "nd"); (case n2 => walk_at "nd"))
  | ((with_reducible refine' w_neNon ?hh2 ?n2 ?_); (case hh2 => walk_at "hp"); (case n2 => walk_at "nd"))
  | ((with_reducible refine' w_eqNon ?hh2 ?n2 ?_); (case hh2 => walk_at "hp"); (case n2 => walk_at "nd"))
  | ((with_reducible refine' w_slA ?hh ?_); (case hh => walk_at "hp"))
  | ((with_reducible refine' w_disp ?hz ?_); (case hz => exact sz_of (Nat.le_of_ble_eq_true rfl)))
  | ((with_reducible refine' w_tyL ?hh ?_); (case hh => walk_at "hp"))
  | (with_reducible refine' iteT ?_)
  | (with_reducible refine' iteF ?_)
  | (with_reducible refine' w_nT ?_)
  | (with_reducible refine' w_nn ?_)
  | (with_reducible refine' w_nnT ?_)
  | (with_reducible refine' w_nnR ?_)
  | (with_reducible refine' w_neG ?_)
  | (with_reducible refine' w_eqG ?_)
  | (with_reducible refine' w_neS ?_)
  | (with_reducible refine' w_eqS ?_)
  | (with_reducible refine' w_neSb ?_)
  | (with_reducible refine' w_eqSb ?_)
  | (with_reducible refine' w_deIS ?_)
  | (with_reducible refine' w_deSI ?_)
  | (with_reducible refine' w_deISn ?_)
  | ((with_reducible refine' w_deST ?he ?_); (case he => decide +kernel))
  | ((with_reducible refine' w_deSF ?he ?_); (case he => decide +kernel))
  | ((with_reducible refine' w_deSTn ?he ?_); (case he => decide +kernel))
  | ((with_reducible refine' w_deSFn ?he ?_); (case he => decide +kernel))
  | (with_reducible refine' w_nF ?_)
  | dsimp only [Bool.not_true, Bool.not_false])
local macro_rules | `(tactic| walk_at "ty") => `(tactic| first
  | exact .base (.int _) | exact .base (.str _) | exact .base (.bl _) | exact .base .non
  | ((refine' tyx_t ?hq); (case hq => walk_at "hp")) | ((refine' tyx_l ?hq); (case hq => walk_at "hp")) | ((refine' .base (.tup ?hq)); (case hq => walk_at "hp")) | assumption)
local macro_rules | `(tactic| walk_at "go") => `(tactic| repeat walk_at "go1")
local macro_rules | `(tactic| walk_at "st") => `(tactic| try dsimp only [cxOf, Cx.nox, Cx.wish])
local macro_rules | `(tactic| walk_at "kit") => `(tactic| with_reducible first | exact kit_int_int | exact kit_int_str | exact kit_int_bool | exact kit_int_tuple | exact kit_int_list | exact kit_str_int | exact kit_str_str | exact kit_str_bool | exact kit_str_tuple | exact kit_str_list | exact kit_bool_int | exact kit_bool_str | exact kit_bool_bool | exact kit_bool_tuple | exact kit_bool_list | exact kit_NoneType_int | exact kit_NoneType_str | exact kit_NoneType_bool | exact kit_NoneType_tuple | exact kit_NoneType_list | exact kit_list_int | exact kit_list_str | exact kit_list_bool | exact kit_list_tuple | exact kit_list_list | exact kit_tuple_int | exact kit_tuple_str | exact kit_tuple_bool | exact kit_tuple_tuple | exact kit_tuple_list)
local macro_rules | `(tactic| walk_at "nd") => `(tactic| first
  | assumption
  | exact Tm.nds _
  | exact Nds.nil
  | exact Nds.ofInts _
  | ((refine' Nds.cons ?na ?nb); (case na => first | exact Nds.I _ | exact Nds.L | exact Nds.A); (case nb => walk_at "nd"))
  | ((refine' Nds.app ?na ?nb); (case na => walk_at "nd"); (case nb => walk_at "nd"))
  | ((refine' Nds.rep ?na _); (case na => walk_at "nd")))
local macro_rules | `(tactic| walk_at "len") => `(tactic| first
  | exact ly_sz (by omega)
  | ((simp only [List.length_append, List.length_cons, List.length_nil, List.length_map, PyProof.Rows.lm_len_rep_flat]); exact ly_sz (by omega)))
local macro_rules | `(tactic| walk_at "go1") => `(tactic| first
  | (with_reducible refine' w_kget2 ?_)
  | (with_reducible refine' w_isRN ?_)
  | (with_reducible refine' w_isNN ?_)
  | (with_reducible refine' w_isIN ?_)
  | ((with_reducible refine' w_kg ?hd ?_); (case hd => assumption)))
local macro_rules | `(tactic| walk_at "go1") => `(tactic| first
  | ((with_reducible refine' w_extT ?hh ?hh2 ?hz ?_); (case hh => walk_at "hp"); (case hh2 => walk_at "hp"))
  | ((with_reducible refine' w_I ?hc ?_); (case hc => exact ⟨by decide, by decide, by decide⟩))
  | (with_reducible refine' w_sl ?_)
  | (with_reducible refine' w_noP ?_)
  | (with_reducible refine' w_part ?_)
  | (with_reducible refine' w_part1 ?_)
  | (with_reducible refine' w_it ?_)
  | (with_reducible refine' w_it1 ?_)
  | ((with_reducible refine' w_lenZ ?hz ?_); (case hz => omega))
  | ((with_reducible refine' w_addZb ?hz ?_); (case hz => omega))
  | ((with_reducible refine' w_addZf ?hz ?_); (case hz => omega))
  | ((with_reducible refine' w_addZa ?hz ?_); (case hz => omega))
  | ((with_reducible refine' w_inS ?hh ?_); (case hh => walk_at "hp"))
  | ((with_reducible refine' w_ixT ?hh ?ha ?_); (case hh => assumption); (case ha => exact atI_nat (by assumption))))
local macro_rules | `(tactic| walk_at "go1") => `(tactic| first
  | (with_reducible refine' w_iR2 ?_)
  | ((with_reducible refine' w_iR21 ?h1 ?h2 ?h3 ?h4 ?_); (case h1 => omega); (case h2 => omega); (case h3 => omega); (case h4 => omega))
  | (with_reducible refine' w_nnI ?_)
  | (with_reducible refine' w_max ?_)
  | (with_reducible refine' w_break ?_)
  | (with_reducible refine' w_cont ?_))
section
variable {P : Program} {w : World} {K : PySem.W.Frag} {mg : Str → Option Value} {base : Heap} {tk : Nat → Tok} {cl : Nat → Addr}
def spMake (K : PySem.W.Frag) (n : Nat) : Sp := fun vs H Q _ => ∃ (s a b : Addr) (m : Stm) (d : Nat) (sc fs : List (List Nat)), vs = [.ref s, .int (d : Int), .ref a, .ref b] ∧ StAt H s m ∧ H a = some (.lst (plcs sc)) ∧ H b = some (.lst (plcs fs)) ∧
  2 * d + (if sc = [] ∧ fs = [] then 1 else 0) < n ∧ n ≤ 12 ∧ sc.length + 3 * n ≤ 100 ∧ fs.length ≤ 4 ∧ (∀ w ∈ sc, IsNm w) ∧ (∀ w ∈ fs, IsNm w) ∧
  ∀ H' p pw pt m' ws t kd, Fr s H H' → StAt H' s m' → Fol m m' → SqT K H' p [.ref pw, .ref pt, .str (kdStr kd)] → H' pw = some (.lst (plcs ws)) → SqT K H' pt t.enc → Mk fs sc (d + (if sc = [] ∧ fs = [] then 1 else 0)) ws t kd → Q (.ref p) H'
theorem ok_make {f : Addr} {fd : FuncData} (F : Fun K "_law_make" "_law_make" s_law_make f fd) (T : Txt w K mg tk cl) (D1 : Def P w K mg base CX0 1 "_law_draw" ["stream", "many"] spDraw) (D2 : Def P w K mg base CX0 2 "_law_drawn_name" ["stream"] spDName)
    (D3 : Def P w K mg base CX0 1 "_law_scope_names" ["scope", "names"] spScn) (D4 : Def P w K mg base CX0 1 "_law_use" ["name", "scope", "names"] (spUse K)) (D5 : Def P w K mg base CX0 1 "_law_wrapped" ["words"] spWrap)
    (g_law_make : mg "_law_make" = some (.ref f)) (kp_law_make : PySem.W.keepIn K (.ref f) = true) (b_law_make : Binds K fd ["stream", "depth", "scope", "names"] []) :
    ∀ n, FnOk P w K mg base CX0 (n + 8) f fd ["stream", "depth", "scope", "names"] (spMake K n) := by
  obtain ⟨f1, fd1, g_law_draw, kp_law_draw, b_law_draw, G_law_draw⟩ := D1
  obtain ⟨f2, fd2, g_law_drawn_name, kp_law_drawn_name, b_law_drawn_name, G_law_drawn_name⟩ := D2
  obtain ⟨f3, fd3, g_law_scope_names, kp_law_scope_names, b_law_scope_names, G_law_scope_names⟩ := D3
  obtain ⟨f4, fd4, g_law_use, kp_law_use, b_law_use, G_law_use⟩ := D4
  obtain ⟨f5, fd5, g_law_wrapped, kp_law_wrapped, b_law_wrapped, G_law_wrapped⟩ := D5
  intro n
  induction n with
  | zero =>
    refine ⟨fun vs H Q E h => ?_, fun A outer s H args us vs Q E _ _ _ _ h => ?_⟩
    · obtain ⟨_, _, _, _, _, _, _, _, _, _, _, h, _⟩ := h
      exact absurd h (Nat.not_lt_zero _)
    · obtain ⟨_, _, _, _, _, _, _, _, _, _, _, h, _⟩ := h
      exact absurd h (Nat.not_lt_zero _)
  | succ n G_law_make =>
    have FO : FnOk P w K mg base CX0 (n + 8 + 1) f fd ["stream", "depth", "scope", "names"] (spMake K (n + 1)) := by
      refine F.ok sc_law_make (fun vs H Q E h => ?_) (fun cdv A outer s H vs Q E hr h => ?_)
      · obtain ⟨_, _, _, _, _, _, _, rfl, _⟩ := h
        rfl
      · obtain ⟨s1, a, b, m, d, sc, fs, rfl, st, ha, hb, hn, hn12, hsl, hfl, hsn, hfn, q⟩ := h
        refine ⟨_, (pss_cons (ps_set (i := 4) sc_law_make.nd rfl (.inl rfl) (pe_call G_law_scope_names (hr.mono (by first | decide | omega)) (by rfl) g_law_scope_names kp_law_scope_names b_law_scope_names .nil pass0 (pa_cons (pv 2) (pa_cons (pv 3) pa_nil)))) (pss_cons (ps_set (i := 5) sc_law_make.nd rfl (.inl rfl) (pe_call G_law_draw (hr.mono (by first | decide | omega)) (by rfl) g_law_draw kp_law_draw b_law_draw .nil pass0 (pa_cons (pv 0) (pa_cons pe_int pa_nil)))) (pss_cut (ps_if (PW.pt (pw_and (pt_truth (pv 4) (by intro _; rfl)) (pw_and1 (PW.pt (pw_or (pt_cmpR op_eq (pv 1) pe_int (nomark _)) (pw_or1 (pt_cmpR op_eq (pv 5) pe_int (nomark _)))))))) (pss_cons (ps_set (i := 6) sc_law_make.nd rfl (.inl rfl) (pe_ix ix_list (pv 4) (pe_call G_law_draw (hr.mono (by first | decide | omega)) (by rfl) g_law_draw kp_law_draw b_law_draw .nil pass0 (pa_cons (pv 0) (pa_cons (pe_callB call_len_seq (by rfl) T.n_len (by decide +kernel) (pa_cons (pv 4) pa_nil)) pa_nil))) (fun _ _ => rfl))) (pss_one (ps_ret (pe_tup (pa_cons (pe_lst (pa_cons (pv 6) pa_nil)) (pa_cons (pe_call G_law_use (hr.mono (by first | decide | omega)) (by rfl) g_law_use kp_law_use b_law_use .nil pass0 (pa_cons (pv 6) (pa_cons (pv 2) (pa_cons (pv 3) pa_nil)))) (pa_cons pe_str pa_nil))))))) pss_nil) (pss_cons (ps_if (PW.pt (pw_or (pt_cmpR op_eq (pv 1) pe_int (nomark _)) (pw_or1 (pt_cmpR op_lt (pv 5) pe_int (nomark _))))) (pss_cons (ps_setLc (i := 7) (own := [("k", 8)]) (g := gName 8) (tt := tYes) rfl sc_law_make.nd rfl rfl (sw_true rfl rfl rfl (by decide +kernel)) (pi_range1 (by rfl) T.n_range (pa_cons (pe_op op_add pe_int (pe_call G_law_draw (hr.mono (by first | decide | omega)) (by rfl) g_law_draw kp_law_draw b_law_draw .nil pass0 (pa_cons (pv 0) (pa_cons pe_int pa_nil)))) pa_nil)) (blkOk_by (N := N_law_make) (sc := defScope s_law_make) (by decide +kernel)) (fun _ _ _ _ _ => pg_name (i := 8) sc_law_make.nd rfl (Or.inl rfl)) (fun _ _ _ _ _ => pts_nil) (fun _ _ _ _ _ => (pe_call G_law_drawn_name (hr.mono (by first | decide | omega)) (by rfl) g_law_drawn_name kp_law_drawn_name b_law_drawn_name .nil pass0 (pa_cons (pv 0) pa_nil)))) (pss_cons (ps_asg (pe_call G_law_make (hr.mono (by first | decide | omega)) (by rfl) g_law_make kp_law_make b_law_make .nil pass0 (pa_cons (pv 0) (pa_cons (pe_callB (call_max2 rfl) (by rfl) T.n_max (by decide +kernel) (pa_cons pe_int (pa_cons (pe_op op_sub (pv 1) pe_int) pa_nil))) (pa_cons (pe_op op_cat (pv 2) (pv 7)) (pa_cons (pv 3) pa_nil))))) (pg_tup (by rfl) (pgs_cons (pg_name (i := 9) sc_law_make.nd rfl (.inl rfl)) (pgs_cons (pg_name (i := 10) sc_law_make.nd rfl (.inl rfl)) (pgs_cons (pg_name (i := 11) sc_law_make.nd rfl (.inl rfl)) pgs_nil))))) (pss_one (ps_ret (pe_tup (pa_cons (pe_op op_cat (pe_op op_cat (pe_op op_cat (pe_lst (pa_cons pe_str pa_nil)) (pv 7)) (pe_lst (pa_cons pe_str pa_nil))) (pv 9)) (pa_cons (pe_op op_catA (pe_op op_repB (pe_tup (pa_cons pe_str pa_nil)) (pe_callB call_len_seq (by rfl) T.n_len (by decide +kernel) (pa_cons (pv 7) pa_nil))) (pv 10)) (pa_cons pe_str pa_nil)))))))) pss_nil) (pss_cons (ps_asg (pe_call G_law_make (hr.mono (by first | decide | omega)) (by rfl) g_law_make kp_law_make b_law_make .nil pass0 (pa_cons (pv 0) (pa_cons (pe_op op_sub (pv 1) pe_int) (pa_cons (pv 2) (pa_cons (pv 3) pa_nil))))) (pg_tup (by rfl) (pgs_cons (pg_name (i := 12) sc_law_make.nd rfl (.inl rfl)) (pgs_cons (pg_name (i := 13) sc_law_make.nd rfl (.inl rfl)) (pgs_cons (pg_name (i := 11) sc_law_make.nd rfl (.inl rfl)) pgs_nil))))) (pss_cons (ps_asg (pe_call G_law_make (hr.mono (by first | decide | omega)) (by rfl) g_law_make kp_law_make b_law_make .nil pass0 (pa_cons (pv 0) (pa_cons (pe_op op_sub (pv 1) pe_int) (pa_cons (pv 2) (pa_cons (pv 3) pa_nil))))) (pg_tup (by rfl) (pgs_cons (pg_name (i := 14) sc_law_make.nd rfl (.inl rfl)) (pgs_cons (pg_name (i := 15) sc_law_make.nd rfl (.inl rfl)) (pgs_cons (pg_name (i := 16) sc_law_make.nd rfl (.inl rfl)) pgs_nil))))) (pss_cut (ps_if (PW.pt (pw_or (pt_cmpR op_eq (pv 11) pe_str (nomark _)) (pw_or1 (pt_cmpR op_eq (pe_call G_law_draw (hr.mono (by first | decide | omega)) (by rfl) g_law_draw kp_law_draw b_law_draw .nil pass0 (pa_cons (pv 0) (pa_cons pe_int pa_nil))) pe_int (nomark _))))) (pss_one (ps_set (i := 12) sc_law_make.nd rfl (.inl rfl) (pe_call G_law_wrapped (hr.mono (by first | decide | omega)) (by rfl) g_law_wrapped kp_law_wrapped b_law_wrapped .nil pass0 (pa_cons (pv 12) pa_nil)))) pss_nil) (pss_cons (ps_if (PW.pt (pw_and (pt_cmpR op_eq (pv 16) pe_str (nomark _)) (pw_and1 (pt_cmpR op_gt (pe_call G_law_draw (hr.mono (by first | decide | omega)) (by rfl) g_law_draw kp_law_draw b_law_draw .nil pass0 (pa_cons (pv 0) (pa_cons pe_int pa_nil))) pe_int (nomark _))))) (pss_one (ps_ret (pe_tup (pa_cons (pe_op op_cat (pv 12) (pv 14)) (pa_cons (pe_op op_catA (pe_op op_catA (pe_tup (pa_cons pe_str pa_nil)) (pv 13)) (pv 15)) (pa_cons pe_str pa_nil)))))) pss_nil) (pss_cons (ps_if (PW.pt (pw_and (pt_cmpR op_eq (pv 16) pe_str (nomark _)) (pw_and (pt_cmpR op_eq (pe_ix ix_list (pv 14) pe_int (fun _ _ => rfl)) pe_str (nomark _)) (pw_and1 (pt_cmpR op_eq (pe_call G_law_draw (hr.mono (by first | decide | omega)) (by rfl) g_law_draw kp_law_draw b_law_draw .nil pass0 (pa_cons (pv 0) (pa_cons pe_int pa_nil))) pe_int (nomark _)))))) (pss_one (ps_ret (pe_tup (pa_cons (pe_op op_cat (pv 12) (pv 14)) (pa_cons (pe_op op_catA (pe_op op_catA (pe_tup (pa_cons pe_str pa_nil)) (pv 13)) (pv 15)) (pa_cons pe_str pa_nil)))))) pss_nil) (pss_one (ps_ret (pe_tup (pa_cons (pe_op op_cat (pv 12) (pe_call G_law_wrapped (hr.mono (by first | decide | omega)) (by rfl) g_law_wrapped kp_law_wrapped b_law_wrapped .nil pass0 (pa_cons (pv 14) pa_nil))) (pa_cons (pe_op op_catA (pe_op op_catA (pe_tup (pa_cons pe_str pa_nil)) (pv 13)) (pv 15)) (pa_cons pe_str pa_nil))))))))))))))), ?_⟩
        refine sl_of (σ2 := [some _, some _, some _, some _, none, none, none, none, none, none, none, none, none, none, none, none, none]) rfl ?_
        have na := pl_off st ha
        have nb := pl_off st hb
        generalize he : (if sc = [] ∧ fs = [] then 1 else 0) = e at *
        have he1 : e ≤ 1 := by rw [← he]; split <;> omega
        have hd5 : d ≤ 6 := by omega
        walk_at "st"
        walk_at "go"
        refine ⟨a, b, sc, fs, rfl, ha, hb, by omega, by omega, fun H1 pk kn e1 hpk hkn hk0 hkl => ?_⟩
        have st1 := st.ex e1
        have ha1 := e1 _ _ ha
        have hb1 := e1 _ _ hb
        have nk := pl_off st1 hpk
        clear ha hb
        walk_at "go"
        refine ⟨s1, m, 6, rfl, st1, by decide, by decide, fun H2 fr2 st2 => ?_⟩
        have v2 := m.val_lt (n := 6) (by decide)
        have fol2 := Fol.next m 6
        generalize m.val 6 = pick at *
        generalize m.next 6 = m2 at *
        have ha2 := fr2 _ _ na ha1
        have hb2 := fr2 _ _ nb hb1
        have hk2 := fr2 _ _ nk hpk
        have fr02 : Fr s1 H H2 := (Fr.ex e1).trans fr2
        clear ha1 hb1 hpk fr2 st1 e1
        have lkn : (plcs kn).length = kn.length := List.length_map _
        walk_at "go"
        refine w_cut (M := fun σ' H' => σ' = [some (.ref s1), some (.int (d : Int)), some (.ref a), some (.ref b), some (.ref pk), some (.int pick), none, none, none, none, none, none, none, none, none, none, none] ∧ H' = H2 ∧ (d = 0 → sc = [] ∧ fs = [])) ?_ ?_
        · walk_at "go"
          by_cases hk : kn = []
          · rw [if_neg (by rw [hk]; simp)]
            walk_at "go"
            exact ⟨rfl, rfl, fun _ => hk0 hk⟩
          · have hkp : 0 < kn.length := List.length_pos_iff.mpr hk
            rw [if_pos (by cases kn with
              | nil => exact absurd rfl hk
              | cons _ _ => rfl)]
            walk_at "go"
            refine w_br (fun c1 => ?_) (fun c1 => ?_)
            · walk_at "go"
              refine ⟨s1, m2, ((plcs kn).length : Nat), rfl, st2, by rw [lkn]; omega, by rw [lkn]; omega, fun H3 fr3 st3 => ?_⟩
              have v3 := m2.val_lt (n := ((plcs kn).length : Nat)) (by rw [lkn]; omega)
              have fol3 := fol2.trans (Fol.next m2 ((plcs kn).length : Nat))
              generalize m2.val ((plcs kn).length : Nat) = n3 at *
              generalize m2.next ((plcs kn).length : Nat) = m3 at *
              obtain ⟨c, rfl⟩ : ∃ k : Nat, n3 = (k : Int) := ⟨n3.toNat, (Int.toNat_of_nonneg v3.1).symm⟩
              rw [lkn] at v3
              obtain ⟨x, hx⟩ : ∃ x, kn[c]? = some x := ⟨_, List.getElem?_eq_getElem (by omega)⟩
              have hxm := hkn x (List.mem_of_getElem? hx)
              have hxn : IsNm x := hxm.elim (hsn x) (hfn x)
              have hk3 := fr3 _ _ nk hk2
              have ha3 := fr3 _ _ na ha2
              have hb3 := fr3 _ _ nb hb2
              walk_at "go"
              refine w_ixL (SqL.of hk3) (atI_nat (by rw [List.getElem?_map, hx]; rfl)) ?_
              walk_at "go"
              intro p4 hp4
              have e4 := Ex.new hp4 (o := .lst (plcs [x]))
              have h4 : upd H3 p4 (.lst (plcs [x])) p4 = some (.lst (plcs [x])) := upd_same
              rw [show (HO.lst [V.str (pl x)]) = .lst (plcs [x]) from rfl]
              have ha4 := e4 _ _ ha3
              have hb4 := e4 _ _ hb3
              have st4 := st3.ex e4
              generalize upd H3 p4 (.lst (plcs [x])) = H4 at *
              walk_at "go"
              refine ⟨x, a, b, sc, fs, rfl, ha4, hb4, by omega, by omega, hxm, fun k5 hk5 H5 p5 e5 hp5 => ?_⟩
              walk_at "go"
              intro p6 hp6
              have e6 := Ex.new hp6 (o := .tup [V.ref p4, V.ref p5, V.str "part"])
              exact q _ p6 p4 p5 m3 [x] (.var k5) .part (fr02.trans (fr3.trans (Fr.ex (e4.trans (e5.trans e6))))) (st4.ex (e5.trans e6)) fol3 (SqT.of upd_same) ((e5.trans e6) _ _ h4) (ex_t e6 hp5) (.name hxn hk5)
            · walk_at "go"
              refine w_br (fun c2 => ?_) (fun c2 => ?_)
              · walk_at "go"
                refine ⟨s1, m2, ((plcs kn).length : Nat), rfl, st2, by rw [lkn]; omega, by rw [lkn]; omega, fun H3 fr3 st3 => ?_⟩
                have v3 := m2.val_lt (n := ((plcs kn).length : Nat)) (by rw [lkn]; omega)
                have fol3 := fol2.trans (Fol.next m2 ((plcs kn).length : Nat))
                generalize m2.val ((plcs kn).length : Nat) = n3 at *
                generalize m2.next ((plcs kn).length : Nat) = m3 at *
                obtain ⟨c, rfl⟩ : ∃ k : Nat, n3 = (k : Int) := ⟨n3.toNat, (Int.toNat_of_nonneg v3.1).symm⟩
                rw [lkn] at v3
                obtain ⟨x, hx⟩ : ∃ x, kn[c]? = some x := ⟨_, List.getElem?_eq_getElem (by omega)⟩
                have hxm := hkn x (List.mem_of_getElem? hx)
                have hxn : IsNm x := hxm.elim (hsn x) (hfn x)
                have hk3 := fr3 _ _ nk hk2
                have ha3 := fr3 _ _ na ha2
                have hb3 := fr3 _ _ nb hb2
                walk_at "go"
                refine w_ixL (SqL.of hk3) (atI_nat (by rw [List.getElem?_map, hx]; rfl)) ?_
                walk_at "go"
                intro p4 hp4
                have e4 := Ex.new hp4 (o := .lst (plcs [x]))
                have h4 : upd H3 p4 (.lst (plcs [x])) p4 = some (.lst (plcs [x])) := upd_same
                rw [show (HO.lst [V.str (pl x)]) = .lst (plcs [x]) from rfl]
                have ha4 := e4 _ _ ha3
                have hb4 := e4 _ _ hb3
                have st4 := st3.ex e4
                generalize upd H3 p4 (.lst (plcs [x])) = H4 at *
                walk_at "go"
                refine ⟨x, a, b, sc, fs, rfl, ha4, hb4, by omega, by omega, hxm, fun k5 hk5 H5 p5 e5 hp5 => ?_⟩
                walk_at "go"
                intro p6 hp6
                have e6 := Ex.new hp6 (o := .tup [V.ref p4, V.ref p5, V.str "part"])
                exact q _ p6 p4 p5 m3 [x] (.var k5) .part (fr02.trans (fr3.trans (Fr.ex (e4.trans (e5.trans e6))))) (st4.ex (e5.trans e6)) fol3 (SqT.of upd_same) ((e5.trans e6) _ _ h4) (ex_t e6 hp5) (.name hxn hk5)
              · walk_at "go"
                exact ⟨rfl, rfl, fun z => absurd (by rw [z]; rfl) c1⟩
        rintro σ' H2 ⟨rfl, rfl, hd0⟩
        walk_at "go"
        refine w_br (fun c1 => ?_) (fun c1 => ?_)
        · walk_at "go"
          refine ⟨s1, m2, 3, rfl, st2, by decide, by decide, fun H3 fr3 st3 => ?_⟩
          have v3 := m2.val_lt (n := 3) (by decide)
          have fol3 := fol2.trans (Fol.next m2 3)
          generalize m2.val 3 = n3 at *
          generalize m2.next 3 = m3 at *
          obtain ⟨c, rfl⟩ : ∃ k : Nat, n3 = (k : Int) := ⟨n3.toNat, (Int.toNat_of_nonneg v3.1).symm⟩
          walk_at "go"
          intro d0 hd0n
          have nd0 := st3.ne hd0n
          refine lc_range (lo := 0) (n := (1 + (c : Int)).toNat) (fun i H' => ∃ m' own, StAt H' s1 m' ∧ Fr s1 H3 H' ∧ Fol m m' ∧ m'.home = m3.home ∧ H' d0 = some (.lst (plcs own)) ∧ (∀ w ∈ own, IsNm w) ∧ own.length = i)
            ⟨m3, [], st3.new hd0n, Fr.ex (Ex.new hd0n), fol3, rfl, upd_same, by simp, rfl⟩ ?_ ?_
          · rintro i H4 hi ⟨m4, own, st4, fr4, fol4, hm4, hd4, hon, hol⟩
            walk_at "go"
            refine ⟨s1, m4, rfl, st4, fun H5 m5 w fr5 st5 fol5 hw => ?_⟩
            have hd5 := fr5 _ _ nd0.1 hd4
            have hme : m5.home = m3.home := fol5.1.trans hm4
            have lol : (plcs own).length = own.length := List.length_map _
            refine ⟨plcs own, hd5, ly_lt (by omega), m5, own ++ [w], st5.put nd0.1 (by rw [hme]; exact nd0.2), Fr.mut (fr4.trans fr5) hd0n, fol4.trans fol5, hme, by rw [upd_same]; simp [plcs], ?_, by rw [List.length_append, hol]; rfl⟩
            intro v hv
            rcases List.mem_append.mp hv with h | h
            · exact hon v h
            · rw [List.mem_singleton.mp h]
              exact hw
          · rintro H4 ⟨m4, own, st4, fr4, fol4, hm4, hd4, hon, hol⟩
            have fr34 := fr3.trans fr4
            have ha4 := fr34 _ _ na ha2
            have hb4 := fr34 _ _ nb hb2
            have lol : (plcs own).length = own.length := List.length_map _
            have lsc : (plcs sc).length = sc.length := List.length_map _
            have hone : own ≠ [] := fun z => by rw [z] at hol; simp at hol; omega
            walk_at "go"
            refine ⟨_, _, rfl, ?_⟩
            walk_at "go"
            · exact ly_sz (by omega)
            intro pc hpc
            have e5 := Ex.new hpc (o := .lst (plcs sc ++ plcs own))
            have hc5 : upd H4 pc (.lst (plcs sc ++ plcs own)) pc = some (.lst (plcs (sc ++ own))) := by rw [upd_same]; simp [plcs]
            have hb5 := e5 _ _ hb4
            have hd5 := e5 _ _ hd4
            have st5 := st4.ex e5
            generalize upd H4 pc (.lst (plcs sc ++ plcs own)) = H5 at *
            walk_at "go"
            have hne : ¬ (sc ++ own = [] ∧ fs = []) := fun z => hone (List.append_eq_nil_iff.mp z.1).2
            have hde : d = 0 → e = 1 := fun z => by rw [← he, if_pos (hd0 z)]
            refine ⟨s1, pc, b, m4, d - 1, sc ++ own, fs, ?_, st5, hc5, hb5, by rw [if_neg hne]; by_cases d = 0 <;> omega, by omega, by rw [List.length_append]; omega, hfl, ?_, hfn, fun H6 p6 pw pt m6 ws t kd fr6 st6 fol6 hp6 hpw hpt hmk => ?_⟩
            · have : (if (d : Int) - 1 > 0 then (d : Int) - 1 else 0) = ((d - 1 : Nat) : Int) := by split <;> omega
              rw [this]
              rfl
            · intro w hw
              exact (List.mem_append.mp hw).elim (hsn w) (hon w)
            rw [if_neg hne] at hmk
            have hd6 := fr6 _ _ nd0.1 hd5
            have fr06 : Fr s1 H H6 := fr02.trans (fr34.trans ((Fr.ex e5).trans fr6))
            have hsz := hmk.size
            have h2p : 2 ^ (d - 1 + 0) ≤ 2 ^ 6 := Nat.pow_le_pow_right (by decide) (by omega)
            walk_at "go"
            intro q1 hq1
            have g1 := Ex.new hq1 (o := .lst (plcs [[92]]))
            have k1 : upd H6 q1 (.lst (plcs [[92]])) q1 = some (.lst (plcs [[92]])) := upd_same
            rw [show (HO.lst [V.str "\\"]) = .lst (plcs [[92]]) by rw [plcs, List.map_cons, List.map_nil, pl_bs]]
            have hd7 := g1 _ _ hd6
            generalize upd H6 q1 (.lst (plcs [[92]])) = H7 at *
            walk_at "go"
            · exact ly_sz (by simp; omega)
            intro q2 hq2
            have g2 := Ex.new hq2 (o := .lst (plcs [[92]] ++ plcs own))
            have k2 : upd H7 q2 (.lst (plcs [[92]] ++ plcs own)) q2 = some (.lst (plcs ([[92]] ++ own))) := by rw [upd_same]; simp [plcs]
            generalize upd H7 q2 (.lst (plcs [[92]] ++ plcs own)) = H8 at *
            walk_at "go"
            intro q3 hq3
            have g3 := Ex.new hq3 (o := .lst (plcs [[46]]))
            have k3 : upd H8 q3 (.lst (plcs [[46]])) q3 = some (.lst (plcs [[46]])) := upd_same
            rw [show (HO.lst [V.str "."]) = .lst (plcs [[46]]) by rw [plcs, List.map_cons, List.map_nil, pl_pd]]
            have k2b := g3 _ _ k2
            generalize upd H8 q3 (.lst (plcs [[46]])) = H9 at *
            refine w_cat k2b k3 (ly_sz (by simp; omega)) fun q4 hq4 => ?_
            have g4 := Ex.new hq4 (o := .lst (plcs ([[92]] ++ own) ++ plcs [[46]]))
            have k4 : upd H9 q4 (.lst (plcs ([[92]] ++ own) ++ plcs [[46]])) q4 = some (.lst (plcs ([[92]] ++ own ++ [[46]]))) := by rw [upd_same]; simp [plcs]
            have g14 := ((g1.trans g2).trans g3).trans g4
            have hpw10 := g14 _ _ hpw
            have hpt10 := ex_t g14 hpt
            have hd10 := g14 _ _ hd6
            generalize upd H9 q4 (.lst (plcs ([[92]] ++ own) ++ plcs [[46]])) = H10 at *
            walk_at "go"
            · exact ly_sz (by simp; omega)
            intro q5 hq5
            have g5 := Ex.new hq5 (o := .lst (plcs ([[92]] ++ own ++ [[46]]) ++ plcs ws))
            have k5 : upd H10 q5 (.lst (plcs ([[92]] ++ own ++ [[46]]) ++ plcs ws)) q5 = some (.lst (plcs ([92] :: (own ++ [46] :: ws)))) := by rw [upd_same]; simp [plcs]
            have hpt11 := ex_t g5 hpt10
            have hd11 := g5 _ _ hd10
            generalize upd H10 q5 (.lst (plcs ([[92]] ++ own ++ [[46]]) ++ plcs ws)) = H11 at *
            walk_at "go"
            intro q6 hq6
            have g6 := Ex.new hq6 (o := .tup [V.str "lam"])
            have k6 : SqT K (upd H11 q6 (.tup [V.str "lam"])) q6 [V.str "lam"] := SqT.of upd_same
            have hd12 := g6 _ _ hd11
            have hpt12 := ex_t g6 hpt11
            generalize upd H11 q6 (.tup [V.str "lam"]) = H12 at *
            walk_at "go"
            intro q7 H13 g7 hq7
            rw [lol, Int.toNat_natCast] at hq7
            have hpt13 := ex_t g7 hpt12
            walk_at "go"
            intro q8 H14 g8 hq8
            rw [← Tm.enc_lamN] at hq8
            walk_at "go"
            intro q9 hq9
            have g9 := Ex.new hq9 (o := .tup [V.ref q5, V.ref q8, V.str "open"])
            have g149 := (((g5.trans g6).trans g7).trans g8).trans g9
            refine q _ q9 q5 q8 m6 _ _ .abs (fr06.trans (Fr.ex (g14.trans g149))) (st6.ex (g14.trans g149)) (fol4.trans fol6) (SqT.of upd_same) ((((g6.trans g7).trans g8).trans g9) _ _ k5) (ex_t g9 hq8) ?_
            exact (Mk.abs hone (by omega) hon hmk).mono (by by_cases d = 0 <;> omega)
        · walk_at "go"
          refine w_br (fun c2 => ?_) (fun c2 => ?_)
          · walk_at "go"
            refine ⟨s1, m2, 3, rfl, st2, by decide, by decide, fun H3 fr3 st3 => ?_⟩
            have v3 := m2.val_lt (n := 3) (by decide)
            have fol3 := fol2.trans (Fol.next m2 3)
            generalize m2.val 3 = n3 at *
            generalize m2.next 3 = m3 at *
            obtain ⟨c, rfl⟩ : ∃ k : Nat, n3 = (k : Int) := ⟨n3.toNat, (Int.toNat_of_nonneg v3.1).symm⟩
            walk_at "go"
            intro d0 hd0n
            have nd0 := st3.ne hd0n
            refine lc_range (lo := 0) (n := (1 + (c : Int)).toNat) (fun i H' => ∃ m' own, StAt H' s1 m' ∧ Fr s1 H3 H' ∧ Fol m m' ∧ m'.home = m3.home ∧ H' d0 = some (.lst (plcs own)) ∧ (∀ w ∈ own, IsNm w) ∧ own.length = i)
              ⟨m3, [], st3.new hd0n, Fr.ex (Ex.new hd0n), fol3, rfl, upd_same, by simp, rfl⟩ ?_ ?_
            · rintro i H4 hi ⟨m4, own, st4, fr4, fol4, hm4, hd4, hon, hol⟩
              walk_at "go"
              refine ⟨s1, m4, rfl, st4, fun H5 m5 w fr5 st5 fol5 hw => ?_⟩
              have hd5 := fr5 _ _ nd0.1 hd4
              have hme : m5.home = m3.home := fol5.1.trans hm4
              have lol : (plcs own).length = own.length := List.length_map _
              refine ⟨plcs own, hd5, ly_lt (by omega), m5, own ++ [w], st5.put nd0.1 (by rw [hme]; exact nd0.2), Fr.mut (fr4.trans fr5) hd0n, fol4.trans fol5, hme, by rw [upd_same]; simp [plcs], ?_, by rw [List.length_append, hol]; rfl⟩
              intro v hv
              rcases List.mem_append.mp hv with h | h
              · exact hon v h
              · rw [List.mem_singleton.mp h]
                exact hw
            · rintro H4 ⟨m4, own, st4, fr4, fol4, hm4, hd4, hon, hol⟩
              have fr34 := fr3.trans fr4
              have ha4 := fr34 _ _ na ha2
              have hb4 := fr34 _ _ nb hb2
              have lol : (plcs own).length = own.length := List.length_map _
              have lsc : (plcs sc).length = sc.length := List.length_map _
              have hone : own ≠ [] := fun z => by rw [z] at hol; simp at hol; omega
              walk_at "go"
              refine ⟨_, _, rfl, ?_⟩
              walk_at "go"
              · exact ly_sz (by omega)
              intro pc hpc
              have e5 := Ex.new hpc (o := .lst (plcs sc ++ plcs own))
              have hc5 : upd H4 pc (.lst (plcs sc ++ plcs own)) pc = some (.lst (plcs (sc ++ own))) := by rw [upd_same]; simp [plcs]
              have hb5 := e5 _ _ hb4
              have hd5 := e5 _ _ hd4
              have st5 := st4.ex e5
              generalize upd H4 pc (.lst (plcs sc ++ plcs own)) = H5 at *
              walk_at "go"
              have hne : ¬ (sc ++ own = [] ∧ fs = []) := fun z => hone (List.append_eq_nil_iff.mp z.1).2
              have hde : d = 0 → e = 1 := fun z => by rw [← he, if_pos (hd0 z)]
              refine ⟨s1, pc, b, m4, d - 1, sc ++ own, fs, ?_, st5, hc5, hb5, by rw [if_neg hne]; by_cases d = 0 <;> omega, by omega, by rw [List.length_append]; omega, hfl, ?_, hfn, fun H6 p6 pw pt m6 ws t kd fr6 st6 fol6 hp6 hpw hpt hmk => ?_⟩
              · have : (if (d : Int) - 1 > 0 then (d : Int) - 1 else 0) = ((d - 1 : Nat) : Int) := by split <;> omega
                rw [this]
                rfl
              · intro w hw
                exact (List.mem_append.mp hw).elim (hsn w) (hon w)
              rw [if_neg hne] at hmk
              have hd6 := fr6 _ _ nd0.1 hd5
              have fr06 : Fr s1 H H6 := fr02.trans (fr34.trans ((Fr.ex e5).trans fr6))
              have hsz := hmk.size
              have h2p : 2 ^ (d - 1 + 0) ≤ 2 ^ 6 := Nat.pow_le_pow_right (by decide) (by omega)
              walk_at "go"
              intro q1 hq1
              have g1 := Ex.new hq1 (o := .lst (plcs [[92]]))
              have k1 : upd H6 q1 (.lst (plcs [[92]])) q1 = some (.lst (plcs [[92]])) := upd_same
              rw [show (HO.lst [V.str "\\"]) = .lst (plcs [[92]]) by rw [plcs, List.map_cons, List.map_nil, pl_bs]]
              have hd7 := g1 _ _ hd6
              generalize upd H6 q1 (.lst (plcs [[92]])) = H7 at *
              walk_at "go"
              · exact ly_sz (by simp; omega)
              intro q2 hq2
              have g2 := Ex.new hq2 (o := .lst (plcs [[92]] ++ plcs own))
              have k2 : upd H7 q2 (.lst (plcs [[92]] ++ plcs own)) q2 = some (.lst (plcs ([[92]] ++ own))) := by rw [upd_same]; simp [plcs]
              generalize upd H7 q2 (.lst (plcs [[92]] ++ plcs own)) = H8 at *
              walk_at "go"
              intro q3 hq3
              have g3 := Ex.new hq3 (o := .lst (plcs [[46]]))
              have k3 : upd H8 q3 (.lst (plcs [[46]])) q3 = some (.lst (plcs [[46]])) := upd_same
              rw [show (HO.lst [V.str "."]) = .lst (plcs [[46]]) by rw [plcs, List.map_cons, List.map_nil, pl_pd]]
              have k2b := g3 _ _ k2
              generalize upd H8 q3 (.lst (plcs [[46]])) = H9 at *
              refine w_cat k2b k3 (ly_sz (by simp; omega)) fun q4 hq4 => ?_
              have g4 := Ex.new hq4 (o := .lst (plcs ([[92]] ++ own) ++ plcs [[46]]))
              have k4 : upd H9 q4 (.lst (plcs ([[92]] ++ own) ++ plcs [[46]])) q4 = some (.lst (plcs ([[92]] ++ own ++ [[46]]))) := by rw [upd_same]; simp [plcs]
              have g14 := ((g1.trans g2).trans g3).trans g4
              have hpw10 := g14 _ _ hpw
              have hpt10 := ex_t g14 hpt
              have hd10 := g14 _ _ hd6
              generalize upd H9 q4 (.lst (plcs ([[92]] ++ own) ++ plcs [[46]])) = H10 at *
              walk_at "go"
              · exact ly_sz (by simp; omega)
              intro q5 hq5
              have g5 := Ex.new hq5 (o := .lst (plcs ([[92]] ++ own ++ [[46]]) ++ plcs ws))
              have k5 : upd H10 q5 (.lst (plcs ([[92]] ++ own ++ [[46]]) ++ plcs ws)) q5 = some (.lst (plcs ([92] :: (own ++ [46] :: ws)))) := by rw [upd_same]; simp [plcs]
              have hpt11 := ex_t g5 hpt10
              have hd11 := g5 _ _ hd10
              generalize upd H10 q5 (.lst (plcs ([[92]] ++ own ++ [[46]]) ++ plcs ws)) = H11 at *
              walk_at "go"
              intro q6 hq6
              have g6 := Ex.new hq6 (o := .tup [V.str "lam"])
              have k6 : SqT K (upd H11 q6 (.tup [V.str "lam"])) q6 [V.str "lam"] := SqT.of upd_same
              have hd12 := g6 _ _ hd11
              have hpt12 := ex_t g6 hpt11
              generalize upd H11 q6 (.tup [V.str "lam"]) = H12 at *
              walk_at "go"
              intro q7 H13 g7 hq7
              rw [lol, Int.toNat_natCast] at hq7
              have hpt13 := ex_t g7 hpt12
              walk_at "go"
              intro q8 H14 g8 hq8
              rw [← Tm.enc_lamN] at hq8
              walk_at "go"
              intro q9 hq9
              have g9 := Ex.new hq9 (o := .tup [V.ref q5, V.ref q8, V.str "open"])
              have g149 := (((g5.trans g6).trans g7).trans g8).trans g9
              refine q _ q9 q5 q8 m6 _ _ .abs (fr06.trans (Fr.ex (g14.trans g149))) (st6.ex (g14.trans g149)) (fol4.trans fol6) (SqT.of upd_same) ((((g6.trans g7).trans g8).trans g9) _ _ k5) (ex_t g9 hq8) ?_
              exact (Mk.abs hone (by omega) hon hmk).mono (by by_cases d = 0 <;> omega)
          · have hdp : d ≠ 0 := fun z => c1 (by rw [z]; rfl)
            walk_at "go"
            refine ⟨s1, a, b, m2, d - 1, sc, fs, by rw [show (d : Int) - 1 = ((d - 1 : Nat) : Int) by omega]; rfl, st2, ha2, hb2, by rw [he]; omega, by omega, by omega, hfl, hsn, hfn, fun H3 p3 pl1 pt1 m3 l0 t1 kd1 fr3 st3 fol3 hp3 hpl3 hpt3 hmk3 => ?_⟩
            rw [he] at hmk3
            have ha3 := fr3 _ _ na ha2
            have hb3 := fr3 _ _ nb hb2
            walk_at "go"
            refine ⟨s1, a, b, m3, d - 1, sc, fs, by rw [show (d : Int) - 1 = ((d - 1 : Nat) : Int) by omega]; rfl, st3, ha3, hb3, by rw [he]; omega, by omega, by omega, hfl, hsn, hfn, fun H4 p4 pr4 pt4 m4 r0 t2 kd2 fr4 st4 fol4 hp4 hpr4 hpt4 hmk4 => ?_⟩
            rw [he] at hmk4
            have hpl4 := fr4 _ _ (pl_off st3 hpl3) hpl3
            have hpt3b := fr_t fr4 st3.2.1 hpt3
            have fr04 : Fr s1 H H4 := fr02.trans (fr3.trans fr4)
            have fol04 := (fol2.trans fol3).trans fol4
            have hs3 := hmk3.size
            have hs4 := hmk4.size
            have h2p : 2 ^ (d - 1 + e) ≤ 2 ^ 7 := Nat.pow_le_pow_right (by decide) (by omega)
            clear ha2 hb2 ha3 hb3 fr3 fr4 hpl3 hpt3 st2 st3 hk2 fol2 fol3 fol4 hp3 fr02
            walk_at "go"
            refine w_cut (M := fun σ' H' => ∃ pL L m', σ' = [some (.ref s1), some (.int (d : Int)), some (.ref a), some (.ref b), some (.ref pk), some (.int pick), none, none, none, none, none, some (.str (kdStr kd1)), some (.ref pL), some (.ref pt1), some (.ref pr4), some (.ref pt4), some (.str (kdStr kd2))] ∧ Fr s1 H4 H' ∧ StAt H' s1 m' ∧ Fol m m' ∧ H' pL = some (.lst (plcs L)) ∧ (L = wrapW l0 ∨ (L = l0 ∧ (kd1 = .part ∨ kd1 = .row)))) ?_ ?_
            · walk_at "go"
              refine w_br (fun c5 => ?_) (fun c5 => ?_)
              · walk_at "go"
                refine ⟨pl1, l0, rfl, hpl4, by omega, fun H5 p5 e5 hp5 => ?_⟩
                walk_at "go"
                exact ⟨p5, wrapW l0, m4, rfl, Fr.ex e5, st4.ex e5, fol04, hp5, .inl rfl⟩
              · walk_at "go"
                refine ⟨s1, m4, 5, rfl, st4, by decide, by decide, fun H5 fr5 st5 => ?_⟩
                have fol5 := fol04.trans (Fol.next m4 5)
                have hpl5 := fr5 _ _ (pl_off st4 hpl4) hpl4
                generalize m4.val 5 = n5 at *
                generalize m4.next 5 = m5 at *
                walk_at "go"
                refine w_br (fun c6 => ?_) (fun c6 => ?_)
                · walk_at "go"
                  refine ⟨pl1, l0, rfl, hpl5, by omega, fun H6 p6 e6 hp6 => ?_⟩
                  walk_at "go"
                  exact ⟨p6, wrapW l0, m5, rfl, fr5.trans (Fr.ex e6), st5.ex e6, fol5, hp6, .inl rfl⟩
                · walk_at "go"
                  refine ⟨pl1, l0, m5, rfl, fr5, st5, fol5, hpl5, .inr ⟨rfl, ?_⟩⟩
                  cases kd1
                  · exact .inl rfl
                  · exact .inr rfl
                  · exact absurd rfl c5
                  · exact absurd rfl c5
            rintro σ' H5 ⟨pL, L, m5, rfl, fr5, st5, fol5, hL5, hLd⟩
            have lL : L.length ≤ l0.length + 2 := by
              rcases hLd with rfl | ⟨rfl, _⟩
              · simp [wrapW]
              · omega
            have hR5 := fr5 _ _ (pl_off st4 hpr4) hpr4
            have hf5 := fr_t fr5 st4.2.1 hpt3b
            have hg5 := fr_t fr5 st4.2.1 hpt4
            have fr05 := fr04.trans fr5
            clear fr04 fr5 st4 hpl4 hpr4 hpt3b hpt4 fol04 hp4
            walk_at "go"
            cases kd2
            · rw [if_pos (by decide +kernel)]
              walk_at "go"
              refine ⟨s1, m5, 5, rfl, st5, by decide, by decide, fun H6 fr6 st6 => ?_⟩
              have folz := fol5.trans (Fol.next m5 5)
              have hLz := fr6 _ _ (pl_off st5 hL5) hL5
              have hRz := fr6 _ _ (pl_off st5 hR5) hR5
              have hfz := fr_t fr6 st5.2.1 hf5
              have hgz := fr_t fr6 st5.2.1 hg5
              have frz := fr05.trans fr6
              generalize m5.val 5 = n6 at *
              generalize m5.next 5 = mz at *
              have stz := st6
              walk_at "go"
              refine w_br (fun c7 => ?_) (fun c7 => ?_)
              · walk_at "go"
                · exact ly_sz (by simp; omega)
                intro q1 hq1
                have g1 := Ex.new hq1 (o := .lst (plcs L ++ plcs r0))
                have k1 : upd H6 q1 (.lst (plcs L ++ plcs r0)) q1 = some (.lst (plcs (L ++ r0))) := by rw [upd_same]; simp [plcs]
                have x1 := ex_t g1 hfz
                have x2 := ex_t g1 hgz
                generalize upd H6 q1 (.lst (plcs L ++ plcs r0)) = G1 at *
                walk_at "go"
                intro q2 hq2
                have g2 := Ex.new hq2 (o := .tup [V.str "app"])
                have k2 : SqT K (upd G1 q2 (.tup [V.str "app"])) q2 [V.str "app"] := SqT.of upd_same
                have x1 := ex_t g2 x1
                have x2 := ex_t g2 x2
                generalize upd G1 q2 (.tup [V.str "app"]) = G2 at *
                walk_at "go"
                intro q3 G3 g3 hq3
                have x2 := ex_t g3 x2
                walk_at "go"
                intro q4 G4 g4 hq4
                rw [show [V.str "app"] ++ t1.enc ++ t2.enc = (Tm.app t1 t2).enc by simp [Tm.enc]] at hq4
                walk_at "go"
                intro q5 hq5
                have g5 := Ex.new hq5 (o := .tup [V.ref q1, V.ref q4, V.str "row"])
                have g15 := (((g1.trans g2).trans g3).trans g4).trans g5
                refine q _ q5 q1 q4 mz (L ++ r0) (.app t1 t2) .row (frz.trans (Fr.ex g15)) (stz.ex g15) folz (SqT.of upd_same) ((((g2.trans g3).trans g4).trans g5) _ _ k1) (ex_t g5 hq4) ?_
                exact (Mk.app hmk3 hmk4 hLd (.inr (.inl ⟨rfl, rfl, rfl⟩))).mono (by omega)
              · walk_at "go"
                refine ⟨pr4, r0, rfl, hRz, by omega, fun H7 p7 e7 hp7 => ?_⟩
                have lw : (wrapW r0).length = r0.length + 2 := by simp [wrapW]
                have hfz := ex_t e7 hfz
                have hgz := ex_t e7 hgz
                have hLz := e7 _ _ hLz
                have frz := frz.trans (Fr.ex e7)
                have stz := stz.ex e7
                walk_at "go"
                · exact ly_sz (by simp; omega)
                intro q1 hq1
                have g1 := Ex.new hq1 (o := .lst (plcs L ++ plcs (wrapW r0)))
                have k1 : upd H7 q1 (.lst (plcs L ++ plcs (wrapW r0))) q1 = some (.lst (plcs (L ++ (wrapW r0)))) := by rw [upd_same]; simp [plcs]
                have x1 := ex_t g1 hfz
                have x2 := ex_t g1 hgz
                generalize upd H7 q1 (.lst (plcs L ++ plcs (wrapW r0))) = G1 at *
                walk_at "go"
                intro q2 hq2
                have g2 := Ex.new hq2 (o := .tup [V.str "app"])
                have k2 : SqT K (upd G1 q2 (.tup [V.str "app"])) q2 [V.str "app"] := SqT.of upd_same
                have x1 := ex_t g2 x1
                have x2 := ex_t g2 x2
                generalize upd G1 q2 (.tup [V.str "app"]) = G2 at *
                walk_at "go"
                intro q3 G3 g3 hq3
                have x2 := ex_t g3 x2
                walk_at "go"
                intro q4 G4 g4 hq4
                rw [show [V.str "app"] ++ t1.enc ++ t2.enc = (Tm.app t1 t2).enc by simp [Tm.enc]] at hq4
                walk_at "go"
                intro q5 hq5
                have g5 := Ex.new hq5 (o := .tup [V.ref q1, V.ref q4, V.str "row"])
                have g15 := (((g1.trans g2).trans g3).trans g4).trans g5
                refine q _ q5 q1 q4 mz (L ++ (wrapW r0)) (.app t1 t2) .row (frz.trans (Fr.ex g15)) (stz.ex g15) folz (SqT.of upd_same) ((((g2.trans g3).trans g4).trans g5) _ _ k1) (ex_t g5 hq4) ?_
                exact (Mk.app hmk3 hmk4 hLd (.inl ⟨rfl, rfl⟩)).mono (by omega)
            · rw [if_neg (by decide +kernel)]
              skip
              obtain ⟨mz, hmz⟩ : ∃ mz, mz = m5 := ⟨m5, rfl⟩
              rw [← hmz] at st5 fol5
              have stz := st5
              have frz := fr05
              have folz := fol5
              have hLz := hL5
              have hRz := hR5
              have hfz := hf5
              have hgz := hg5
              walk_at "go"
              refine ⟨pr4, r0, rfl, hRz, by omega, fun H7 p7 e7 hp7 => ?_⟩
              have lw : (wrapW r0).length = r0.length + 2 := by simp [wrapW]
              have hfz := ex_t e7 hfz
              have hgz := ex_t e7 hgz
              have hLz := e7 _ _ hLz
              have frz := frz.trans (Fr.ex e7)
              have stz := stz.ex e7
              walk_at "go"
              · exact ly_sz (by simp; omega)
              intro q1 hq1
              have g1 := Ex.new hq1 (o := .lst (plcs L ++ plcs (wrapW r0)))
              have k1 : upd H7 q1 (.lst (plcs L ++ plcs (wrapW r0))) q1 = some (.lst (plcs (L ++ (wrapW r0)))) := by rw [upd_same]; simp [plcs]
              have x1 := ex_t g1 hfz
              have x2 := ex_t g1 hgz
              generalize upd H7 q1 (.lst (plcs L ++ plcs (wrapW r0))) = G1 at *
              walk_at "go"
              intro q2 hq2
              have g2 := Ex.new hq2 (o := .tup [V.str "app"])
              have k2 : SqT K (upd G1 q2 (.tup [V.str "app"])) q2 [V.str "app"] := SqT.of upd_same
              have x1 := ex_t g2 x1
              have x2 := ex_t g2 x2
              generalize upd G1 q2 (.tup [V.str "app"]) = G2 at *
              walk_at "go"
              intro q3 G3 g3 hq3
              have x2 := ex_t g3 x2
              walk_at "go"
              intro q4 G4 g4 hq4
              rw [show [V.str "app"] ++ t1.enc ++ t2.enc = (Tm.app t1 t2).enc by simp [Tm.enc]] at hq4
              walk_at "go"
              intro q5 hq5
              have g5 := Ex.new hq5 (o := .tup [V.ref q1, V.ref q4, V.str "row"])
              have g15 := (((g1.trans g2).trans g3).trans g4).trans g5
              refine q _ q5 q1 q4 mz (L ++ (wrapW r0)) (.app t1 t2) .row (frz.trans (Fr.ex g15)) (stz.ex g15) folz (SqT.of upd_same) ((((g2.trans g3).trans g4).trans g5) _ _ k1) (ex_t g5 hq4) ?_
              exact (Mk.app hmk3 hmk4 hLd (.inl ⟨rfl, rfl⟩)).mono (by omega)
            · rw [if_neg (by decide +kernel)]
              walk_at "go"
              obtain ⟨v, rr, hrr, hv⟩ := hmk4.head
              have ixr : atI (plcs r0) 0 = some (.str (pl v)) := by rw [hrr]; exact at_of (j := 0) rfl rfl
              refine w_ixL (SqL.of hR5) ixr ?_
              walk_at "go"
              refine w_br (fun c8 => ?_) (fun c8 => ?_)
              · walk_at "go"
                refine ⟨s1, m5, 2, rfl, st5, by decide, by decide, fun H6 fr6 st6 => ?_⟩
                have folz := fol5.trans (Fol.next m5 2)
                have hLz := fr6 _ _ (pl_off st5 hL5) hL5
                have hRz := fr6 _ _ (pl_off st5 hR5) hR5
                have hfz := fr_t fr6 st5.2.1 hf5
                have hgz := fr_t fr6 st5.2.1 hg5
                have frz := fr05.trans fr6
                generalize m5.val 2 = n6 at *
                generalize m5.next 2 = mz at *
                have stz := st6
                walk_at "go"
                refine w_br (fun c9 => ?_) (fun c9 => ?_)
                · walk_at "go"
                  · exact ly_sz (by simp; omega)
                  intro q1 hq1
                  have g1 := Ex.new hq1 (o := .lst (plcs L ++ plcs r0))
                  have k1 : upd H6 q1 (.lst (plcs L ++ plcs r0)) q1 = some (.lst (plcs (L ++ r0))) := by rw [upd_same]; simp [plcs]
                  have x1 := ex_t g1 hfz
                  have x2 := ex_t g1 hgz
                  generalize upd H6 q1 (.lst (plcs L ++ plcs r0)) = G1 at *
                  walk_at "go"
                  intro q2 hq2
                  have g2 := Ex.new hq2 (o := .tup [V.str "app"])
                  have k2 : SqT K (upd G1 q2 (.tup [V.str "app"])) q2 [V.str "app"] := SqT.of upd_same
                  have x1 := ex_t g2 x1
                  have x2 := ex_t g2 x2
                  generalize upd G1 q2 (.tup [V.str "app"]) = G2 at *
                  walk_at "go"
                  intro q3 G3 g3 hq3
                  have x2 := ex_t g3 x2
                  walk_at "go"
                  intro q4 G4 g4 hq4
                  rw [show [V.str "app"] ++ t1.enc ++ t2.enc = (Tm.app t1 t2).enc by simp [Tm.enc]] at hq4
                  walk_at "go"
                  intro q5 hq5
                  have g5 := Ex.new hq5 (o := .tup [V.ref q1, V.ref q4, V.str "open"])
                  have g15 := (((g1.trans g2).trans g3).trans g4).trans g5
                  refine q _ q5 q1 q4 mz (L ++ r0) (.app t1 t2) .opn (frz.trans (Fr.ex g15)) (stz.ex g15) folz (SqT.of upd_same) ((((g2.trans g3).trans g4).trans g5) _ _ k1) (ex_t g5 hq4) ?_
                  exact (Mk.app hmk3 hmk4 hLd (.inr (.inr ⟨rfl, rfl, rfl⟩))).mono (by omega)
                · walk_at "go"
                  refine ⟨pr4, r0, rfl, hRz, by omega, fun H7 p7 e7 hp7 => ?_⟩
                  have lw : (wrapW r0).length = r0.length + 2 := by simp [wrapW]
                  have hfz := ex_t e7 hfz
                  have hgz := ex_t e7 hgz
                  have hLz := e7 _ _ hLz
                  have frz := frz.trans (Fr.ex e7)
                  have stz := stz.ex e7
                  walk_at "go"
                  · exact ly_sz (by simp; omega)
                  intro q1 hq1
                  have g1 := Ex.new hq1 (o := .lst (plcs L ++ plcs (wrapW r0)))
                  have k1 : upd H7 q1 (.lst (plcs L ++ plcs (wrapW r0))) q1 = some (.lst (plcs (L ++ (wrapW r0)))) := by rw [upd_same]; simp [plcs]
                  have x1 := ex_t g1 hfz
                  have x2 := ex_t g1 hgz
                  generalize upd H7 q1 (.lst (plcs L ++ plcs (wrapW r0))) = G1 at *
                  walk_at "go"
                  intro q2 hq2
                  have g2 := Ex.new hq2 (o := .tup [V.str "app"])
                  have k2 : SqT K (upd G1 q2 (.tup [V.str "app"])) q2 [V.str "app"] := SqT.of upd_same
                  have x1 := ex_t g2 x1
                  have x2 := ex_t g2 x2
                  generalize upd G1 q2 (.tup [V.str "app"]) = G2 at *
                  walk_at "go"
                  intro q3 G3 g3 hq3
                  have x2 := ex_t g3 x2
                  walk_at "go"
                  intro q4 G4 g4 hq4
                  rw [show [V.str "app"] ++ t1.enc ++ t2.enc = (Tm.app t1 t2).enc by simp [Tm.enc]] at hq4
                  walk_at "go"
                  intro q5 hq5
                  have g5 := Ex.new hq5 (o := .tup [V.ref q1, V.ref q4, V.str "row"])
                  have g15 := (((g1.trans g2).trans g3).trans g4).trans g5
                  refine q _ q5 q1 q4 mz (L ++ (wrapW r0)) (.app t1 t2) .row (frz.trans (Fr.ex g15)) (stz.ex g15) folz (SqT.of upd_same) ((((g2.trans g3).trans g4).trans g5) _ _ k1) (ex_t g5 hq4) ?_
                  exact (Mk.app hmk3 hmk4 hLd (.inl ⟨rfl, rfl⟩)).mono (by omega)
              · obtain ⟨mz, hmz⟩ : ∃ mz, mz = m5 := ⟨m5, rfl⟩
                rw [← hmz] at st5 fol5
                have stz := st5
                have frz := fr05
                have folz := fol5
                have hLz := hL5
                have hRz := hR5
                have hfz := hf5
                have hgz := hg5
                walk_at "go"
                refine ⟨pr4, r0, rfl, hRz, by omega, fun H7 p7 e7 hp7 => ?_⟩
                have lw : (wrapW r0).length = r0.length + 2 := by simp [wrapW]
                have hfz := ex_t e7 hfz
                have hgz := ex_t e7 hgz
                have hLz := e7 _ _ hLz
                have frz := frz.trans (Fr.ex e7)
                have stz := stz.ex e7
                walk_at "go"
                · exact ly_sz (by simp; omega)
                intro q1 hq1
                have g1 := Ex.new hq1 (o := .lst (plcs L ++ plcs (wrapW r0)))
                have k1 : upd H7 q1 (.lst (plcs L ++ plcs (wrapW r0))) q1 = some (.lst (plcs (L ++ (wrapW r0)))) := by rw [upd_same]; simp [plcs]
                have x1 := ex_t g1 hfz
                have x2 := ex_t g1 hgz
                generalize upd H7 q1 (.lst (plcs L ++ plcs (wrapW r0))) = G1 at *
                walk_at "go"
                intro q2 hq2
                have g2 := Ex.new hq2 (o := .tup [V.str "app"])
                have k2 : SqT K (upd G1 q2 (.tup [V.str "app"])) q2 [V.str "app"] := SqT.of upd_same
                have x1 := ex_t g2 x1
                have x2 := ex_t g2 x2
                generalize upd G1 q2 (.tup [V.str "app"]) = G2 at *
                walk_at "go"
                intro q3 G3 g3 hq3
                have x2 := ex_t g3 x2
                walk_at "go"
                intro q4 G4 g4 hq4
                rw [show [V.str "app"] ++ t1.enc ++ t2.enc = (Tm.app t1 t2).enc by simp [Tm.enc]] at hq4
                walk_at "go"
                intro q5 hq5
                have g5 := Ex.new hq5 (o := .tup [V.ref q1, V.ref q4, V.str "row"])
                have g15 := (((g1.trans g2).trans g3).trans g4).trans g5
                refine q _ q5 q1 q4 mz (L ++ (wrapW r0)) (.app t1 t2) .row (frz.trans (Fr.ex g15)) (stz.ex g15) folz (SqT.of upd_same) ((((g2.trans g3).trans g4).trans g5) _ _ k1) (ex_t g5 hq4) ?_
                exact (Mk.app hmk3 hmk4 hLd (.inl ⟨rfl, rfl⟩)).mono (by omega)
            · rw [if_neg (by decide +kernel)]
              walk_at "go"
              obtain ⟨v, rr, hrr, hv⟩ := hmk4.head
              have ixr : atI (plcs r0) 0 = some (.str (pl v)) := by rw [hrr]; exact at_of (j := 0) rfl rfl
              refine w_ixL (SqL.of hR5) ixr ?_
              walk_at "go"
              rw [decide_eq_false (fun z => hv (fun y => nomatch y) (pl_inj ((V.str.inj z).trans pl_bs.symm)))]
              obtain ⟨mz, hmz⟩ : ∃ mz, mz = m5 := ⟨m5, rfl⟩
              rw [← hmz] at st5 fol5
              have stz := st5
              have frz := fr05
              have folz := fol5
              have hLz := hL5
              have hRz := hR5
              have hfz := hf5
              have hgz := hg5
              walk_at "go"
              refine ⟨pr4, r0, rfl, hRz, by omega, fun H7 p7 e7 hp7 => ?_⟩
              have lw : (wrapW r0).length = r0.length + 2 := by simp [wrapW]
              have hfz := ex_t e7 hfz
              have hgz := ex_t e7 hgz
              have hLz := e7 _ _ hLz
              have frz := frz.trans (Fr.ex e7)
              have stz := stz.ex e7
              walk_at "go"
              · exact ly_sz (by simp; omega)
              intro q1 hq1
              have g1 := Ex.new hq1 (o := .lst (plcs L ++ plcs (wrapW r0)))
              have k1 : upd H7 q1 (.lst (plcs L ++ plcs (wrapW r0))) q1 = some (.lst (plcs (L ++ (wrapW r0)))) := by rw [upd_same]; simp [plcs]
              have x1 := ex_t g1 hfz
              have x2 := ex_t g1 hgz
              generalize upd H7 q1 (.lst (plcs L ++ plcs (wrapW r0))) = G1 at *
              walk_at "go"
              intro q2 hq2
              have g2 := Ex.new hq2 (o := .tup [V.str "app"])
              have k2 : SqT K (upd G1 q2 (.tup [V.str "app"])) q2 [V.str "app"] := SqT.of upd_same
              have x1 := ex_t g2 x1
              have x2 := ex_t g2 x2
              generalize upd G1 q2 (.tup [V.str "app"]) = G2 at *
              walk_at "go"
              intro q3 G3 g3 hq3
              have x2 := ex_t g3 x2
              walk_at "go"
              intro q4 G4 g4 hq4
              rw [show [V.str "app"] ++ t1.enc ++ t2.enc = (Tm.app t1 t2).enc by simp [Tm.enc]] at hq4
              walk_at "go"
              intro q5 hq5
              have g5 := Ex.new hq5 (o := .tup [V.ref q1, V.ref q4, V.str "row"])
              have g15 := (((g1.trans g2).trans g3).trans g4).trans g5
              refine q _ q5 q1 q4 mz (L ++ (wrapW r0)) (.app t1 t2) .row (frz.trans (Fr.ex g15)) (stz.ex g15) folz (SqT.of upd_same) ((((g2.trans g3).trans g4).trans g5) _ _ k1) (ex_t g5 hq4) ?_
              exact (Mk.app hmk3 hmk4 hLd (.inl ⟨rfl, rfl⟩)).mono (by omega)
    exact FO
end
end Ly
set_option Elab.async false
set_option linter.all false
set_option maxRecDepth 100000
set_option maxHeartbeats 8000000
namespace Ly
open PySem PySem.Spec PyProof.Rows L2 Evl
local macro_rules | `(tactic| walk_at "ne") => `(tactic| first
  | assumption
  | ((refine' Ne.symm ?hq); (case hq => assumption))
  | ((refine' ne_of_none ?nh1 ?nh2); (case nh2 => assumption); (case nh1 => walk_at "hp"))
  | ((refine' Ne.symm (ne_of_none ?nh1 ?nh2)); (case nh2 => assumption); (case nh1 => walk_at "hp")))
local macro_rules | `(tactic| walk_at "hp") => `(tactic| first
  | assumption
  | exact upd_same
  | ((refine' SqL.of ?hq); (case hq => walk_at "hp"))
  | ((refine' SqT.of ?hq); (case hq => walk_at "hp"))
  | ((refine' (upd_ne ?hne).trans ?hrest); (case hne => walk_at "ne"); (case hrest => walk_at "hp"))
  | ((refine' ly_at ?hex ?hh); (case hex => assumption); (case hh => walk_at "hp"))
  | ((refine' ly_atF ?hex ?hnn ?hh); (case hex => assumption); (case hh => walk_at "hp"); (case hnn => walk_at "ne"))
  | ((refine' ex_t ?hex ?hh); (case hh => assumption); (case hex => walk_at "ex"))
  | ((refine' ex_l ?hex ?hh); (case hh => assumption); (case hex => walk_at "ex")))
local macro_rules | `(tactic| walk_at "ex") => `(tactic| first
  | assumption
  | exact Ex.refl _
  | ((refine' ex_new ?xa ?xb); (case xb => assumption); (case xa => walk_at "ex"))
  | ((refine' ex_upd ?xa ?xb); (case xb => walk_at "free"); (case xa => walk_at "ex"))
  | ((refine' Ex.trans ?xa ?xb); (case xb => assumption); (case xa => walk_at "ex")))
local macro_rules | `(tactic| walk_at "free") => `(tactic| first
  | assumption
  | ((refine' fresh_back ?xa ?xb); (case xb => assumption); (case xa => walk_at "ex")))
local macro_rules | `(tactic| walk_at "fr") => `(tactic| first
  | assumption
  | exact Fr.refl _ _
  | ((refine' Fr.own ?hq); (case hq => walk_at "fr"))
  | ((refine' Fr.new ?xa ?xb); (case xb => assumption); (case xa => walk_at "fr"))
  | ((refine' Fr.mut ?xa ?xb); (case xb => assumption); (case xa => walk_at "fr"))
  | ((refine' Fr.trans ?xa ?xb); (case xb => assumption); (case xa => walk_at "fr"))
  | ((refine' Fr.trans ?xa (Fr.ex ?xb)); (case xb => assumption); (case xa => walk_at "fr")))
local macro_rules | `(tactic| walk_at "go1") => `(tactic| first
  | (with_reducible refine' w_seq ?_)
  | (with_reducible refine' w_asg ?_)
  | (with_reducible refine' w_ret ?_)
  | (with_reducible refine' w_drop ?_)
  | (with_reducible refine' w_if ?_)
  | (with_reducible refine' w_next ?_)
  | (with_reducible refine' w_name ?_)
  | (with_reducible refine' w_sub ?_)
  | ((with_reducible refine' w_var ?hv ?_); (case hv => exact rfl))
  | (with_reducible refine' w_c ?_)
  | (with_reducible refine' w_op ?_)
  | (with_reducible refine' w_un ?_)
  | (with_reducible refine' w_ch ?_)
  | (with_reducible refine' w_I0 ?_)
  | ((with_reducible refine' w_I ?hc ?_); (case hc => first | (exact ly_mulL (by decide) (by decide)) | (exact ly_mulR (by decide) (by decide)) | (exact ly_mulL (by omega) (by omega)) | (show (_ : Int) ≠ 0; decide) | (show (_ : Int) ≠ 0; omega) | (exact ⟨by decide, by decide⟩) | (exact ⟨by omega, by omega⟩)))
  | (with_reducible refine' w_U ?_)
  | ((with_reducible refine' w_eq ?hs ?_); (case hs => exact rfl))
  | ((with_reducible refine' w_ne ?hs ?_); (case hs => exact rfl))
  | (with_reducible refine' w_isB ?_)
  | (with_reducible refine' w_notB ?_)
  | (with_reducible refine' w_nil ?_)
  | (with_reducible refine' w_cons ?_)
  | (with_reducible refine' w_tup ?_)
  | (with_reducible refine' w_lst ?_)
  | (with_reducible refine' w_cb ?_)
  | (with_reducible refine' w_call ?_)
  | (with_reducible refine' w_bm ?_)
  | (with_reducible refine' w_bm0 ?_)
  | ((with_reducible refine' w_app ?hh ?hz ?_); (case hh => walk_at "hp"); (case hz => first | exact ly_lt (by omega) | exact ly_lt (by simp only [List.length_append, List.length_map, List.length_cons, List.length_nil]; omega)))
  | ((with_reducible refine' w_popA ?hh ?_); (case hh => walk_at "hp"))
  | ((with_reducible refine' w_ext ?hh ?hh2 ?hz ?_); (case hh => walk_at "hp"); (case hh2 => walk_at "hp"))
  | ((with_reducible refine' w_ixL ?hh ?ha ?_); (case hh => walk_at "hp"); (case ha => first | exact rfl | exact at_map (by omega) | exact atI_last _ _ | ((refine' at_of ?ae ?ah); (case ah => assumption); (case ae => omega))))
  | ((with_reducible refine' w_ixT ?hh ?ha ?_); (case hh => walk_at "hp"); (case ha => first | exact rfl | exact at_map (by omega) | exact atI_last _ _ | ((refine' at_of ?ae ?ah); (case ah => assumption); (case ae => omega))))
  | ((with_reducible refine' w_cat ?hh ?hh2 ?hz ?_); (case hh => walk_at "hp"); (case hh2 => walk_at "hp"))
  | ((with_reducible refine' w_setL ?hh ?ha ?_); (case hh => walk_at "hp"); (case ha => exact rfl))
  | (with_reducible refine' w_test ?_)
  | (with_reducible refine' w_tB ?_)
  | (with_reducible refine' w_bl ?_)
  | (with_reducible refine' w_and ?_)
  | (with_reducible refine' w_or ?_)
  | (with_reducible refine' w_not ?_)
  | (with_reducible refine' w_andV ?_)
  | (with_reducible refine' w_orV ?_)
  | (with_reducible refine' w_notV ?_)
  | (with_reducible refine' w_ifE ?_)
  | (with_reducible refine' w_for ?_)
  | ((with_reducible refine' w_nin ?hh ?_); (case hh => walk_at "hp"))
  | ((with_reducible refine' w_sorted ?hh ?_); (case hh => walk_at "hp"))
  | (with_reducible refine' w_tsadd ?_)
  | ((with_reducible refine' w_tsadd1 ?hh ?_); (case hh => walk_at "hp"))
  | ((with_reducible refine' w_sadd ?hh ?hr ?_); (case hh => walk_at "hp"); (case hr => omega))
  | (with_reducible refine' w_iZ ?_)
  | ((with_reducible refine' w_iZ1 ?hh ?hh2 ?_); (case hh => walk_at "hp"); (case hh2 => walk_at "hp"))
  | (with_reducible refine' w_iS ?_)
  | (with_reducible refine' w_iS1 ?_)
  | ((with_reducible refine' w_gtup ?hh ?hn ?_); (case hh => walk_at "hp"); (case hn => exact rfl))
  | (with_reducible refine' w_gcons ?_)
  | (with_reducible refine' w_gnil ?_)
  | (with_reducible refine' w_js ?_)
  | (with_reducible refine' w_jsn ?_)
  | ((with_reducible refine' w_js1 ?hl ?_); (case hl => decide +kernel))
  | (with_reducible refine' w_fmt ?_)
  | ((with_reducible refine' w_fmt1 ?hl ?_); (case hl => decide +kernel))
  | (with_reducible refine' w_callS ?_)
  | ((with_reducible refine' w_truL ?hh ?_); (case hh => walk_at "hp"))
  | (with_reducible refine' w_lc ?_)
  | (with_reducible refine' w_yes ?_)
  | ((with_reducible refine' w_wipe ?he ?_); (case he => exact rfl))
  | (with_reducible refine' w_iL ?_)
  | (with_reducible refine' w_iT ?_)
  | (with_reducible refine' w_iR ?_)
  | ((with_reducible refine' w_iL1 ?hh ?_); (case hh => walk_at "hp"))
  | ((with_reducible refine' w_iT1 ?hh ?_); (case hh => walk_at "hp"))
  | ((with_reducible refine' w_iR1 ?h1 ?h2 ?_); (case h1 => omega); (case h2 => omega))
  | ((with_reducible refine' w_aug ?hv ?_); (case hv => exact rfl))
  | (with_reducible refine' w_ipI ?_)
  | ((with_reducible refine' w_isi ?hy ?hk ?_); (case hy => walk_at "ty"); (case hk => walk_at "kit"))
  | ((with_reducible refine' w_int ?_))
  | ((with_reducible refine' w_intB ?_))
  | ((with_reducible refine' w_abs ?_))
  | ((with_reducible refine' w_lenL ?hh ?_); (case hh => walk_at "hp"))
  | ((with_reducible refine' w_lenT ?hh ?_); (case hh => walk_at "hp"))
  | ((with_reducible refine' w_tupL ?hh ?_); (case hh => walk_at "hp"))
  | ((with_reducible refine' w_tupT ?hh ?_); (case hh => walk_at "hp"))
  | ((with_reducible refine' w_catA ?hh ?hh2 ?hz ?_); (case hh => walk_at "hp"); (case hh2 => walk_at "hp"); (case hz => walk_at "len"))
  | ((with_reducible refine' w_repB ?hh ?hne ?h2 ?h3 ?hz ?_); (case hh => walk_at "hp"); (case hne => simp); (case h2 => omega); (case h3 => omega); (case hz => exact Nat.le_of_ble_eq_true rfl))
  | ((with_reducible refine' w_eqN ?hh ?hh2 ?n1 ?n2 ?_); (case hh => walk_at "hp"); (case hh2 => walk_at "hp"); (case n1 => walk_at "nd"); (case n2 => walk_at "nd"))
  | ((with_reducible refine' w_neN ?hh ?hh2 ?n1 ?n2 ?_); (case hh => walk_at "hp"); (case hh2 => walk_at "hp"); (case n1 => walk_at "nd"); (case n2 => walk_at "nd"))
  | ((with_reducible refine' w_eqL ?hh ?hh2 ?n1 ?n2 ?_); (case hh => walk_at "hp"); (case hh2 => walk_at "hp"); (case n1 => walk_at "nd"); (case n2 => walk_at "nd"))
  | ((with_reducible refine' w_neL ?hh ?hh2 ?n1 ?n2 ?_); (case hh => walk_at "hp"); (case hh2 => walk_at "hp"); (case n1 => walk_at "nd"); (case n2 => walk_at "nd"))
  | ((with_reducible refine' w_neNon ?hh2 ?n2 ?_); (case hh2 => walk_at "hp"); (case n2 => walk_at "nd"))
  | ((with_reducible refine' w_eqNon ?hh2 ?n2 ?_); (case hh2 => walk_at "hp"); (case n2 => walk_at "nd"))
  | ((with_reducible refine' w_slA ?hh ?_); (case hh => walk_at "hp"))
  | ((with_reducible refine' w_disp ?hz ?_); (case hz => exact sz_of (Nat.le_of_ble_eq_true rfl)))
  | ((with_reducible refine' w_tyL ?hh ?_); (case hh => walk_at "hp"))
  | (with_reducible refine' iteT ?_)
  | (with_reducible refine' iteF ?_)
  | (with_reducible refine' w_nT ?_)
  | (with_reducible refine' w_nn ?_)
  | (with_reducible refine' w_nnT ?_)
  | (with_reducible refine' w_nnR ?_)
  | (with_reducible refine' w_neG ?_)
  | (with_reducible refine' w_eqG ?_)
  | (with_reducible refine' w_neS ?_)
  | (with_reducible refine' w_eqS ?_)
  | (with_reducible refine' w_neSb ?_)
  | (with_reducible refine' w_eqSb ?_)
  | (with_reducible refine' w_deIS ?_)
  | (with_reducible refine' w_deSI ?_)
  | (with_reducible refine' w_deISn ?_)
  | ((with_reducible refine' w_deST ?he ?_); (case he => decide +kernel))
  | ((with_reducible refine' w_deSF ?he ?_); (case he => decide +kernel))
  | ((with_reducible refine' w_deSTn ?he ?_); (case he => decide +kernel))
  | ((with_reducible refine' w_deSFn ?he ?_); (case he => decide +kernel))
  | (with_reducible refine' w_nF ?_)
  | dsimp only [Bool.not_true, Bool.not_false])
local macro_rules | `(tactic| walk_at "ty") => `(tactic| first
  | exact .base (.int _) | exact .base (.str _) | exact .base (.bl _) | exact .base .non
  | ((refine' tyx_t ?hq); (case hq => walk_at "hp")) | ((refine' tyx_l ?hq); (case hq => walk_at "hp")) | ((refine' .base (.tup ?hq)); (case hq => walk_at "hp")) | assumption)
local macro_rules | `(tactic| walk_at "go") => `(tactic| repeat walk_at "go1")
local macro_rules | `(tactic| walk_at "st") => `(tactic| try dsimp only [cxOf, Cx.nox, Cx.wish])
local macro_rules | `(tactic| walk_at "kit") => `(tactic| with_reducible first | exact kit_int_int | exact kit_int_str | exact kit_int_bool | exact kit_int_tuple | exact kit_int_list | exact kit_str_int | exact kit_str_str | exact kit_str_bool | exact kit_str_tuple | exact kit_str_list | exact kit_bool_int | exact kit_bool_str | exact kit_bool_bool | exact kit_bool_tuple | exact kit_bool_list | exact kit_NoneType_int | exact kit_NoneType_str | exact kit_NoneType_bool | exact kit_NoneType_tuple | exact kit_NoneType_list | exact kit_list_int | exact kit_list_str | exact kit_list_bool | exact kit_list_tuple | exact kit_list_list | exact kit_tuple_int | exact kit_tuple_str | exact kit_tuple_bool | exact kit_tuple_tuple | exact kit_tuple_list)
local macro_rules | `(tactic| walk_at "nd") => `(tactic| first
  | assumption
  | exact Tm.nds _
  | exact Nds.nil
  | exact Nds.ofInts _
  | ((refine' Nds.cons ?na ?nb); (case na => first | exact Nds.I _ | exact Nds.L | exact Nds.A); (case nb => walk_at "nd"))
  | ((refine' Nds.app ?na ?nb); (case na => walk_at "nd"); (case nb => walk_at "nd"))
  | ((refine' Nds.rep ?na _); (case na => walk_at "nd")))
local macro_rules | `(tactic| walk_at "len") => `(tactic| first
  | exact ly_sz (by omega)
  | ((simp only [List.length_append, List.length_cons, List.length_nil, List.length_map, PyProof.Rows.lm_len_rep_flat]); exact ly_sz (by omega)))
local macro_rules | `(tactic| walk_at "go1") => `(tactic| first
  | (with_reducible refine' w_kget2 ?_)
  | (with_reducible refine' w_isRN ?_)
  | (with_reducible refine' w_isNN ?_)
  | (with_reducible refine' w_isIN ?_)
  | ((with_reducible refine' w_kg ?hd ?_); (case hd => assumption)))
local macro_rules | `(tactic| walk_at "go1") => `(tactic| first
  | ((with_reducible refine' w_extT ?hh ?hh2 ?hz ?_); (case hh => walk_at "hp"); (case hh2 => walk_at "hp"))
  | ((with_reducible refine' w_I ?hc ?_); (case hc => exact ⟨by decide, by decide, by decide⟩))
  | (with_reducible refine' w_sl ?_)
  | (with_reducible refine' w_noP ?_)
  | (with_reducible refine' w_part ?_)
  | (with_reducible refine' w_part1 ?_)
  | (with_reducible refine' w_it ?_)
  | (with_reducible refine' w_it1 ?_)
  | ((with_reducible refine' w_lenZ ?hz ?_); (case hz => omega))
  | ((with_reducible refine' w_addZb ?hz ?_); (case hz => omega))
  | ((with_reducible refine' w_addZf ?hz ?_); (case hz => omega))
  | ((with_reducible refine' w_addZa ?hz ?_); (case hz => omega))
  | ((with_reducible refine' w_inS ?hh ?_); (case hh => walk_at "hp"))
  | ((with_reducible refine' w_ixT ?hh ?ha ?_); (case hh => assumption); (case ha => exact atI_nat (by assumption))))
local macro_rules | `(tactic| walk_at "go1") => `(tactic| first
  | (with_reducible refine' w_iR2 ?_)
  | ((with_reducible refine' w_iR21 ?h1 ?h2 ?h3 ?h4 ?_); (case h1 => omega); (case h2 => omega); (case h3 => omega); (case h4 => omega))
  | (with_reducible refine' w_nnI ?_)
  | (with_reducible refine' w_max ?_)
  | (with_reducible refine' w_break ?_)
  | (with_reducible refine' w_cont ?_))
section
variable {P : Program} {w : World} {K : PySem.W.Frag} {mg : Str → Option Value} {base : Heap} {tk : Nat → Tok} {cl : Nat → Addr}
theorem w_repCs {H : Hp} {Q : VK} {k : Nat} (z : k ≤ 3000000) (q : Q (.str (pl (List.replicate k 32))) H) : rRepC (.str " ") (.int (k : Int)) H Q := ⟨32, k, by rw [pl_space], rfl, z, q⟩
def spText : Sp := fun vs H Q _ => ∃ (s a : Addr) (m : Stm) (ws : List (List Nat)), vs = [.ref s, .ref a] ∧ StAt H s m ∧ H a = some (.lst (plcs ws)) ∧ ws.length ≤ 1000 ∧ (∀ w ∈ ws, w.length ≤ 10) ∧
  ∀ H' m' gs, Fr s H H' → StAt H' s m' → gs.length = ws.length → (rend gs ws).length ≤ 13 * ws.length → Q (.str (pl (rend gs ws))) H'
theorem ok_text {f : Addr} {fd : FuncData} (F : Fun K "_law_text" "_law_text" s_law_text f fd) (T : Txt w K mg tk cl)
    (D1 : Def P w K mg base CX0 1 "_law_draw" ["stream", "many"] spDraw) : FnOk P w K mg base CX0 2 f fd ["stream", "words"] spText := by
  obtain ⟨f1, fd1, g_law_draw, kp_law_draw, b_law_draw, G_law_draw⟩ := D1
  refine F.ok sc_law_text (fun vs H Q E h => ?_) (fun cdv A outer s H vs Q E hr h => ?_)
  · obtain ⟨s1, a, m, ws, rfl, _⟩ := h
    rfl
  · obtain ⟨s1, a, m, ws, rfl, st, ha, hl, hw, q⟩ := h
    refine ⟨_, (pss_cons (ps_set (i := 2) sc_law_text.nd rfl (.inl rfl) pe_str) (pss_cons (ps_for PassesOwn.never rfl (pi_range1 (by rfl) T.n_range (pa_cons (pe_callB call_len_seq (by rfl) T.n_len (by decide +kernel) (pa_cons (pv 1) pa_nil)) pa_nil)) (pg_name (i := 3) sc_law_text.nd rfl (.inl rfl)) (pss_cut (ps_if (PW.pt (pw_and (pt_cmpR op_gt (pv 3) pe_int (nomark _)) (pw_and1 (pt_cmpR op_eq (pe_call G_law_draw (hr.mono (by first | decide | omega)) (by rfl) g_law_draw kp_law_draw b_law_draw .nil pass0 (pa_cons (pv 0) (pa_cons pe_int pa_nil))) pe_int (nomark _))))) (pss_one (ps_set (i := 2) sc_law_text.nd rfl (.inl rfl) (pe_op op_addZ (pv 2) (pe_op op_repC pe_str (pe_op op_add pe_int (pe_call G_law_draw (hr.mono (by first | decide | omega)) (by rfl) g_law_draw kp_law_draw b_law_draw .nil pass0 (pa_cons (pv 0) (pa_cons pe_int pa_nil)))))))) pss_nil) (pss_one (ps_set (i := 2) sc_law_text.nd rfl (.inl rfl) (pe_op op_addZ (pv 2) (pe_ix ix_list (pv 1) (pv 3) (fun _ _ => rfl))))))) (pss_one (ps_ret (pv 2))))), ?_⟩
    refine sl_of (σ2 := [some _, some _, none, none]) rfl ?_
    have na := pl_off st ha
    have lws : (plcs ws).length = ws.length := List.length_map _
    walk_at "st"
    rw [pl_e]
    walk_at "go"
    refine for_range (lo := 0) (n := ((plcs ws).length : Int).toNat) (fun i σ H' => ∃ m' gs y, σ = [some (.ref s1), some (.ref a), some (.str (pl (rend gs (ws.take i)))), y] ∧ Fr s1 H H' ∧ StAt H' s1 m' ∧ gs.length = i ∧ (rend gs (ws.take i)).length ≤ 13 * i)
      ⟨m, [], none, by simp [rend], Fr.refl _ _, st, rfl, by simp [rend]⟩ ?_ ?_
    · rintro i σ H1 hi ⟨m1, gs, y, rfl, fr1, st1, hg, hlen⟩
      have hil : i < ws.length := by omega
      obtain ⟨w, hwi⟩ : ∃ w, ws[i]? = some w := ⟨_, List.getElem?_eq_getElem hil⟩
      have hwl := hw w (List.mem_of_getElem? hwi)
      have ha1 := fr1 _ _ na ha
      walk_at "go"
      refine w_cut (M := fun σ' H' => ∃ m' g, σ' = [some (.ref s1), some (.ref a), some (.str (pl (rend gs (ws.take i) ++ List.replicate g 32))), some (.int (0 + (i : Int)))] ∧ Fr s1 H H' ∧ StAt H' s1 m' ∧ g ≤ 3) ?_ ?_
      · walk_at "go"
        refine w_br (fun c1 => ?_) (fun c1 => ?_)
        · walk_at "go"
          refine ⟨s1, m1, 2, rfl, st1, by decide, by decide, fun H2 fr2 st2 => ?_⟩
          generalize m1.val 2 = n2 at *
          generalize m1.next 2 = m2 at *
          walk_at "go"
          refine w_br (fun c2 => ?_) (fun c2 => ?_)
          · walk_at "go"
            refine ⟨s1, m2, 3, rfl, st2, by decide, by decide, fun H3 fr3 st3 => ?_⟩
            have v3 := m2.val_lt (n := 3) (by decide)
            generalize m2.val 3 = n3 at *
            generalize m2.next 3 = m3 at *
            obtain ⟨c, rfl⟩ : ∃ k : Nat, n3 = (k : Int) := ⟨n3.toNat, (Int.toNat_of_nonneg v3.1).symm⟩
            walk_at "go"
            rw [show (1 : Int) + (c : Int) = ((1 + c : Nat) : Int) by omega]
            refine w_repCs (by omega) ?_
            walk_at "go"
            refine w_addZp (by omega) (by simp; omega) ?_
            walk_at "go"
            exact ⟨m3, 1 + c, rfl, (fr1.trans fr2).trans fr3, st3, by omega⟩
          · walk_at "go"
            exact ⟨m2, 0, by simp, fr1.trans fr2, st2, by omega⟩
        · walk_at "go"
          exact ⟨m1, 0, by simp, fr1, st1, by omega⟩
      · rintro σ' H2 ⟨m2, g, rfl, fr2, st2, hg3⟩
        have ha2 := fr2 _ _ na ha
        have ix : atI (plcs ws) (0 + (i : Int)) = some (.str (pl w)) := by
          rw [show (0 : Int) + (i : Int) = (i : Int) by omega]
          exact atI_nat (by rw [List.getElem?_map, hwi]; rfl)
        walk_at "go"
        refine w_ixL (SqL.of ha2) ix ?_
        refine w_addZp (by simp; omega) (by omega) ?_
        walk_at "go"
        have htk : ws.take (i + 1) = ws.take i ++ [w] := by rw [List.take_add_one, hwi]; rfl
        have hgl : gs.length = (ws.take i).length := by rw [List.length_take, hg]; omega
        refine ⟨m2, gs ++ [g], _, by rw [htk, rend_snoc g w hgl]; rfl, fr2, st2, by rw [List.length_append, hg]; rfl, ?_⟩
        rw [htk, rend_snoc g w hgl]
        simp only [List.length_append, List.length_replicate]
        omega
    · rintro σ H1 ⟨m1, gs, y, rfl, fr1, st1, hg, hlen⟩
      rw [lws, Int.toNat_natCast] at hg hlen
      rw [lws, Int.toNat_natCast, List.take_length] at *
      walk_at "go"
      exact q H1 m1 gs fr1 st1 hg hlen
end
end Ly
set_option Elab.async false
set_option linter.all false
set_option maxRecDepth 100000
set_option maxHeartbeats 8000000
namespace Ly
open PySem PySem.Spec PyProof.Rows L2 Evl
local macro_rules | `(tactic| walk_at "ne") => `(tactic| first
  | assumption
  | ((refine' Ne.symm ?hq); (case hq => assumption))
  | ((refine' ne_of_none ?nh1 ?nh2); (case nh2 => assumption); (case nh1 => walk_at "hp"))
  | ((refine' Ne.symm (ne_of_none ?nh1 ?nh2)); (case nh2 => assumption); (case nh1 => walk_at "hp")))
local macro_rules | `(tactic| walk_at "hp") => `(tactic| first
  | assumption
  | exact upd_same
  | ((refine' SqL.of ?hq); (case hq => walk_at "hp"))
  | ((refine' SqT.of ?hq); (case hq => walk_at "hp"))
  | ((refine' (upd_ne ?hne).trans ?hrest); (case hne => walk_at "ne"); (case hrest => walk_at "hp"))
  | ((refine' ly_at ?hex ?hh); (case hex => assumption); (case hh => walk_at "hp"))
  | ((refine' ly_atF ?hex ?hnn ?hh); (case hex => assumption); (case hh => walk_at "hp"); (case hnn => walk_at "ne"))
  | ((refine' ex_t ?hex ?hh); (case hh => assumption); (case hex => walk_at "ex"))
  | ((refine' ex_l ?hex ?hh); (case hh => assumption); (case hex => walk_at "ex")))
local macro_rules | `(tactic| walk_at "ex") => `(tactic| first
  | assumption
  | exact Ex.refl _
  | ((refine' ex_new ?xa ?xb); (case xb => assumption); (case xa => walk_at "ex"))
  | ((refine' ex_upd ?xa ?xb); (case xb => walk_at "free"); (case xa => walk_at "ex"))
  | ((refine' Ex.trans ?xa ?xb); (case xb => assumption); (case xa => walk_at "ex")))
local macro_rules | `(tactic| walk_at "free") => `(tactic| first
  | assumption
  | ((refine' fresh_back ?xa ?xb); (case xb => assumption); (case xa => walk_at "ex")))
local macro_rules | `(tactic| walk_at "fr") => `(tactic| first
  | assumption
  | exact Fr.refl _ _
  | ((refine' Fr.own ?hq); (case hq => walk_at "fr"))
  | ((refine' Fr.new ?xa ?xb); (case xb => assumption); (case xa => walk_at "fr"))
  | ((refine' Fr.mut ?xa ?xb); (case xb => assumption); (case xa => walk_at "fr"))
  | ((refine' Fr.trans ?xa ?xb); (case xb => assumption); (case xa => walk_at "fr"))
  | ((refine' Fr.trans ?xa (Fr.ex ?xb)); (case xb => assumption); (case xa => walk_at "fr")))
local macro_rules | `(tactic| walk_at "go1") => `(tactic| first
  | (with_reducible refine' w_seq ?_)
  | (with_reducible refine' w_asg ?_)
  | (with_reducible refine' w_ret ?_)
  | (with_reducible refine' w_drop ?_)
  | (with_reducible refine' w_if ?_)
  | (with_reducible refine' w_next ?_)
  | (with_reducible refine' w_name ?_)
  | (with_reducible refine' w_sub ?_)
  | ((with_reducible refine' w_var ?hv ?_); (case hv => exact rfl))
  | (with_reducible refine' w_c ?_)
  | (with_reducible refine' w_op ?_)
  | (with_reducible refine' w_un ?_)
  | (with_reducible refine' w_ch ?_)
  | (with_reducible refine' w_I0 ?_)
  | ((with_reducible refine' w_I ?hc ?_); (case hc => first | (exact ly_mulL (by decide) (by decide)) | (exact ly_mulR (by decide) (by decide)) | (exact ly_mulL (by omega) (by omega)) | (show (_ : Int) ≠ 0; decide) | (show (_ : Int) ≠ 0; omega) | (exact ⟨by decide, by decide⟩) | (exact ⟨by omega, by omega⟩)))
  | (with_reducible refine' w_U ?_)
  | ((with_reducible refine' w_eq ?hs ?_); (case hs => exact rfl))
  | ((with_reducible refine' w_ne ?hs ?_); (case hs => exact rfl))
  | (with_reducible refine' w_isB ?_)
  | (with_reducible refine' w_notB ?_)
  | (with_reducible refine' w_nil ?_)
  | (with_reducible refine' w_cons ?_)
  | (with_reducible refine' w_tup ?_)
  | (with_reducible refine' w_lst ?_)
  | (with_reducible refine' w_cb ?_)
  | (with_reducible refine' w_call ?_)
  | (with_reducible refine' w_bm ?_)
  | (with_reducible refine' w_bm0 ?_)
  | ((with_reducible refine' w_app ?hh ?hz ?_); (case hh => walk_at "hp"); (case hz => first | exact ly_lt (by omega) | exact ly_lt (by simp only [List.length_append, List.length_map, List.length_cons, List.length_nil]; omega)))
  | ((with_reducible refine' w_popA ?hh ?_); (case hh => walk_at "hp"))
  | ((with_reducible refine' w_ext ?hh ?hh2 ?hz ?_); (case hh => walk_at "hp"); (case hh2 => walk_at "hp"))
  | ((with_reducible refine' w_ixL ?hh ?ha ?_); (case hh => walk_at "hp"); (case ha => first | exact rfl | exact at_map (by omega) | exact atI_last _ _ | ((refine' at_of ?ae ?ah); (case ah => assumption); (case ae => omega))))
  | ((with_reducible refine' w_ixT ?hh ?ha ?_); (case hh => walk_at "hp"); (case ha => first | exact rfl | exact at_map (by omega) | exact atI_last _ _ | ((refine' at_of ?ae ?ah); (case ah => assumption); (case ae => omega))))
  | ((with_reducible refine' w_cat ?hh ?hh2 ?hz ?_); (case hh => walk_at "hp"); (case hh2 => walk_at "hp"))
  | ((with_reducible refine' w_setL ?hh ?ha ?_); (case hh => walk_at "hp"); (case ha => exact rfl))
  | (with_reducible refine' w_test ?_)
  | (with_reducible refine' w_tB ?_)
  | (with_reducible refine' w_bl ?_)
  | (with_reducible refine' w_and ?_)
  | (with_reducible refine' w_or ?_)
  | (with_reducible refine' w_not ?_)
  | (with_reducible refine' w_andV ?_)
  | (with_reducible refine' w_orV ?_)
  | (with_reducible refine' w_notV ?_)
  | (with_reducible refine' w_ifE ?_)
  | (with_reducible refine' w_for ?_)
  | ((with_reducible refine' w_nin ?hh ?_); (case hh => walk_at "hp"))
  | ((with_reducible refine' w_sorted ?hh ?_); (case hh => walk_at "hp"))
  | (with_reducible refine' w_tsadd ?_)
  | ((with_reducible refine' w_tsadd1 ?hh ?_); (case hh => walk_at "hp"))
  | ((with_reducible refine' w_sadd ?hh ?hr ?_); (case hh => walk_at "hp"); (case hr => omega))
  | (with_reducible refine' w_iZ ?_)
  | ((with_reducible refine' w_iZ1 ?hh ?hh2 ?_); (case hh => walk_at "hp"); (case hh2 => walk_at "hp"))
  | (with_reducible refine' w_iS ?_)
  | (with_reducible refine' w_iS1 ?_)
  | ((with_reducible refine' w_gtup ?hh ?hn ?_); (case hh => walk_at "hp"); (case hn => exact rfl))
  | (with_reducible refine' w_gcons ?_)
  | (with_reducible refine' w_gnil ?_)
  | (with_reducible refine' w_js ?_)
  | (with_reducible refine' w_jsn ?_)
  | ((with_reducible refine' w_js1 ?hl ?_); (case hl => decide +kernel))
  | (with_reducible refine' w_fmt ?_)
  | ((with_reducible refine' w_fmt1 ?hl ?_); (case hl => decide +kernel))
  | (with_reducible refine' w_callS ?_)
  | ((with_reducible refine' w_truL ?hh ?_); (case hh => walk_at "hp"))
  | (with_reducible refine' w_lc ?_)
  | (with_reducible refine' w_yes ?_)
  | ((with_reducible refine' w_wipe ?he ?_); (case he => exact rfl))
  | (with_reducible refine' w_iL ?_)
  | (with_reducible refine' w_iT ?_)
  | (with_reducible refine' w_iR ?_)
  | ((with_reducible refine' w_iL1 ?hh ?_); (case hh => walk_at "hp"))
  | ((with_reducible refine' w_iT1 ?hh ?_); (case hh => walk_at "hp"))
  | ((with_reducible refine' w_iR1 ?h1 ?h2 ?_); (case h1 => omega); (case h2 => omega))
  | ((with_reducible refine' w_aug ?hv ?_); (case hv => exact rfl))
  | (with_reducible refine' w_ipI ?_)
  | ((with_reducible refine' w_isi ?hy ?hk ?_); (case hy => walk_at "ty"); (case hk => walk_at "kit"))
  | ((with_reducible refine' w_int ?_))
  | ((with_reducible refine' w_intB ?_))
  | ((with_reducible refine' w_abs ?_))
  | ((with_reducible refine' w_lenL ?hh ?_); (case hh => walk_at "hp"))
  | ((with_reducible refine' w_lenT ?hh ?_); (case hh => walk_at "hp"))
  | ((with_reducible refine' w_tupL ?hh ?_); (case hh => walk_at "hp"))
  | ((with_reducible refine' w_tupT ?hh ?_); (case hh => walk_at "hp"))
  | ((with_reducible refine' w_catA ?hh ?hh2 ?hz ?_); (case hh => walk_at "hp"); (case hh2 => walk_at "hp"); (case hz => walk_at "len"))
  | ((with_reducible refine' w_repB ?hh ?hne ?h2 ?h3 ?hz ?_); (case hh => walk_at "hp"); (case hne => simp); (case h2 => omega); (case h3 => omega); (case hz => exact Nat.le_of_ble_eq_true rfl))
  | ((with_reducible refine' w_eqN ?hh ?hh2 ?n1 ?n2 ?_); (case hh => walk_at "hp"); (case hh2 => walk_at "hp"); (case n1 => walk_at "nd"); (case n2 => walk_at "nd"))
  | ((with_reducible refine' w_neN ?hh ?hh2 ?n1 ?n2 ?_); (case hh => walk_at "hp"); (case hh2 => walk_at "hp"); (case n1 => walk_at "nd"); (case n2 => walk_at "nd"))
  | ((with_reducible refine' w_eqL ?hh ?hh2 ?n1 ?n2 ?_); (case hh => walk_at "hp"); (case hh2 => walk_at "hp"); (case n1 => walk_at "nd"); (case n2 => walk_at "nd"))
  | ((with_reducible refine' w_neL ?hh ?hh2 ?n1 ?n2 ?_); (case hh => walk_at "hp"); (case hh2 => walk_at "hp"); (case n1 => walk_at "nd"); (case n2 => walk_at "nd"))
  | ((with_reducible refine' w_neNon ?hh2 ?n2 ?_); (case hh2 => walk_at "hp"); (case n2 => walk_at "nd"))
  | ((with_reducible refine' w_eqNon ?hh2 ?n2 ?_); (case hh2 => walk_at "hp"); (case n2 => walk_at "nd"))
  | ((with_reducible refine' w_slA ?hh ?_); (case hh => walk_at "hp"))
  | ((with_reducible refine' w_disp ?hz ?_); (case hz => exact sz_of (Nat.le_of_ble_eq_true rfl)))
  | ((with_reducible refine' w_tyL ?hh ?_); (case hh => walk_at "hp"))
  | (with_reducible refine' iteT ?_)
  | (with_reducible refine' iteF ?_)
  | (with_reducible refine' w_nT ?_)
  | (with_reducible refine' w_nn ?_)
  | (with_reducible refine' w_nnT ?_)
  | (with_reducible refine' w_nnR ?_)
  | (with_reducible refine' w_neG ?_)
  | (with_reducible refine' w_eqG ?_)
  | (with_reducible refine' w_neS ?_)
  | (with_reducible refine' w_eqS ?_)
  | (with_reducible refine' w_neSb ?_)
  | (with_reducible refine' w_eqSb ?_)
  | (with_reducible refine' w_deIS ?_)
  | (with_reducible refine' w_deSI ?_)
  | (with_reducible refine' w_deISn ?_)
  | ((with_reducible refine' w_deST ?he ?_); (case he => decide +kernel))
  | ((with_reducible refine' w_deSF ?he ?_); (case he => decide +kernel))
  | ((with_reducible refine' w_deSTn ?he ?_); (case he => decide +kernel))
  | ((with_reducible refine' w_deSFn ?he ?_); (case he => decide +kernel))
  | (with_reducible refine' w_nF ?_)
  | dsimp only [Bool.not_true, Bool.not_false])
local macro_rules | `(tactic| walk_at "ty") => `(tactic| first
  | exact .base (.int _) | exact .base (.str _) | exact .base (.bl _) | exact .base .non
  | ((refine' tyx_t ?hq); (case hq => walk_at "hp")) | ((refine' tyx_l ?hq); (case hq => walk_at "hp")) | ((refine' .base (.tup ?hq)); (case hq => walk_at "hp")) | assumption)
local macro_rules | `(tactic| walk_at "go") => `(tactic| repeat walk_at "go1")
local macro_rules | `(tactic| walk_at "st") => `(tactic| try dsimp only [cxOf, Cx.nox, Cx.wish])
local macro_rules | `(tactic| walk_at "kit") => `(tactic| with_reducible first | exact kit_int_int | exact kit_int_str | exact kit_int_bool | exact kit_int_tuple | exact kit_int_list | exact kit_str_int | exact kit_str_str | exact kit_str_bool | exact kit_str_tuple | exact kit_str_list | exact kit_bool_int | exact kit_bool_str | exact kit_bool_bool | exact kit_bool_tuple | exact kit_bool_list | exact kit_NoneType_int | exact kit_NoneType_str | exact kit_NoneType_bool | exact kit_NoneType_tuple | exact kit_NoneType_list | exact kit_list_int | exact kit_list_str | exact kit_list_bool | exact kit_list_tuple | exact kit_list_list | exact kit_tuple_int | exact kit_tuple_str | exact kit_tuple_bool | exact kit_tuple_tuple | exact kit_tuple_list)
local macro_rules | `(tactic| walk_at "nd") => `(tactic| first
  | assumption
  | exact Tm.nds _
  | exact Nds.nil
  | exact Nds.ofInts _
  | ((refine' Nds.cons ?na ?nb); (case na => first | exact Nds.I _ | exact Nds.L | exact Nds.A); (case nb => walk_at "nd"))
  | ((refine' Nds.app ?na ?nb); (case na => walk_at "nd"); (case nb => walk_at "nd"))
  | ((refine' Nds.rep ?na _); (case na => walk_at "nd")))
local macro_rules | `(tactic| walk_at "len") => `(tactic| first
  | exact ly_sz (by omega)
  | ((simp only [List.length_append, List.length_cons, List.length_nil, List.length_map, PyProof.Rows.lm_len_rep_flat]); exact ly_sz (by omega)))
local macro_rules | `(tactic| walk_at "go1") => `(tactic| first
  | (with_reducible refine' w_kget2 ?_)
  | (with_reducible refine' w_isRN ?_)
  | (with_reducible refine' w_isNN ?_)
  | (with_reducible refine' w_isIN ?_)
  | ((with_reducible refine' w_kg ?hd ?_); (case hd => assumption)))
local macro_rules | `(tactic| walk_at "go1") => `(tactic| first
  | ((with_reducible refine' w_extT ?hh ?hh2 ?hz ?_); (case hh => walk_at "hp"); (case hh2 => walk_at "hp"))
  | ((with_reducible refine' w_I ?hc ?_); (case hc => exact ⟨by decide, by decide, by decide⟩))
  | (with_reducible refine' w_sl ?_)
  | (with_reducible refine' w_noP ?_)
  | (with_reducible refine' w_part ?_)
  | (with_reducible refine' w_part1 ?_)
  | (with_reducible refine' w_it ?_)
  | (with_reducible refine' w_it1 ?_)
  | ((with_reducible refine' w_lenZ ?hz ?_); (case hz => omega))
  | ((with_reducible refine' w_addZb ?hz ?_); (case hz => omega))
  | ((with_reducible refine' w_addZf ?hz ?_); (case hz => omega))
  | ((with_reducible refine' w_addZa ?hz ?_); (case hz => omega))
  | ((with_reducible refine' w_inS ?hh ?_); (case hh => walk_at "hp"))
  | ((with_reducible refine' w_ixT ?hh ?ha ?_); (case hh => assumption); (case ha => exact atI_nat (by assumption))))
local macro_rules | `(tactic| walk_at "go1") => `(tactic| first
  | (with_reducible refine' w_iR2 ?_)
  | ((with_reducible refine' w_iR21 ?h1 ?h2 ?h3 ?h4 ?_); (case h1 => omega); (case h2 => omega); (case h3 => omega); (case h4 => omega))
  | (with_reducible refine' w_nnI ?_)
  | (with_reducible refine' w_max ?_)
  | (with_reducible refine' w_break ?_)
  | (with_reducible refine' w_cont ?_))
section
variable {P : Program} {w : World} {K : PySem.W.Frag} {mg : Str → Option Value} {base : Heap} {tk : Nat → Tok} {cl : Nat → Addr}
theorem fits_term10 {t : Tm} (h : fitsV t.enc = true) (hv : t.vars 1000000) : isTermV t.enc = true := by
  unfold fitsV at h
  rw [Bool.and_eq_true] at h
  unfold isTermV
  rw [h.1, scan_tm hv]
  rfl
theorem nm_small {w : List Nat} (h : IsNm w) : w.length ≤ 10 ∧ ∀ c ∈ w, c < 200 := by
  obtain ⟨c, ds, rfl, hc, hd, hl⟩ := h.ex
  refine ⟨by simp; omega, fun x hx => ?_⟩
  rcases List.mem_cons.mp hx with rfl | hx
  · have := of_decide_eq_true hc
    omega
  · have := of_decide_eq_true (List.all_eq_true.mp hd x hx)
    omega
theorem tok_len10 {w : List Nat} (h : IsTok w) : w.length ≤ 10 := by
  rcases h with h | rfl | rfl | rfl | rfl
  · exact (nm_small h).1
  all_goals decide
def spLaw (K : PySem.W.Frag) : Sp := fun vs H Q _ => ∃ (a : Addr) (ns : List Int), vs = [.ref a] ∧ SqL K H a (ns.map V.int) ∧ ns.length ≤ 63 ∧ ∀ H', Q (.bl true) H'
theorem ok_law {f : Addr} {fd : FuncData} (F : Fun K "law" "law" s_law f fd) (T : Txt w K mg tk cl)
    (D1 : Def P w K mg base CX0 1 "_law_stream" ["script"] (spStream K)) (D2 : Def P w K mg base CX0 1 "_law_draw" ["stream", "many"] spDraw) (D3 : Def P w K mg base CX0 3 "_law_drawn_names" ["stream"] spDNames)
    (D4 : Def P w K mg base CX0 20 "_law_make" ["stream", "depth", "scope", "names"] (spMake K 12)) (D5 : Def P w K mg base CX0 1 "_law_wrapped" ["words"] spWrap) (D6 : Def P w K mg base CX0 2 "_law_text" ["stream", "words"] spText)
    (D7 : Def P w K mg base (L2.CX P w) 6 "parse" ["text", "names"] (spParse K (cl 1))) (D8 : Def P w K mg base CX0 4 "is_term" ["value"] (spIsW K ["lam", "app"])) : FnOk P w K mg base (L2.CX P w) 40 f fd ["script"] (spLaw K) := by
  obtain ⟨f1, fd1, g_law_stream, kp_law_stream, b_law_stream, G_law_stream⟩ := D1
  obtain ⟨f2, fd2, g_law_draw, kp_law_draw, b_law_draw, G_law_draw⟩ := D2
  obtain ⟨f3, fd3, g_law_drawn_names, kp_law_drawn_names, b_law_drawn_names, G_law_drawn_names⟩ := D3
  obtain ⟨f4, fd4, g_law_make, kp_law_make, b_law_make, G_law_make⟩ := D4
  obtain ⟨f5, fd5, g_law_wrapped, kp_law_wrapped, b_law_wrapped, G_law_wrapped⟩ := D5
  obtain ⟨f6, fd6, g_law_text, kp_law_text, b_law_text, G_law_text⟩ := D6
  obtain ⟨f7, fd7, g_parse, kp_parse, b_parse, G_parse⟩ := D7
  obtain ⟨f8, fd8, g_is_term, kp_is_term, b_is_term, G_is_term⟩ := D8
  refine F.okX sc_law (fun vs H Q E h => ?_) (fun cdv A outer s H vs Q E hr h => ?_)
  · obtain ⟨a, ns, rfl, _⟩ := h
    rfl
  · obtain ⟨a, ns, rfl, hS, hlen, q⟩ := h
    refine ⟨_, (pss_cons (ps_set (i := 1) sc_law.nd rfl (.inl rfl) (pe_call G_law_stream (hr.mono (by first | decide | omega)) (by rfl) g_law_stream kp_law_stream b_law_stream .nil pass0 (pa_cons (pv 0) pa_nil))) (pss_cons (ps_set (i := 2) sc_law.nd rfl (.inl rfl) (pe_call G_law_drawn_names (hr.mono (by first | decide | omega)) (by rfl) g_law_drawn_names kp_law_drawn_names b_law_drawn_names .nil pass0 (pa_cons (pv 1) pa_nil))) (pss_cons (ps_asg (pe_call G_law_make (hr.mono (by first | decide | omega)) (by rfl) g_law_make kp_law_make b_law_make .nil pass0 (pa_cons (pv 1) (pa_cons (pe_call G_law_draw (hr.mono (by first | decide | omega)) (by rfl) g_law_draw kp_law_draw b_law_draw .nil pass0 (pa_cons (pv 1) (pa_cons pe_int pa_nil))) (pa_cons (pe_lst pa_nil) (pa_cons (pv 2) pa_nil))))) (pg_tup (by rfl) (pgs_cons (pg_name (i := 3) sc_law.nd rfl (.inl rfl)) (pgs_cons (pg_name (i := 4) sc_law.nd rfl (.inl rfl)) (pgs_cons (pg_name (i := 5) sc_law.nd rfl (.inl rfl)) pgs_nil))))) (pss_cut (ps_if (pt_cmpR op_eq (pe_call G_law_draw (hr.mono (by first | decide | omega)) (by rfl) g_law_draw kp_law_draw b_law_draw .nil pass0 (pa_cons (pv 1) (pa_cons pe_int pa_nil))) pe_int (nomark _)) (pss_one (ps_set (i := 3) sc_law.nd rfl (.inl rfl) (pe_call G_law_wrapped (hr.mono (by first | decide | omega)) (by rfl) g_law_wrapped kp_law_wrapped b_law_wrapped .nil pass0 (pa_cons (pv 3) pa_nil)))) pss_nil) (pss_cons (ps_set (i := 6) sc_law.nd rfl (.inl rfl) (pe_op op_addZ (pe_call G_law_text (hr.mono (by first | decide | omega)) (by rfl) g_law_text kp_law_text b_law_text .nil pass0 (pa_cons (pv 1) (pa_cons (pv 3) pa_nil))) (pe_op op_repC pe_str (pe_call G_law_draw (hr.mono (by first | decide | omega)) (by rfl) g_law_draw kp_law_draw b_law_draw .nil pass0 (pa_cons (pv 1) (pa_cons pe_int pa_nil)))))) (pss_cons (ps_set (i := 6) sc_law.nd rfl (.inl rfl) (pe_op op_addZ (pe_op op_repC pe_str (pe_call G_law_draw (hr.mono (by first | decide | omega)) (by rfl) g_law_draw kp_law_draw b_law_draw .nil pass0 (pa_cons (pv 1) (pa_cons pe_int pa_nil)))) (pv 6))) (pss_cons (ps_set (i := 7) sc_law.nd rfl (.inl rfl) (pe_callTy call_list_of (by rfl) T.n_list (by decide +kernel) (pa_cons (pv 2) pa_nil))) (pss_cons (ps_set (i := 8) sc_law.nd rfl (.inl rfl) (pe_call G_parse (hr.mono (by first | decide | omega)) (by rfl) g_parse kp_parse b_parse .nil (passes_call (takes_of rfl rfl rfl rfl) (fun _ _ _ _ h => h)) (pa_cons (pv 6) (pa_cons (pv 7) pa_nil)))) (pss_one (ps_ret (pe_and (pe_cmpR (op_eqD hr.units) (pv 8) (pv 4) (nomark _)) (pe_and (pe_cmpR (op_eqD hr.units) (pv 7) (pv 2) (nomark _)) (pe_one (pe_cmpR op_isBl (pe_call G_is_term (hr.mono (by first | decide | omega)) (by rfl) g_is_term kp_is_term b_is_term .nil pass0 (pa_cons (pv 8) pa_nil)) pe_bl (nomark _))))))))))))))), ?_⟩
    refine sl_of (σ2 := [some _, none, none, none, none, none, none, none, none]) rfl ?_
    walk_at "st"
    walk_at "go"
    refine ⟨a, ns, rfl, hS, hlen, fun H1 s1 l e1 hs1 st1 => ?_⟩
    generalize (⟨l, ns, 0, 0, mixOf ns⟩ : Stm) = m1 at *
    clear hs1 e1 hS
    walk_at "go"
    refine ⟨s1, m1, rfl, st1, fun H2 pn m2 fs fr2 st2 hn2 hfn hfl => ?_⟩
    clear fr2 st1
    walk_at "go"
    refine ⟨s1, m2, 5, rfl, st2, by decide, by decide, fun H3 fr3 st3 => ?_⟩
    have v3 := m2.val_lt (n := 5) (by decide)
    have hn3 := fr3 _ _ (pl_off st2 hn2) hn2
    generalize m2.val 5 = n3 at *
    generalize m2.next 5 = m3 at *
    obtain ⟨d, rfl⟩ : ∃ k : Nat, n3 = (k : Int) := ⟨n3.toNat, (Int.toNat_of_nonneg v3.1).symm⟩
    clear fr3 st2 hn2
    walk_at "go"
    intro p0 hp0
    have e4 := Ex.new hp0 (o := .lst (plcs []))
    have h0 : upd H3 p0 (.lst (plcs [])) p0 = some (.lst (plcs [])) := upd_same
    rw [show (HO.lst ([] : List V)) = .lst (plcs []) from rfl]
    have hn4 := e4 _ _ hn3
    have st4 := st3.ex e4
    generalize upd H3 p0 (.lst (plcs [])) = H4 at *
    clear e4 hp0 st3 hn3
    walk_at "go"
    have he : (if ([] : List (List Nat)) = [] ∧ fs = [] then 1 else 0) ≤ 1 := by split <;> omega
    refine ⟨s1, p0, pn, m3, d, [], fs, rfl, st4, h0, hn4, by omega, by decide, by simp, hfl, by simp, hfn, fun H5 p5 pw pt m5 ws t kd fr5 st5 fol5 hp5 hpw hpt hmk => ?_⟩
    generalize (if ([] : List (List Nat)) = [] ∧ fs = [] then 1 else 0) = e at *
    have hn5 := fr5 _ _ (pl_off st4 hn4) hn4
    have hsz := hmk.size
    have hvr := hmk.vars 1000000 (by simp; omega)
    have h2p : 2 ^ (d + e) ≤ 2 ^ 6 := Nat.pow_le_pow_right (by decide) (by omega)
    have hfit := fits_of hvr (show t.enc.length ≤ 1000 by omega)
    clear fr5 st4 hn4 fol5 h0
    walk_at "go"
    refine w_cut (M := fun σ' H' => ∃ pW W m', σ' = [some (.ref a), some (.ref s1), some (.ref pn), some (.ref pW), some (.ref pt), some (.str (kdStr kd)), none, none, none] ∧ StAt H' s1 m' ∧ H' pn = some (.lst (plcs fs)) ∧ SqT K H' pt t.enc ∧ H' pW = some (.lst (plcs W)) ∧ (W = ws ∨ W = wrapW ws)) ?_ ?_
    · walk_at "go"
      refine ⟨s1, m5, 4, rfl, st5, by decide, by decide, fun H6 fr6 st6 => ?_⟩
      have hn6 := fr6 _ _ (pl_off st5 hn5) hn5
      have hpw6 := fr6 _ _ (pl_off st5 hpw) hpw
      have hpt6 := fr_t fr6 st5.2.1 hpt
      generalize m5.val 4 = n6 at *
      generalize m5.next 4 = m6 at *
      walk_at "go"
      refine w_br (fun c1 => ?_) (fun c1 => ?_)
      · walk_at "go"
        refine ⟨pw, ws, rfl, hpw6, by omega, fun H7 p7 e7 hp7 => ?_⟩
        walk_at "go"
        exact ⟨p7, wrapW ws, m6, rfl, st6.ex e7, e7 _ _ hn6, ex_t e7 hpt6, hp7, .inr rfl⟩
      · walk_at "go"
        exact ⟨pw, ws, m6, rfl, st6, hn6, hpt6, hpw6, .inl rfl⟩
    rintro σ' H6 ⟨pW, W, m6, rfl, st6, hn6, hpt6, hpW6, hW⟩
    have lW : W.length ≤ ws.length + 2 := by
      rcases hW with rfl | rfl
      · omega
      · simp [wrapW]
    have tW : ∀ w ∈ W, w.length ≤ 10 := by
      rcases hW with rfl | rfl
      · exact fun w hw => tok_len10 (hmk.toks w hw)
      · exact fun w hw => tok_len10 (wrap_toks hmk.toks w hw)
    clear hpw hpt hn5 st5 hp5
    walk_at "go"
    refine ⟨s1, pW, m6, W, rfl, st6, hpW6, by omega, tW, fun H7 m7 gs fr7 st7 hgl hrl => ?_⟩
    have hn7 := fr7 _ _ (pl_off st6 hn6) hn6
    have hpt7 := fr_t fr7 st6.2.1 hpt6
    clear fr7 st6 hn6 hpt6 hpW6
    walk_at "go"
    refine ⟨s1, m7, 3, rfl, st7, by decide, by decide, fun H8 fr8 st8 => ?_⟩
    have v8 := m7.val_lt (n := 3) (by decide)
    have hn8 := fr8 _ _ (pl_off st7 hn7) hn7
    have hpt8 := fr_t fr8 st7.2.1 hpt7
    generalize m7.val 3 = n8 at *
    generalize m7.next 3 = m8 at *
    obtain ⟨b, rfl⟩ : ∃ k : Nat, n8 = (k : Int) := ⟨n8.toNat, (Int.toNat_of_nonneg v8.1).symm⟩
    clear fr8 st7 hn7 hpt7
    walk_at "go"
    refine w_repCs (by omega) ?_
    refine w_addZp (by omega) (by simp; omega) ?_
    walk_at "go"
    refine ⟨s1, m8, 2, rfl, st8, by decide, by decide, fun H9 fr9 st9 => ?_⟩
    have v9 := m8.val_lt (n := 2) (by decide)
    have hn9 := fr9 _ _ (pl_off st8 hn8) hn8
    have hpt9 := fr_t fr9 st8.2.1 hpt8
    generalize m8.val 2 = n9 at *
    obtain ⟨g, rfl⟩ : ∃ k : Nat, n9 = (k : Int) := ⟨n9.toNat, (Int.toNat_of_nonneg v9.1).symm⟩
    clear fr9 st8 hn8 hpt8 st9
    refine w_repCs (by omega) ?_
    walk_at "go"
    refine w_addZp (by simp; omega) (by simp; omega) ?_
    have hP := hmk.parse (by omega) hW hgl g b
    walk_at "go"
    intro p10 hp10
    have e10 := Ex.new hp10 (o := .lst (plcs fs))
    have h10 : upd H9 p10 (.lst (plcs fs)) p10 = some (.lst (plcs fs)) := upd_same
    have hn10 := e10 _ _ hn9
    have hpt10 := ex_t e10 hpt9
    generalize upd H9 p10 (.lst (plcs fs)) = H10 at *
    clear e10 hp10 hn9 hpt9
    have hsm : Small fs := fun w hw => (nm_small (hfn w hw)).2
    walk_at "go"
    refine ⟨_, p10, fs.map pl, t.enc, rfl, by rw [h10]; simp [plcs, txts], by simp; omega, by simp; omega, hP, Tm.flat _, fun _ H11 p11 e11 hp11 => ?_, fun z => by rw [hfit] at z; cases z⟩
    have h11 := e11 _ _ h10
    have hn11 := e11 _ _ hn10
    have hpt11 := ex_t e11 hpt10
    walk_at "go"
    refine w_eqP h11 hn11 hsm ?_
    walk_at "go"
    refine ⟨_, rfl, .inl ⟨p11, _, rfl, hp11, by omega, (Tm.flat _).kd _, fun H15 e15 => ?_⟩⟩
    rw [← isV_W, fits_term10 hfit hvr]
    walk_at "go"
    rw [decide_eq_true rfl]
    exact q _
end
end Ly
set_option Elab.async false
set_option linter.all false
set_option maxRecDepth 100000
set_option maxHeartbeats 8000000
namespace Ly
open PySem PySem.Spec PyProof.Rows L2 Evl

-- endR _law_make ok_make 20:12 _law_draw _law_drawn_name _law_scope_names _law_use _law_wrapped
/-! ### what the top has left; the head -/
theorem all_mk {l : PySem.W.OpenLaw} {w : World} {K : PySem.W.Frag} {h : Heap} {mg : Str → Option Value} {fa f1 f2 f3 f4 f5 f6 f7 f8 f9 f10 f11 f12 f13 f14 f15 f16 f17 f18 f19 f20 f21 f22 f23 f24 f25 f26 f27 f28 f29 f30 f31 f32 f33 f34 cc40 cc0 cc1 cc21 cc22 : Addr} (X : K.In h) (G : h.Ns mainGlobals mg) (hfa : mg "law" = some (.ref fa))
    {od1 an1 od2 an2 od3 an3 od4 an4 od5 an5 od6 an6 od7 an7 od8 an8 od9 an9 od10 an10 od11 an11 od12 an12 od13 an13 od14 an14 od15 an15 od16 an16 od17 an17 od18 an18 od19 an19 od20 an20 od21 an21 od22 an22 od23 an23 od24 an24 od25 an25 od26 an26 od27 an27 od28 an28 od29 an29 od30 an30 od31 an31 od32 an32 od33 an33 od34 an34 : Option Addr} {sl1 sl2 sl3 sl4 sl5 sl6 sl7 sl8 sl9 sl10 sl11 sl12 sl13 sl14 sl15 sl16 sl17 sl18 sl19 sl20 sl21 sl22 sl23 sl24 sl25 sl26 sl27 sl28 sl29 sl30 sl31 sl32 sl33 sl34 : Array (Option Value)} {oc1 kV1 dc1 pm1 cd1 ct1 oc2 kV2 dc2 pm2 cd2 ct2 oc3 kV3 dc3 pm3 cd3 ct3 oc4 kV4 dc4 pm4 cd4 ct4 oc5 kV5 dc5 pm5 cd5 ct5 oc6 kV6 dc6 pm6 cd6 ct6 oc7 kV7 dc7 pm7 cd7 ct7 oc8 kV8 dc8 pm8 cd8 ct8 oc9 kV9 dc9 pm9 cd9 ct9 oc10 kV10 dc10 pm10 cd10 ct10 oc11 kV11 dc11 pm11 cd11 ct11 oc12 kV12 dc12 pm12 cd12 ct12 oc13 kV13 dc13 pm13 cd13 ct13 oc14 kV14 dc14 pm14 cd14 ct14 oc15 kV15 dc15 pm15 cd15 ct15 oc16 kV16 dc16 pm16 cd16 ct16 oc17 kV17 dc17 pm17 cd17 ct17 oc18 kV18 dc18 pm18 cd18 ct18 oc19 kV19 dc19 pm19 cd19 ct19 oc20 kV20 dc20 pm20 cd20 ct20 oc21 kV21 dc21 pm21 cd21 ct21 oc22 kV22 dc22 pm22 cd22 ct22 oc23 kV23 dc23 pm23 cd23 ct23 oc24 kV24 dc24 pm24 cd24 ct24 oc25 kV25 dc25 pm25 cd25 ct25 oc26 kV26 dc26 pm26 cd26 ct26 oc27 kV27 dc27 pm27 cd27 ct27 oc28 kV28 dc28 pm28 cd28 ct28 oc29 kV29 dc29 pm29 cd29 ct29 oc30 kV30 dc30 pm30 cd30 ct30 oc31 kV31 dc31 pm31 cd31 ct31 oc32 kV32 dc32 pm32 cd32 ct32 oc33 kV33 dc33 pm33 cd33 ct33 oc34 kV34 dc34 pm34 cd34 ct34 : Value} {t0 t1 t2 t3 t100 t101 t102 : Tok}
    (a1 : PySem.W.nsIn K mainGlobals "_law_draw" = some (some (.ref f1))) (l1 : K.lookup f1 = some ⟨oc1, od1, .func (PySem.W.fnOf "_law_draw" "_law_draw" (defArgs s_law_draw) (defBody s_law_draw) (defScope s_law_draw) .none kV1 dc1 pm1 an1 cd1 ct1), sl1⟩) (c1 : PySem.W.codeIn K cd1 "_law_draw" = true) (k1 : PySem.W.keepIn K (.ref f1) = true)
    (a2 : PySem.W.nsIn K mainGlobals "_law_stream" = some (some (.ref f2))) (l2 : K.lookup f2 = some ⟨oc2, od2, .func (PySem.W.fnOf "_law_stream" "_law_stream" (defArgs s_law_stream) (defBody s_law_stream) (defScope s_law_stream) .none kV2 dc2 pm2 an2 cd2 ct2), sl2⟩) (c2 : PySem.W.codeIn K cd2 "_law_stream" = true) (k2 : PySem.W.keepIn K (.ref f2) = true)
    (a3 : PySem.W.nsIn K mainGlobals "check_size" = some (some (.ref f3))) (l3 : K.lookup f3 = some ⟨oc3, od3, .func (PySem.W.fnOf "check_size" "check_size" (defArgs s_check_size) (defBody s_check_size) (defScope s_check_size) .none kV3 dc3 pm3 an3 cd3 ct3), sl3⟩) (c3 : PySem.W.codeIn K cd3 "check_size" = true) (k3 : PySem.W.keepIn K (.ref f3) = true)
    (a4 : PySem.W.nsIn K mainGlobals "checked" = some (some (.ref f4))) (l4 : K.lookup f4 = some ⟨oc4, od4, .func (PySem.W.fnOf "checked" "checked" (defArgs s_checked) (defBody s_checked) (defScope s_checked) .none kV4 dc4 pm4 an4 cd4 ct4), sl4⟩) (c4 : PySem.W.codeIn K cd4 "checked" = true) (k4 : PySem.W.keepIn K (.ref f4) = true)
    (a5 : PySem.W.findIn K (.ref cc21) "__init__" = some (some (.ref f5))) (i5 : PySem.W.isFn K (.ref f5) = true) (l5 : K.lookup f5 = some ⟨oc5, od5, .func (PySem.W.fnOf "__init__" "Level.__init__" (defArgs s_Level_init) (defBody s_Level_init) (defScope s_Level_init) .none kV5 dc5 pm5 an5 cd5 ct5), sl5⟩) (c5 : PySem.W.codeIn K cd5 "Level.__init__" = true) (k5 : PySem.W.keepIn K (.ref f5) = true)
    (a6 : PySem.W.findIn K (.ref cc21) "is_whole" = some (some (.ref f6))) (i6 : PySem.W.isFn K (.ref f6) = true) (l6 : K.lookup f6 = some ⟨oc6, od6, .func (PySem.W.fnOf "is_whole" "Level.is_whole" (defArgs s_Level_is_whole) (defBody s_Level_is_whole) (defScope s_Level_is_whole) .none kV6 dc6 pm6 an6 cd6 ct6), sl6⟩) (c6 : PySem.W.codeIn K cd6 "Level.is_whole" = true) (k6 : PySem.W.keepIn K (.ref f6) = true)
    (a7 : PySem.W.findIn K (.ref cc21) "add_part" = some (some (.ref f7))) (i7 : PySem.W.isFn K (.ref f7) = true) (l7 : K.lookup f7 = some ⟨oc7, od7, .func (PySem.W.fnOf "add_part" "Level.add_part" (defArgs s_Level_add_part) (defBody s_Level_add_part) (defScope s_Level_add_part) .none kV7 dc7 pm7 an7 cd7 ct7), sl7⟩) (c7 : PySem.W.codeIn K cd7 "Level.add_part" = true) (k7 : PySem.W.keepIn K (.ref f7) = true)
    (a8 : PySem.W.findIn K (.ref cc21) "all_nodes" = some (some (.ref f8))) (i8 : PySem.W.isFn K (.ref f8) = true) (l8 : K.lookup f8 = some ⟨oc8, od8, .func (PySem.W.fnOf "all_nodes" "Level.all_nodes" (defArgs s_Level_all_nodes) (defBody s_Level_all_nodes) (defScope s_Level_all_nodes) .none kV8 dc8 pm8 an8 cd8 ct8), sl8⟩) (c8 : PySem.W.codeIn K cd8 "Level.all_nodes" = true) (k8 : PySem.W.keepIn K (.ref f8) = true)
    (a9 : PySem.W.findIn K (.ref cc22) "__init__" = some (some (.ref f9))) (i9 : PySem.W.isFn K (.ref f9) = true) (l9 : K.lookup f9 = some ⟨oc9, od9, .func (PySem.W.fnOf "__init__" "Reader.__init__" (defArgs s_Reader_init) (defBody s_Reader_init) (defScope s_Reader_init) .none kV9 dc9 pm9 an9 cd9 ct9), sl9⟩) (c9 : PySem.W.codeIn K cd9 "Reader.__init__" = true) (k9 : PySem.W.keepIn K (.ref f9) = true)
    (a10 : PySem.W.findIn K (.ref cc22) "variable" = some (some (.ref f10))) (i10 : PySem.W.isFn K (.ref f10) = true) (l10 : K.lookup f10 = some ⟨oc10, od10, .func (PySem.W.fnOf "variable" "Reader.variable" (defArgs s_Reader_variable) (defBody s_Reader_variable) (defScope s_Reader_variable) .none kV10 dc10 pm10 an10 cd10 ct10), sl10⟩) (c10 : PySem.W.codeIn K cd10 "Reader.variable" = true) (k10 : PySem.W.keepIn K (.ref f10) = true)
    (a11 : PySem.W.findIn K (.ref cc22) "end_level" = some (some (.ref f11))) (i11 : PySem.W.isFn K (.ref f11) = true) (l11 : K.lookup f11 = some ⟨oc11, od11, .func (PySem.W.fnOf "end_level" "Reader.end_level" (defArgs s_Reader_end_level) (defBody s_Reader_end_level) (defScope s_Reader_end_level) .none kV11 dc11 pm11 an11 cd11 ct11), sl11⟩) (c11 : PySem.W.codeIn K cd11 "Reader.end_level" = true) (k11 : PySem.W.keepIn K (.ref f11) = true)
    (a12 : PySem.W.findIn K (.ref cc22) "end_abstractions" = some (some (.ref f12))) (i12 : PySem.W.isFn K (.ref f12) = true) (l12 : K.lookup f12 = some ⟨oc12, od12, .func (PySem.W.fnOf "end_abstractions" "Reader.end_abstractions" (defArgs s_Reader_end_abstractions) (defBody s_Reader_end_abstractions) (defScope s_Reader_end_abstractions) .none kV12 dc12 pm12 an12 cd12 ct12), sl12⟩) (c12 : PySem.W.codeIn K cd12 "Reader.end_abstractions" = true) (k12 : PySem.W.keepIn K (.ref f12) = true)
    (a13 : PySem.W.findIn K (.ref cc22) "read_opener" = some (some (.ref f13))) (i13 : PySem.W.isFn K (.ref f13) = true) (l13 : K.lookup f13 = some ⟨oc13, od13, .func (PySem.W.fnOf "read_opener" "Reader.read_opener" (defArgs s_Reader_read_opener) (defBody s_Reader_read_opener) (defScope s_Reader_read_opener) .none kV13 dc13 pm13 an13 cd13 ct13), sl13⟩) (c13 : PySem.W.codeIn K cd13 "Reader.read_opener" = true) (k13 : PySem.W.keepIn K (.ref f13) = true)
    (a14 : PySem.W.findIn K (.ref cc22) "read_period" = some (some (.ref f14))) (i14 : PySem.W.isFn K (.ref f14) = true) (l14 : K.lookup f14 = some ⟨oc14, od14, .func (PySem.W.fnOf "read_period" "Reader.read_period" (defArgs s_Reader_read_period) (defBody s_Reader_read_period) (defScope s_Reader_read_period) .none kV14 dc14 pm14 an14 cd14 ct14), sl14⟩) (c14 : PySem.W.codeIn K cd14 "Reader.read_period" = true) (k14 : PySem.W.keepIn K (.ref f14) = true)
    (a15 : PySem.W.findIn K (.ref cc22) "read_closing" = some (some (.ref f15))) (i15 : PySem.W.isFn K (.ref f15) = true) (l15 : K.lookup f15 = some ⟨oc15, od15, .func (PySem.W.fnOf "read_closing" "Reader.read_closing" (defArgs s_Reader_read_closing) (defBody s_Reader_read_closing) (defScope s_Reader_read_closing) .none kV15 dc15 pm15 an15 cd15 ct15), sl15⟩) (c15 : PySem.W.codeIn K cd15 "Reader.read_closing" = true) (k15 : PySem.W.keepIn K (.ref f15) = true)
    (a16 : PySem.W.findIn K (.ref cc22) "finish" = some (some (.ref f16))) (i16 : PySem.W.isFn K (.ref f16) = true) (l16 : K.lookup f16 = some ⟨oc16, od16, .func (PySem.W.fnOf "finish" "Reader.finish" (defArgs s_Reader_finish) (defBody s_Reader_finish) (defScope s_Reader_finish) .none kV16 dc16 pm16 an16 cd16 ct16), sl16⟩) (c16 : PySem.W.codeIn K cd16 "Reader.finish" = true) (k16 : PySem.W.keepIn K (.ref f16) = true)
    (a17 : PySem.W.findIn K (.ref cc22) "read_name" = some (some (.ref f17))) (i17 : PySem.W.isFn K (.ref f17) = true) (l17 : K.lookup f17 = some ⟨oc17, od17, .func (PySem.W.fnOf "read_name" "Reader.read_name" (defArgs s_Reader_read_name) (defBody s_Reader_read_name) (defScope s_Reader_read_name) .none kV17 dc17 pm17 an17 cd17 ct17), sl17⟩) (c17 : PySem.W.codeIn K cd17 "Reader.read_name" = true) (k17 : PySem.W.keepIn K (.ref f17) = true)
    (a18 : PySem.W.findIn K (.ref cc22) "read" = some (some (.ref f18))) (i18 : PySem.W.isFn K (.ref f18) = true) (l18 : K.lookup f18 = some ⟨oc18, od18, .func (PySem.W.fnOf "read" "Reader.read" (defArgs s_Reader_read) (defBody s_Reader_read) (defScope s_Reader_read) .none kV18 dc18 pm18 an18 cd18 ct18), sl18⟩) (c18 : PySem.W.codeIn K cd18 "Reader.read" = true) (k18 : PySem.W.keepIn K (.ref f18) = true)
    (a19 : PySem.W.nsIn K mainGlobals "name_end" = some (some (.ref f19))) (l19 : K.lookup f19 = some ⟨oc19, od19, .func (PySem.W.fnOf "name_end" "name_end" (defArgs s_name_end) (defBody s_name_end) (defScope s_name_end) .none kV19 dc19 pm19 an19 cd19 ct19), sl19⟩) (c19 : PySem.W.codeIn K cd19 "name_end" = true) (k19 : PySem.W.keepIn K (.ref f19) = true)
    (a20 : PySem.W.nsIn K mainGlobals "token_end" = some (some (.ref f20))) (l20 : K.lookup f20 = some ⟨oc20, od20, .func (PySem.W.fnOf "token_end" "token_end" (defArgs s_token_end) (defBody s_token_end) (defScope s_token_end) .none kV20 dc20 pm20 an20 cd20 ct20), sl20⟩) (c20 : PySem.W.codeIn K cd20 "token_end" = true) (k20 : PySem.W.keepIn K (.ref f20) = true)
    (a21 : PySem.W.nsIn K mainGlobals "parse" = some (some (.ref f21))) (l21 : K.lookup f21 = some ⟨oc21, od21, .func (PySem.W.fnOf "parse" "parse" (defArgs s_parse) (defBody s_parse) (defScope s_parse) .none kV21 dc21 pm21 an21 cd21 ct21), sl21⟩) (c21 : PySem.W.codeIn K cd21 "parse" = true) (k21 : PySem.W.keepIn K (.ref f21) = true)
    (a22 : PySem.W.nsIn K mainGlobals "is_number" = some (some (.ref f22))) (l22 : K.lookup f22 = some ⟨oc22, od22, .func (PySem.W.fnOf "is_number" "is_number" (defArgs s_is_number) (defBody s_is_number) (defScope s_is_number) .none kV22 dc22 pm22 an22 cd22 ct22), sl22⟩) (c22 : PySem.W.codeIn K cd22 "is_number" = true) (k22 : PySem.W.keepIn K (.ref f22) = true)
    (a23 : PySem.W.nsIn K mainGlobals "is_node" = some (some (.ref f23))) (l23 : K.lookup f23 = some ⟨oc23, od23, .func (PySem.W.fnOf "is_node" "is_node" (defArgs s_is_node) (defBody s_is_node) (defScope s_is_node) .none kV23 dc23 pm23 an23 cd23 ct23), sl23⟩) (c23 : PySem.W.codeIn K cd23 "is_node" = true) (k23 : PySem.W.keepIn K (.ref f23) = true)
    (a24 : PySem.W.nsIn K mainGlobals "part_count" = some (some (.ref f24))) (l24 : K.lookup f24 = some ⟨oc24, od24, .func (PySem.W.fnOf "part_count" "part_count" (defArgs s_part_count) (defBody s_part_count) (defScope s_part_count) .none kV24 dc24 pm24 an24 cd24 ct24), sl24⟩) (c24 : PySem.W.codeIn K cd24 "part_count" = true) (k24 : PySem.W.keepIn K (.ref f24) = true)
    (a25 : PySem.W.nsIn K mainGlobals "is_written" = some (some (.ref f25))) (l25 : K.lookup f25 = some ⟨oc25, od25, .func (PySem.W.fnOf "is_written" "is_written" (defArgs s_is_written) (defBody s_is_written) (defScope s_is_written) .none kV25 dc25 pm25 an25 cd25 ct25), sl25⟩) (c25 : PySem.W.codeIn K cd25 "is_written" = true) (k25 : PySem.W.keepIn K (.ref f25) = true)
    (a26 : PySem.W.nsIn K mainGlobals "is_term" = some (some (.ref f26))) (l26 : K.lookup f26 = some ⟨oc26, od26, .func (PySem.W.fnOf "is_term" "is_term" (defArgs s_is_term) (defBody s_is_term) (defScope s_is_term) .none kV26 dc26 pm26 an26 cd26 ct26), sl26⟩) (c26 : PySem.W.codeIn K cd26 "is_term" = true) (k26 : PySem.W.keepIn K (.ref f26) = true)
    (a27 : PySem.W.nsIn K mainGlobals "_law_drawn_name" = some (some (.ref f27))) (l27 : K.lookup f27 = some ⟨oc27, od27, .func (PySem.W.fnOf "_law_drawn_name" "_law_drawn_name" (defArgs s_law_drawn_name) (defBody s_law_drawn_name) (defScope s_law_drawn_name) .none kV27 dc27 pm27 an27 cd27 ct27), sl27⟩) (c27 : PySem.W.codeIn K cd27 "_law_drawn_name" = true) (k27 : PySem.W.keepIn K (.ref f27) = true)
    (a28 : PySem.W.nsIn K mainGlobals "_law_drawn_names" = some (some (.ref f28))) (l28 : K.lookup f28 = some ⟨oc28, od28, .func (PySem.W.fnOf "_law_drawn_names" "_law_drawn_names" (defArgs s_law_drawn_names) (defBody s_law_drawn_names) (defScope s_law_drawn_names) .none kV28 dc28 pm28 an28 cd28 ct28), sl28⟩) (c28 : PySem.W.codeIn K cd28 "_law_drawn_names" = true) (k28 : PySem.W.keepIn K (.ref f28) = true)
    (a29 : PySem.W.nsIn K mainGlobals "_law_scope_names" = some (some (.ref f29))) (l29 : K.lookup f29 = some ⟨oc29, od29, .func (PySem.W.fnOf "_law_scope_names" "_law_scope_names" (defArgs s_law_scope_names) (defBody s_law_scope_names) (defScope s_law_scope_names) .none kV29 dc29 pm29 an29 cd29 ct29), sl29⟩) (c29 : PySem.W.codeIn K cd29 "_law_scope_names" = true) (k29 : PySem.W.keepIn K (.ref f29) = true)
    (a30 : PySem.W.nsIn K mainGlobals "_law_use" = some (some (.ref f30))) (l30 : K.lookup f30 = some ⟨oc30, od30, .func (PySem.W.fnOf "_law_use" "_law_use" (defArgs s_law_use) (defBody s_law_use) (defScope s_law_use) .none kV30 dc30 pm30 an30 cd30 ct30), sl30⟩) (c30 : PySem.W.codeIn K cd30 "_law_use" = true) (k30 : PySem.W.keepIn K (.ref f30) = true)
    (a31 : PySem.W.nsIn K mainGlobals "_law_wrapped" = some (some (.ref f31))) (l31 : K.lookup f31 = some ⟨oc31, od31, .func (PySem.W.fnOf "_law_wrapped" "_law_wrapped" (defArgs s_law_wrapped) (defBody s_law_wrapped) (defScope s_law_wrapped) .none kV31 dc31 pm31 an31 cd31 ct31), sl31⟩) (c31 : PySem.W.codeIn K cd31 "_law_wrapped" = true) (k31 : PySem.W.keepIn K (.ref f31) = true)
    (a32 : PySem.W.nsIn K mainGlobals "_law_make" = some (some (.ref f32))) (l32 : K.lookup f32 = some ⟨oc32, od32, .func (PySem.W.fnOf "_law_make" "_law_make" (defArgs s_law_make) (defBody s_law_make) (defScope s_law_make) .none kV32 dc32 pm32 an32 cd32 ct32), sl32⟩) (c32 : PySem.W.codeIn K cd32 "_law_make" = true) (k32 : PySem.W.keepIn K (.ref f32) = true)
    (a33 : PySem.W.nsIn K mainGlobals "_law_text" = some (some (.ref f33))) (l33 : K.lookup f33 = some ⟨oc33, od33, .func (PySem.W.fnOf "_law_text" "_law_text" (defArgs s_law_text) (defBody s_law_text) (defScope s_law_text) .none kV33 dc33 pm33 an33 cd33 ct33), sl33⟩) (c33 : PySem.W.codeIn K cd33 "_law_text" = true) (k33 : PySem.W.keepIn K (.ref f33) = true)
    (a34 : PySem.W.nsIn K mainGlobals "law" = some (some (.ref f34))) (l34 : K.lookup f34 = some ⟨oc34, od34, .func (PySem.W.fnOf "law" "law" (defArgs s_law) (defBody s_law) (defScope s_law) .none kV34 dc34 pm34 an34 cd34 ct34), sl34⟩) (c34 : PySem.W.codeIn K cd34 "law" = true) (k34 : PySem.W.keepIn K (.ref f34) = true)
    (z_int : PySem.W.nsIn K mainGlobals "int" = some none)
    (z_list : PySem.W.nsIn K mainGlobals "list" = some none)
    (z_len : PySem.W.nsIn K mainGlobals "len" = some none)
    (z_abs : PySem.W.nsIn K mainGlobals "abs" = some none)
    (z_isinstance : PySem.W.nsIn K mainGlobals "isinstance" = some none)
    (z_tuple : PySem.W.nsIn K mainGlobals "tuple" = some none)
    (z_range : PySem.W.nsIn K mainGlobals "range" = some none)
    (z_str : PySem.W.nsIn K mainGlobals "str" = some none)
    (z_max : PySem.W.nsIn K mainGlobals "max" = some none)
    (z_enumerate : PySem.W.nsIn K mainGlobals "enumerate" = some none)
    (z_bool : PySem.W.nsIn K mainGlobals "bool" = some none)
    (z_ValueError : PySem.W.nsIn K mainGlobals "ValueError" = some none)
    (g_MOST_NODES : PySem.W.nsIn K mainGlobals "MOST_NODES" = some (some (.int 1000 t0)))
    (g_MOST_VARIABLE : PySem.W.nsIn K mainGlobals "MOST_VARIABLE" = some (some (.int 1000000 t1)))
    (g_MOST_LENGTH : PySem.W.nsIn K mainGlobals "MOST_LENGTH" = some (some (.int 10 t2)))
    (g_MOST_OPEN : PySem.W.nsIn K mainGlobals "MOST_OPEN" = some (some (.int 60 t3)))
    (g_LETTERS : PySem.W.nsIn K mainGlobals "LETTERS" = some (some (.str "abcdefghijklmnopqrstuvwxyz" t100)))
    (g_DIGITS : PySem.W.nsIn K mainGlobals "DIGITS" = some (some (.str "0123456789" t101)))
    (g_SIGNS : PySem.W.nsIn K mainGlobals "SIGNS" = some (some (.str "\\.()" t102)))
    (e_PART_COUNTS : PySem.W.nsIn K mainGlobals "PART_COUNTS" = some (some (.ref cc40)))
    (e_LyditeError : PySem.W.nsIn K mainGlobals "LyditeError" = some (some (.ref cc0)))
    (e_TooLarge : PySem.W.nsIn K mainGlobals "TooLarge" = some (some (.ref cc1)))
    (e_Level : PySem.W.nsIn K mainGlobals "Level" = some (some (.ref cc21)))
    (e_Reader : PySem.W.nsIn K mainGlobals "Reader" = some (some (.ref cc22)))
    (y_d_PART_COUNTS : KD K w cc40 [("lam", .int 1), ("app", .int 2), ("to", .int 2)])
    (y_t_LyditeError : PySem.W.typeIn K (.ref cc0) = some (.type "type"))
    (y_h3_LyditeError : PySem.W.hasDictIn K cc0 = true)
    (y_x_TooLarge : PySem.W.excIn K cc1 [.type "ValueError", .type "Exception", .type "BaseException", .type "object"] "ValueError.__new__" = true)
    (y_k_TooLarge : PySem.W.keepIn K (.ref cc1) = true)
    (y_b_TooLarge : PySem.W.subIn K (.ref cc1) (.type "BaseException") = some true)
    (y_t_TooLarge : PySem.W.typeIn K (.ref cc1) = some (.type "type"))
    (y_s0_TooLarge : PySem.W.subIn K (.ref cc1) (.ref cc0) = some true)
    (y_sv_TooLarge : PySem.W.subIn K (.ref cc1) (.type "ValueError") = some true)
    (y_s1_TooLarge : PySem.W.subIn K (.ref cc1) (.ref cc1) = some true)
    (y_h1_TooLarge : PySem.W.findIn K (.ref cc1) "__getattribute__" = some (some (.builtin "BaseException.__getattribute__")))
    (y_h2_TooLarge : PySem.W.findIn K (.ref cc1) "__getattr__" = some none)
    (y_h3_TooLarge : PySem.W.hasDictIn K cc1 = true)
    (y_h4_TooLarge : PySem.W.findIn K (.ref cc1) "__class__" = some (some (.builtin "object.__class__")))
    (y_h7_TooLarge : PySem.W.mroIn K cc1 (.type "object") = some true)
    (y_h5_TooLarge : PySem.W.specialIn K (.builtin "object.__class__") "__get__" = some (some (.builtin "getset_descriptor.__get__")))
    (y_h6_TooLarge : PySem.W.takesIn K (.builtin "object.__class__") = some true)
    (y_pg_Level : PySem.W.plainGet K cc21 Str.empty = true)
    (y_hd_Level : PySem.W.hasDictIn K cc21 = true)
    (y_po_Level : PySem.W.plainOver K cc21 = true)
    (y_sa_Level : PySem.W.findIn K (.ref cc21) "__setattr__" = some (some (.builtin "object.__setattr__")))
    (y_mk_Level : PySem.W.makesIn K cc21 = true)
    (y_kc_Level : PySem.W.keepIn K (.ref cc21) = true)
    (y_nf_Level_opener : PySem.W.findIn K (.ref cc21) "opener" = some none)
    (y_nf_Level_naming : PySem.W.findIn K (.ref cc21) "naming" = some none)
    (y_nf_Level_names : PySem.W.findIn K (.ref cc21) "names" = some none)
    (y_nf_Level_parts : PySem.W.findIn K (.ref cc21) "parts" = some none)
    (y_nf_Level_nodes : PySem.W.findIn K (.ref cc21) "nodes" = some none)
    (y_pg_Reader : PySem.W.plainGet K cc22 Str.empty = true)
    (y_hd_Reader : PySem.W.hasDictIn K cc22 = true)
    (y_po_Reader : PySem.W.plainOver K cc22 = true)
    (y_sa_Reader : PySem.W.findIn K (.ref cc22) "__setattr__" = some (some (.builtin "object.__setattr__")))
    (y_mk_Reader : PySem.W.makesIn K cc22 = true)
    (y_kc_Reader : PySem.W.keepIn K (.ref cc22) = true)
    (y_nf_Reader_numbers : PySem.W.findIn K (.ref cc22) "numbers" = some none)
    (y_nf_Reader_bound : PySem.W.findIn K (.ref cc22) "bound" = some none)
    (y_nf_Reader_depth : PySem.W.findIn K (.ref cc22) "depth" = some none)
    (y_nf_Reader_levels : PySem.W.findIn K (.ref cc22) "levels" = some none)
    (y_nf_Reader_naming : PySem.W.findIn K (.ref cc22) "naming" = some none)
    : ∃ fd : FuncData, (∀ (s : Shared) (v : Value), BindsTo s fd ⟨[v], []⟩ [("script", v)]) ∧ ∀ base : Heap, K.In base → base.Ns mainGlobals mg → FnOk l.prog w K mg base (L2.CX l.prog w) 40 fa fd ["script"] (spLaw K) := by
  have e := hfa.symm.trans (PySem.W.mg_of X G a34)
  cases e
  have T : Txt w K mg (fun n => match n with | 0 => t0 | 1 => t1 | 2 => t2 | 3 => t3 | 100 => t100 | 101 => t101 | _ => t102) (fun n => match n with | 40 => cc40 | 0 => cc0 | 1 => cc1 | 21 => cc21 | _ => cc22) := ⟨PySem.W.mg_none_of X G z_int, PySem.W.mg_none_of X G z_list, PySem.W.mg_none_of X G z_len, PySem.W.mg_none_of X G z_abs, PySem.W.mg_none_of X G z_isinstance, PySem.W.mg_none_of X G z_tuple, PySem.W.mg_none_of X G z_range, PySem.W.mg_none_of X G z_str, PySem.W.mg_none_of X G z_max, PySem.W.mg_none_of X G z_enumerate, PySem.W.mg_none_of X G z_bool, PySem.W.mg_of X G g_MOST_NODES, PySem.W.mg_of X G g_MOST_VARIABLE, PySem.W.mg_of X G g_MOST_LENGTH, PySem.W.mg_of X G g_MOST_OPEN, PySem.W.mg_of X G g_LETTERS, PySem.W.mg_of X G g_DIGITS, PySem.W.mg_of X G g_SIGNS, PySem.W.mg_of X G e_PART_COUNTS, y_d_PART_COUNTS, PySem.W.mg_none_of X G z_ValueError, PySem.W.mg_of X G e_LyditeError, y_t_LyditeError, y_h3_LyditeError, PySem.W.mg_of X G e_TooLarge, y_x_TooLarge, y_k_TooLarge, y_b_TooLarge, y_t_TooLarge, y_s0_TooLarge, y_sv_TooLarge, y_s1_TooLarge, y_h1_TooLarge, y_h2_TooLarge, y_h3_TooLarge, y_h4_TooLarge, y_h7_TooLarge, y_h5_TooLarge, y_h6_TooLarge, PySem.W.mg_of X G e_Level, y_pg_Level, y_hd_Level, y_po_Level, y_sa_Level, y_mk_Level, y_kc_Level, y_nf_Level_opener, y_nf_Level_naming, y_nf_Level_names, y_nf_Level_parts, y_nf_Level_nodes, PySem.W.mg_of X G e_Reader, y_pg_Reader, y_hd_Reader, y_po_Reader, y_sa_Reader, y_mk_Reader, y_kc_Reader, y_nf_Reader_numbers, y_nf_Reader_bound, y_nf_Reader_depth, y_nf_Reader_levels, y_nf_Reader_naming⟩
  exact ⟨PySem.W.fnOf "law" "law" (defArgs s_law) (defBody s_law) (defScope s_law) .none kV34 dc34 pm34 an34 cd34 ct34, fun s v => .of_eq rfl, fun base _ _ => by
    have F1 := fun_mk (st := s_law_draw) l1 c1 k1
    have D1 := Def.of (P := l.prog) (w := w) (base := base) (k := 1) (PySem.W.mg_of X G a1) k1 (F1.binds (ps := ["stream", "many"]) fun _ _ _ _ _ _ us hl => match us, hl with | [_, _], _ => rfl) (ok_draw F1 T)
    have F2 := fun_mk (st := s_law_stream) l2 c2 k2
    have D2 := Def.of (P := l.prog) (w := w) (base := base) (k := 1) (PySem.W.mg_of X G a2) k2 (F2.binds (ps := ["script"]) fun _ _ _ _ _ _ us hl => match us, hl with | [_], _ => rfl) (ok_stream F2 T)
    have F3 := fun_mk (st := s_check_size) l3 c3 k3
    have D3 := Def.of (P := l.prog) (w := w) (base := base) (k := 1) (PySem.W.mg_of X G a3) k3 (F3.binds (ps := ["size"]) fun _ _ _ _ _ _ us hl => match us, hl with | [_], _ => rfl) (ok_check_size F3 T)
    have F4 := fun_mk (st := s_checked) l4 c4 k4
    have D4 := Def.of (P := l.prog) (w := w) (base := base) (k := 2) (PySem.W.mg_of X G a4) k4 (F4.binds (ps := ["term"]) fun _ _ _ _ _ _ us hl => match us, hl with | [_], _ => rfl) (ok_checked F4 T D3)
    have F5 := fun_mk (st := s_Level_init) l5 c5 k5
    have D5 := DefC.of (P := l.prog) (w := w) (mg := mg) (base := base) (k := 1) ⟨y_mk_Level, a5, i5, y_kc_Level⟩ (F5.binds (ps := ["self", "opener"]) fun _ _ _ _ _ _ us hl => match us, hl with | [_, _], _ => rfl) (ok_lvinit F5 T)
    have F6 := fun_mk (st := s_Level_is_whole) l6 c6 k6
    have D6 := C8.Met.mk (P := l.prog) (w := w) (K := K) (mg := mg) (base := base) (k := 1) (m := "is_whole") (dvs := []) ⟨f6, _, ["self"], [], T.cls_Level, ⟨a6, i6, k6⟩, ok_lvwhole F6 T, (F6.binds (ps := ["self"]) fun _ _ _ _ _ _ us hl => match us, hl with | [_], _ => rfl), .nil⟩
    have F7 := fun_mk (st := s_Level_add_part) l7 c7 k7
    have D7 := C8.Met.mk (P := l.prog) (w := w) (K := K) (mg := mg) (base := base) (k := 1) (m := "add_part") (dvs := []) ⟨f7, _, ["self", "nodes"], [], T.cls_Level, ⟨a7, i7, k7⟩, ok_lvadd F7 T, (F7.binds (ps := ["self", "nodes"]) fun _ _ _ _ _ _ us hl => match us, hl with | [_, _], _ => rfl), .nil⟩
    have F8 := fun_mk (st := s_Level_all_nodes) l8 c8 k8
    have D8 := C8.Met.mk (P := l.prog) (w := w) (K := K) (mg := mg) (base := base) (k := 1) (m := "all_nodes") (dvs := []) ⟨f8, _, ["self"], [], T.cls_Level, ⟨a8, i8, k8⟩, ok_lvall F8 T, (F8.binds (ps := ["self"]) fun _ _ _ _ _ _ us hl => match us, hl with | [_], _ => rfl), .nil⟩
    have F9 := fun_mk (st := s_Reader_init) l9 c9 k9
    have D9 := DefC.of (P := l.prog) (w := w) (mg := mg) (base := base) (k := 3) ⟨y_mk_Reader, a9, i9, y_kc_Reader⟩ (F9.binds (ps := ["self", "names"]) fun _ _ _ _ _ _ us hl => match us, hl with | [_, _], _ => rfl) (ok_rdinit F9 T D5)
    have F10 := fun_mk (st := s_Reader_variable) l10 c10 k10
    have D10 := C8.Met.mk (P := l.prog) (w := w) (K := K) (mg := mg) (base := base) (k := 1) (m := "variable") (dvs := []) ⟨f10, _, ["self", "name", "at"], [], T.cls_Reader, ⟨a10, i10, k10⟩, ok_rdvar F10 T, (F10.binds (ps := ["self", "name", "at"]) fun _ _ _ _ _ _ us hl => match us, hl with | [_, _, _], _ => rfl), .nil⟩
    have F11 := fun_mk (st := s_Reader_end_level) l11 c11 k11
    have D11 := C8.Met.mk (P := l.prog) (w := w) (K := K) (mg := mg) (base := base) (k := 2) (m := "end_level") (dvs := []) ⟨f11, _, ["self"], [], T.cls_Reader, ⟨a11, i11, k11⟩, ok_rdend F11 T D8 D7, (F11.binds (ps := ["self"]) fun _ _ _ _ _ _ us hl => match us, hl with | [_], _ => rfl), .nil⟩
    have F12 := fun_mk (st := s_Reader_end_abstractions) l12 c12 k12
    have D12 := C8.Met.mk (P := l.prog) (w := w) (K := K) (mg := mg) (base := base) (k := 3) (m := "end_abstractions") (dvs := []) ⟨f12, _, ["self", "at"], [], T.cls_Reader, ⟨a12, i12, k12⟩, ok_rdabs F12 T D6 D11, (F12.binds (ps := ["self", "at"]) fun _ _ _ _ _ _ us hl => match us, hl with | [_, _], _ => rfl), .nil⟩
    have F13 := fun_mk (st := s_Reader_read_opener) l13 c13 k13
    have D13 := C8.Met.mk (P := l.prog) (w := w) (K := K) (mg := mg) (base := base) (k := 3) (m := "read_opener") (dvs := []) ⟨f13, _, ["self", "token", "at"], [], T.cls_Reader, ⟨a13, i13, k13⟩, ok_rdopen F13 T D5, (F13.binds (ps := ["self", "token", "at"]) fun _ _ _ _ _ _ us hl => match us, hl with | [_, _, _], _ => rfl), .nil⟩
    have F14 := fun_mk (st := s_Reader_read_period) l14 c14 k14
    have D14 := C8.Met.mk (P := l.prog) (w := w) (K := K) (mg := mg) (base := base) (k := 1) (m := "read_period") (dvs := []) ⟨f14, _, ["self", "at"], [], T.cls_Reader, ⟨a14, i14, k14⟩, ok_rdper F14 T, (F14.binds (ps := ["self", "at"]) fun _ _ _ _ _ _ us hl => match us, hl with | [_, _], _ => rfl), .nil⟩
    have F15 := fun_mk (st := s_Reader_read_closing) l15 c15 k15
    have D15 := C8.Met.mk (P := l.prog) (w := w) (K := K) (mg := mg) (base := base) (k := 4) (m := "read_closing") (dvs := []) ⟨f15, _, ["self", "at"], [], T.cls_Reader, ⟨a15, i15, k15⟩, ok_rdclo F15 T D12 D11, (F15.binds (ps := ["self", "at"]) fun _ _ _ _ _ _ us hl => match us, hl with | [_, _], _ => rfl), .nil⟩
    have F16 := fun_mk (st := s_Reader_finish) l16 c16 k16
    have D16 := C8.Met.mk (P := l.prog) (w := w) (K := K) (mg := mg) (base := base) (k := 4) (m := "finish") (dvs := []) ⟨f16, _, ["self", "at"], [], T.cls_Reader, ⟨a16, i16, k16⟩, ok_rdfin F16 T D12 D8, (F16.binds (ps := ["self", "at"]) fun _ _ _ _ _ _ us hl => match us, hl with | [_, _], _ => rfl), .nil⟩
    have F17 := fun_mk (st := s_Reader_read_name) l17 c17 k17
    have D17 := C8.Met.mk (P := l.prog) (w := w) (K := K) (mg := mg) (base := base) (k := 2) (m := "read_name") (dvs := []) ⟨f17, _, ["self", "name", "at"], [], T.cls_Reader, ⟨a17, i17, k17⟩, ok_rdname F17 T D10 D7, (F17.binds (ps := ["self", "name", "at"]) fun _ _ _ _ _ _ us hl => match us, hl with | [_, _, _], _ => rfl), .nil⟩
    have F18 := fun_mk (st := s_Reader_read) l18 c18 k18
    have D18 := C8.Met.mk (P := l.prog) (w := w) (K := K) (mg := mg) (base := base) (k := 5) (m := "read") (dvs := []) ⟨f18, _, ["self", "token", "at"], [], T.cls_Reader, ⟨a18, i18, k18⟩, ok_rdread F18 T D13 D14 D15 D17, (F18.binds (ps := ["self", "token", "at"]) fun _ _ _ _ _ _ us hl => match us, hl with | [_, _, _], _ => rfl), .nil⟩
    have F19 := fun_mk (st := s_name_end) l19 c19 k19
    have D19 := Def.of (P := l.prog) (w := w) (base := base) (k := 1) (PySem.W.mg_of X G a19) k19 (F19.binds (ps := ["text", "start"]) fun _ _ _ _ _ _ us hl => match us, hl with | [_, _], _ => rfl) (ok_nameend F19 T)
    have F20 := fun_mk (st := s_token_end) l20 c20 k20
    have D20 := Def.of (P := l.prog) (w := w) (base := base) (k := 2) (PySem.W.mg_of X G a20) k20 (F20.binds (ps := ["text", "start"]) fun _ _ _ _ _ _ us hl => match us, hl with | [_, _], _ => rfl) (ok_tokend F20 T D19)
    have F21 := fun_mk (st := s_parse) l21 c21 k21
    have D21 := Def.of (P := l.prog) (w := w) (base := base) (k := 6) (PySem.W.mg_of X G a21) k21 (F21.binds (ps := ["text", "names"]) fun _ _ _ _ _ _ us hl => match us, hl with | [_, _], _ => rfl) (ok_parse F21 T D9 D20 D18 D16 D4)
    have F22 := fun_mk (st := s_is_number) l22 c22 k22
    have D22 := Def.of (P := l.prog) (w := w) (base := base) (k := 1) (PySem.W.mg_of X G a22) k22 (F22.binds (ps := ["value", "most"]) fun _ _ _ _ _ _ us hl => match us, hl with | [_, _], _ => rfl) (ok_is_number F22 T)
    have F23 := fun_mk (st := s_is_node) l23 c23 k23
    have D23 := Def.of (P := l.prog) (w := w) (base := base) (k := 2) (PySem.W.mg_of X G a23) k23 (F23.binds (ps := ["value", "words"]) fun _ _ _ _ _ _ us hl => match us, hl with | [_, _], _ => rfl) (ok_is_node F23 T D22)
    have F24 := fun_mk (st := s_part_count) l24 c24 k24
    have D24 := Def.of (P := l.prog) (w := w) (base := base) (k := 1) (PySem.W.mg_of X G a24) k24 (F24.binds (ps := ["node"]) fun _ _ _ _ _ _ us hl => match us, hl with | [_], _ => rfl) (ok_part_countD F24 T)
    have F25 := fun_mk (st := s_is_written) l25 c25 k25
    have D25 := Def.of (P := l.prog) (w := w) (base := base) (k := 3) (PySem.W.mg_of X G a25) k25 (F25.binds (ps := ["value", "words"]) fun _ _ _ _ _ _ us hl => match us, hl with | [_, _], _ => rfl) (ok_is_written F25 T D23 D24)
    have F26 := fun_mk (st := s_is_term) l26 c26 k26
    have D26 := Def.of (P := l.prog) (w := w) (base := base) (k := 4) (PySem.W.mg_of X G a26) k26 (F26.binds (ps := ["value"]) fun _ _ _ _ _ _ us hl => match us, hl with | [_], _ => rfl) (ok_is_term F26 T D25)
    have F27 := fun_mk (st := s_law_drawn_name) l27 c27 k27
    have D27 := Def.of (P := l.prog) (w := w) (base := base) (k := 2) (PySem.W.mg_of X G a27) k27 (F27.binds (ps := ["stream"]) fun _ _ _ _ _ _ us hl => match us, hl with | [_], _ => rfl) (ok_dname F27 T D1)
    have F28 := fun_mk (st := s_law_drawn_names) l28 c28 k28
    have D28 := Def.of (P := l.prog) (w := w) (base := base) (k := 3) (PySem.W.mg_of X G a28) k28 (F28.binds (ps := ["stream"]) fun _ _ _ _ _ _ us hl => match us, hl with | [_], _ => rfl) (ok_dnames F28 T D1 D27)
    have F29 := fun_mk (st := s_law_scope_names) l29 c29 k29
    have D29 := Def.of (P := l.prog) (w := w) (base := base) (k := 1) (PySem.W.mg_of X G a29) k29 (F29.binds (ps := ["scope", "names"]) fun _ _ _ _ _ _ us hl => match us, hl with | [_, _], _ => rfl) (ok_scn F29 T)
    have F30 := fun_mk (st := s_law_use) l30 c30 k30
    have D30 := Def.of (P := l.prog) (w := w) (base := base) (k := 1) (PySem.W.mg_of X G a30) k30 (F30.binds (ps := ["name", "scope", "names"]) fun _ _ _ _ _ _ us hl => match us, hl with | [_, _, _], _ => rfl) (ok_use F30 T)
    have F31 := fun_mk (st := s_law_wrapped) l31 c31 k31
    have D31 := Def.of (P := l.prog) (w := w) (base := base) (k := 1) (PySem.W.mg_of X G a31) k31 (F31.binds (ps := ["words"]) fun _ _ _ _ _ _ us hl => match us, hl with | [_], _ => rfl) (ok_wrap F31 T)
    have F32 := fun_mk (st := s_law_make) l32 c32 k32
    have D32 := Def.of (P := l.prog) (w := w) (base := base) (k := 20) (PySem.W.mg_of X G a32) k32 (F32.binds (ps := ["stream", "depth", "scope", "names"]) fun _ _ _ _ _ _ us hl => match us, hl with | [_, _, _, _], _ => rfl) (ok_make F32 T D1 D27 D29 D30 D31 (PySem.W.mg_of X G a32) k32 (F32.binds (ps := ["stream", "depth", "scope", "names"]) fun _ _ _ _ _ _ us hl => match us, hl with | [_, _, _, _], _ => rfl) 12)
    have F33 := fun_mk (st := s_law_text) l33 c33 k33
    have D33 := Def.of (P := l.prog) (w := w) (base := base) (k := 2) (PySem.W.mg_of X G a33) k33 (F33.binds (ps := ["stream", "words"]) fun _ _ _ _ _ _ us hl => match us, hl with | [_, _], _ => rfl) (ok_text F33 T D1)
    have F34 := fun_mk (st := s_law) l34 c34 k34
    exact ok_law F34 T D2 D1 D28 D32 D31 D33 D21 D26⟩
theorem walk {l : PySem.W.OpenLaw} {q : Program} {loose : List Str} {XP : (Str → Option Value) → Heap → Prop} {YP : World → Heap → Prop} {d : DefRec} {K : Params → PySem.W.Frag} (hn : l.most = some 63) (hdf : d.params.defaults = [])
    (hY : ∀ (w : World) (h : Heap), YP w h → (K w.params).In h)
    (F : ∀ (w : World) (mg : Str → Option Value) (fa : Addr) (h : Heap), (K w.params).In h → h.Ns mainGlobals mg → mg d.name = some (.ref fa) →
      ∃ fd : FuncData, (∀ (s : Shared) (u : Value), BindsTo s fd ⟨[u], []⟩ [("script", u)]) ∧ ∀ base : Heap, (K w.params).In base → base.Ns mainGlobals mg → FnOk l.prog w (K w.params) mg base (L2.CX l.prog w) 40 fa fd ["script"] (spLaw (K w.params))) :
    PySem.W.WalkO q loose XP YP l.row.toRowW d [] (fun f vs => PySem.call f vs) :=
  L2.walk_of (n := 63) (k := 40) (x := "script") (CX := fun w => L2.CX l.prog w) (sp := fun w => spLaw (K w.params)) hn (by decide) hdf ⟨rfl, by decide, by decide⟩ hY F (fun _ _ a ns hl _ hS => ⟨a, ns, rfl, hS, hl, fun _ => rfl⟩) fun _ _ _ _ _ z => (match z with | ⟨_, _, _, _, _, _, _, _, _, _, _, _, e⟩ => e)
end Ly
open PySem PySem.W PyProof.Rows in
set_option maxRecDepth 100000 in
set_option maxHeartbeats 0 in
theorem PySem.Challenge.cw_lydite_k10_parse_holds : PySem.Challenge.rw_lydite_k10_parse.Holds := by
  w_on; o_law; k_head; (case hw => w_witness2)
  k_fill
  refine Ly.walk (l := PySem.Challenge.rw_lydite_k10_parse) rfl rfl (fun w h Y => PySem.W.kIn_of Y) ?F
  case F =>
    intro w mg fa h KX G hmg
    refine' Ly.all_mk KX G hmg ?a1 ?l1 ?c1 ?k1 ?a2 ?l2 ?c2 ?k2 ?a3 ?l3 ?c3 ?k3 ?a4 ?l4 ?c4 ?k4 ?a5 ?i5 ?l5 ?c5 ?k5 ?a6 ?i6 ?l6 ?c6 ?k6 ?a7 ?i7 ?l7 ?c7 ?k7 ?a8 ?i8 ?l8 ?c8 ?k8 ?a9 ?i9 ?l9 ?c9 ?k9 ?a10 ?i10 ?l10 ?c10 ?k10 ?a11 ?i11 ?l11 ?c11 ?k11 ?a12 ?i12 ?l12 ?c12 ?k12 ?a13 ?i13 ?l13 ?c13 ?k13 ?a14 ?i14 ?l14 ?c14 ?k14 ?a15 ?i15 ?l15 ?c15 ?k15 ?a16 ?i16 ?l16 ?c16 ?k16 ?a17 ?i17 ?l17 ?c17 ?k17 ?a18 ?i18 ?l18 ?c18 ?k18 ?a19 ?l19 ?c19 ?k19 ?a20 ?l20 ?c20 ?k20 ?a21 ?l21 ?c21 ?k21 ?a22 ?l22 ?c22 ?k22 ?a23 ?l23 ?c23 ?k23 ?a24 ?l24 ?c24 ?k24 ?a25 ?l25 ?c25 ?k25 ?a26 ?l26 ?c26 ?k26 ?a27 ?l27 ?c27 ?k27 ?a28 ?l28 ?c28 ?k28 ?a29 ?l29 ?c29 ?k29 ?a30 ?l30 ?c30 ?k30 ?a31 ?l31 ?c31 ?k31 ?a32 ?l32 ?c32 ?k32 ?a33 ?l33 ?c33 ?k33 ?a34 ?l34 ?c34 ?k34 ?z_int ?z_list ?z_len ?z_abs ?z_isinstance ?z_tuple ?z_range ?z_str ?z_max ?z_enumerate ?z_bool ?z_ValueError ?g_MOST_NODES ?g_MOST_VARIABLE ?g_MOST_LENGTH ?g_MOST_OPEN ?g_LETTERS ?g_DIGITS ?g_SIGNS ?e_PART_COUNTS ?e_LyditeError ?e_TooLarge ?e_Level ?e_Reader ?y_d_PART_COUNTS ?y_t_LyditeError ?y_h3_LyditeError ?y_x_TooLarge ?y_k_TooLarge ?y_b_TooLarge ?y_t_TooLarge ?y_s0_TooLarge ?y_sv_TooLarge ?y_s1_TooLarge ?y_h1_TooLarge ?y_h2_TooLarge ?y_h3_TooLarge ?y_h4_TooLarge ?y_h7_TooLarge ?y_h5_TooLarge ?y_h6_TooLarge ?y_pg_Level ?y_hd_Level ?y_po_Level ?y_sa_Level ?y_mk_Level ?y_kc_Level ?y_nf_Level_opener ?y_nf_Level_naming ?y_nf_Level_names ?y_nf_Level_parts ?y_nf_Level_nodes ?y_pg_Reader ?y_hd_Reader ?y_po_Reader ?y_sa_Reader ?y_mk_Reader ?y_kc_Reader ?y_nf_Reader_numbers ?y_nf_Reader_bound ?y_nf_Reader_depth ?y_nf_Reader_levels ?y_nf_Reader_naming
    (case e_PART_COUNTS => k_is)
    (case e_LyditeError => k_is)
    (case e_TooLarge => k_is)
    (case e_Level => k_is)
    (case e_Reader => k_is)
    (case y_d_PART_COUNTS => (refine' Ly.KD.mk ?kl ?kk ?ks ?ke; (case kl => k_is); (case kk => k_keys); (case ks => decide); (case ke => exact ⟨⟨_, rfl⟩, ⟨_, rfl⟩, ⟨⟨_, rfl⟩, ⟨_, rfl⟩, ⟨⟨_, rfl⟩, ⟨_, rfl⟩, True.intro⟩⟩⟩)))
    (case a1 => k_is)
    (case l1 => k_is)
    (case c1 => k_is)
    (case k1 => k_is)
    (case a2 => k_is)
    (case l2 => k_is)
    (case c2 => k_is)
    (case k2 => k_is)
    (case a3 => k_is)
    (case l3 => k_is)
    (case c3 => k_is)
    (case k3 => k_is)
    (case a4 => k_is)
    (case l4 => k_is)
    (case c4 => k_is)
    (case k4 => k_is)
    (case a5 => k_is)
    (case i5 => k_is)
    (case l5 => k_is)
    (case c5 => k_is)
    (case k5 => k_is)
    (case a6 => k_is)
    (case i6 => k_is)
    (case l6 => k_is)
    (case c6 => k_is)
    (case k6 => k_is)
    (case a7 => k_is)
    (case i7 => k_is)
    (case l7 => k_is)
    (case c7 => k_is)
    (case k7 => k_is)
    (case a8 => k_is)
    (case i8 => k_is)
    (case l8 => k_is)
    (case c8 => k_is)
    (case k8 => k_is)
    (case a9 => k_is)
    (case i9 => k_is)
    (case l9 => k_is)
    (case c9 => k_is)
    (case k9 => k_is)
    (case a10 => k_is)
    (case i10 => k_is)
    (case l10 => k_is)
    (case c10 => k_is)
    (case k10 => k_is)
    (case a11 => k_is)
    (case i11 => k_is)
    (case l11 => k_is)
    (case c11 => k_is)
    (case k11 => k_is)
    (case a12 => k_is)
    (case i12 => k_is)
    (case l12 => k_is)
    (case c12 => k_is)
    (case k12 => k_is)
    (case a13 => k_is)
    (case i13 => k_is)
    (case l13 => k_is)
    (case c13 => k_is)
    (case k13 => k_is)
    (case a14 => k_is)
    (case i14 => k_is)
    (case l14 => k_is)
    (case c14 => k_is)
    (case k14 => k_is)
    (case a15 => k_is)
    (case i15 => k_is)
    (case l15 => k_is)
    (case c15 => k_is)
    (case k15 => k_is)
    (case a16 => k_is)
    (case i16 => k_is)
    (case l16 => k_is)
    (case c16 => k_is)
    (case k16 => k_is)
    (case a17 => k_is)
    (case i17 => k_is)
    (case l17 => k_is)
    (case c17 => k_is)
    (case k17 => k_is)
    (case a18 => k_is)
    (case i18 => k_is)
    (case l18 => k_is)
    (case c18 => k_is)
    (case k18 => k_is)
    (case a19 => k_is)
    (case l19 => k_is)
    (case c19 => k_is)
    (case k19 => k_is)
    (case a20 => k_is)
    (case l20 => k_is)
    (case c20 => k_is)
    (case k20 => k_is)
    (case a21 => k_is)
    (case l21 => k_is)
    (case c21 => k_is)
    (case k21 => k_is)
    (case a22 => k_is)
    (case l22 => k_is)
    (case c22 => k_is)
    (case k22 => k_is)
    (case a23 => k_is)
    (case l23 => k_is)
    (case c23 => k_is)
    (case k23 => k_is)
    (case a24 => k_is)
    (case l24 => k_is)
    (case c24 => k_is)
    (case k24 => k_is)
    (case a25 => k_is)
    (case l25 => k_is)
    (case c25 => k_is)
    (case k25 => k_is)
    (case a26 => k_is)
    (case l26 => k_is)
    (case c26 => k_is)
    (case k26 => k_is)
    (case a27 => k_is)
    (case l27 => k_is)
    (case c27 => k_is)
    (case k27 => k_is)
    (case a28 => k_is)
    (case l28 => k_is)
    (case c28 => k_is)
    (case k28 => k_is)
    (case a29 => k_is)
    (case l29 => k_is)
    (case c29 => k_is)
    (case k29 => k_is)
    (case a30 => k_is)
    (case l30 => k_is)
    (case c30 => k_is)
    (case k30 => k_is)
    (case a31 => k_is)
    (case l31 => k_is)
    (case c31 => k_is)
    (case k31 => k_is)
    (case a32 => k_is)
    (case l32 => k_is)
    (case c32 => k_is)
    (case k32 => k_is)
    (case a33 => k_is)
    (case l33 => k_is)
    (case c33 => k_is)
    (case k33 => k_is)
    (case a34 => k_is)
    (case l34 => k_is)
    (case c34 => k_is)
    (case k34 => k_is)
    (case z_int => k_is)
    (case z_list => k_is)
    (case z_len => k_is)
    (case z_abs => k_is)
    (case z_isinstance => k_is)
    (case z_tuple => k_is)
    (case z_range => k_is)
    (case z_str => k_is)
    (case z_max => k_is)
    (case z_enumerate => k_is)
    (case z_bool => k_is)
    (case z_ValueError => k_is)
    (case g_MOST_NODES => k_is)
    (case g_MOST_VARIABLE => k_is)
    (case g_MOST_LENGTH => k_is)
    (case g_MOST_OPEN => k_is)
    (case g_LETTERS => k_is)
    (case g_DIGITS => k_is)
    (case g_SIGNS => k_is)
    (case y_t_LyditeError => k_is)
    (case y_h3_LyditeError => k_is)
    (case y_x_TooLarge => k_exc)
    (case y_k_TooLarge => k_is)
    (case y_b_TooLarge => k_is)
    (case y_t_TooLarge => k_is)
    (case y_s0_TooLarge => k_is)
    (case y_sv_TooLarge => k_is)
    (case y_s1_TooLarge => k_is)
    (case y_h1_TooLarge => k_is)
    (case y_h2_TooLarge => k_is)
    (case y_h3_TooLarge => k_is)
    (case y_h4_TooLarge => k_is)
    (case y_h7_TooLarge => k_is)
    (case y_h5_TooLarge => k_is)
    (case y_h6_TooLarge => k_is)
    (case y_pg_Level => k_is)
    (case y_hd_Level => k_is)
    (case y_po_Level => k_is)
    (case y_sa_Level => k_is)
    (case y_mk_Level => k_is)
    (case y_kc_Level => k_is)
    (case y_nf_Level_opener => k_is)
    (case y_nf_Level_naming => k_is)
    (case y_nf_Level_names => k_is)
    (case y_nf_Level_parts => k_is)
    (case y_nf_Level_nodes => k_is)
    (case y_pg_Reader => k_is)
    (case y_hd_Reader => k_is)
    (case y_po_Reader => k_is)
    (case y_sa_Reader => k_is)
    (case y_mk_Reader => k_is)
    (case y_kc_Reader => k_is)
    (case y_nf_Reader_numbers => k_is)
    (case y_nf_Reader_bound => k_is)
    (case y_nf_Reader_depth => k_is)
    (case y_nf_Reader_levels => k_is)
    (case y_nf_Reader_naming => k_is)
