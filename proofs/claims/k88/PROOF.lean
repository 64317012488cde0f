import PyProof.Rows.All
import Wide.All
import OpenK.AllK
import Wide.FinOn
import HandS.ForMost
import HandS.IsInst
import HandS.Style
import HandS.Walk
import HandS.TupMul
import HandS.TupAny
import HandS.Evl
import HandS.Strs
import HandS.SortInts
import PyProof.P3Eq
import HandS.ForExc
import HandS.ExcIs
import HandS.FStr
import HandS.RaiseMore
import KE.GoesMore
import KE.GoesEnum
import HandS.Rev
import HandS.Comp
import HandS.HotCalls
import HandS.ExcCtx
import HandS.SuiteRaise
import HandS.WordsExc
import HandS.TryMany
import HandS.RaiseFrom
import HandS.Dict
import HandS.More
import HandS.Iter
import HandS.CallLocal
import HandS.Deep
import PyProof.StrOps2
import PySem.Challenge.RW_lydite_k88_whole_there_and_back
set_option Elab.async false
set_option linter.all false
set_option maxRecDepth 100000
/-! Ly: one rule a reading, and three small searchers (heap, apartness, frame). -/
namespace Ly
open PySem PySem.Spec PyProof.Rows L2 Evl

section
variable {K : PySem.W.Frag} {σ : L2.St} {H H' H0 : Hp} {Q : VK} {D : Ends} {ta tb tc te to : TE} {tA : TA} {t u : TT} {s1 s2 : TS} {g : TG}
theorem w_var {i : Nat} {v : V} (h : σ[i]? = some (some v)) (q : Q v H) : tVar i σ H Q := ⟨v, h, q⟩
theorem w_c {v : V} (q : Q v H) : tC v σ H Q := q
theorem w_op {r : R2} (h : ta σ H fun x H1 => tb σ H1 fun y H2 => r x y H2 Q) : tOp r ta tb σ H Q := h
theorem w_un {r : V → Hp → VK → Prop} (h : ta σ H fun x H1 => r x H1 Q) : tUn r ta σ H Q := h
theorem w_I0 {f : Int → Int → V} {i j : Int} (q : Q (f i j) H) : rI0 f (.int i) (.int j) H Q := ⟨i, j, rfl, rfl, q⟩
theorem w_I {C : Int → Int → Prop} {f : Int → Int → V} {i j : Int} (c : C i j) (q : Q (f i j) H) : rI C f (.int i) (.int j) H Q := ⟨i, j, rfl, rfl, c, q⟩
theorem w_U {f : Int → V} {i : Int} (q : Q (f i) H) : rU f (.int i) H Q := ⟨i, rfl, q⟩
theorem w_eq {x y : V} (s : scal x y = true) (q : Q (.bl (decide (x = y))) H) : rEq x y H Q := ⟨s, q⟩
theorem w_ne {x y : V} (s : scal x y = true) (q : Q (.bl (!decide (x = y))) H) : rNe x y H Q := ⟨s, q⟩
theorem w_isB {a b : Bool} (q : Q (.bl (decide (a = b))) H) : rIsB (.bl a) (.bl b) H Q := ⟨a, b, rfl, rfl, q⟩
theorem w_notB {a b : Bool} (q : Q (.bl (!decide (a = b))) H) : rNotB (.bl a) (.bl b) H Q := ⟨a, b, rfl, rfl, q⟩
theorem w_nil {R : List V → Hp → Prop} (q : R [] H) : tNil σ H R := q
theorem w_cons {R : List V → Hp → Prop} {tr : TA} (h : ta σ H fun x H1 => tr σ H1 fun xs H2 => R (x :: xs) H2) : tCons ta tr σ H R := h
theorem w_tup (h : tA σ H fun xs H1 => xs.length ≤ sizeLine ∧ ∀ p, H1 p = none → Q (.ref p) (upd H1 p (.tup xs))) : tTup tA σ H Q := h
theorem w_lst (h : tA σ H fun xs H1 => xs.length ≤ sizeLine ∧ ∀ p, H1 p = none → Q (.ref p) (upd H1 p (.lst xs))) : tLst tA σ H Q := h
theorem w_cb {r : List V → Hp → VK → Prop} (h : tA σ H fun vs H1 => r vs H1 Q) : tCB r tA σ H Q := h
theorem w_call {sp : Sp} {dvs : List V} {E : XK} (h : tA σ H fun vs H1 => sp (vs ++ dvs) H1 Q E) : tCall sp dvs E tA σ H Q := h
theorem w_isi {x : V} {n : String} {t : Value} {b : Bool} (h : TyX K H x t) (k : PySem.W.kitOne K t (.type n) = some b) (q : Q (.bl b) H) : rIsi K [x, .ty n] H Q :=
  ⟨x, .ty n, t, .type n, b, rfl, .ty n, h, k, q⟩
theorem w_bm {T : String} {r : V → List V → Hp → VK → Prop} (h : to σ H fun x H1 => tyV K T x H1 ∧ tA σ H1 fun xs H2 => r x xs H2 Q) : tBM K T r to tA σ H Q := h
theorem w_bm0 {T : String} {r : V → List V → Hp → VK → Prop} (h : to σ H fun x H1 => tyV K T x H1 ∧ r x [] H1 Q) : tBM0 K T r to σ H Q := h
theorem w_app {l : Addr} {xs : List V} {y : V} (h : H l = some (.lst xs)) (z : xs.length < sizeLine) (q : Q .non (upd H l (.lst (xs ++ [y])))) : rAppend (.ref l) [y] H Q := ⟨l, xs, y, rfl, rfl, h, z, q⟩
theorem w_pop {l : Addr} {xs : List V} {y : V} (h : H l = some (.lst xs)) (z : xs[xs.length - 1]? = some y) (q : Q y (upd H l (.lst xs.dropLast))) : rPop (.ref l) [] H Q := ⟨l, xs, y, rfl, rfl, h, z, q⟩
theorem w_popA {l : Addr} {xs : List V} {y : V} (h : H l = some (.lst (xs ++ [y]))) (q : Q y (upd H l (.lst xs))) : rPop (.ref l) [] H Q :=
  ⟨l, xs ++ [y], y, rfl, rfl, h, by simp, by rw [List.dropLast_concat]; exact q⟩
theorem w_sadd {w : World} {a : Addr} {k : Int} {S : Int → Bool} {n : Nat} (h : H a = some (SetO w a S n)) (r : n + 1 < 4096) (q : Q .non (upd H a (SetO w a (fun j => S j || decide (j = k)) (if S k = true then n else n + 1)))) : rSAdd w (.ref a) [.int k] H Q := ⟨a, k, S, n, rfl, rfl, h, r, q⟩
theorem w_tsadd {w : World} (h : ta σ H fun x H1 => (∃ a S n, x = V.ref a ∧ H1 a = some (SetO w a S n)) ∧ tA σ H1 fun xs H2 => rSAdd w x xs H2 Q) : tSAdd w ta tA σ H Q := h
theorem w_tsadd1 {w : World} {a : Addr} {S : Int → Bool} {n : Nat} {B : Prop} (h : H a = some (SetO w a S n)) (q : B) : (∃ b S' n', V.ref a = V.ref b ∧ H b = some (SetO w b S' n')) ∧ B := ⟨⟨a, S, n, rfl, h⟩, q⟩
theorem w_ext {l b : Addr} {xs zs : List V} (h : H l = some (.lst xs)) (h2 : H b = some (.lst zs)) (z : xs.length + zs.length ≤ sizeLine) (q : Q .non (upd H l (.lst (xs ++ zs)))) : rExtend (.ref l) [.ref b] H Q := ⟨l, b, xs, zs, rfl, rfl, h, h2, z, q⟩
theorem w_ixL {p : Addr} {xs : List V} {i : Int} {v : V} (h : SqL K H p xs) (a : atI xs i = some v) (q : Q v H) : rIxL K (.ref p) (.int i) H Q := ⟨p, xs, i, v, rfl, rfl, h, a, q⟩
theorem w_ixT {p : Addr} {xs : List V} {i : Int} {v : V} (h : SqT K H p xs) (a : atI xs i = some v) (q : Q v H) : rIxT K (.ref p) (.int i) H Q := ⟨p, xs, i, v, rfl, rfl, h, a, q⟩
theorem w_cat {a b : Addr} {xs ys : List V} (h : H a = some (.lst xs)) (h2 : H b = some (.lst ys)) (z : xs.length + ys.length ≤ sizeLine) (q : ∀ p, H p = none → Q (.ref p) (upd H p (.lst (xs ++ ys)))) : rCat (.ref a) (.ref b) H Q := ⟨a, b, xs, ys, rfl, rfl, h, h2, z, q⟩
theorem w_test {R : Bool → Hp → Prop} (h : te σ H fun x H1 => ∃ k, x = .bl k ∧ R k H1) : tTest te σ H R := h
theorem w_tB {R : Bool → Hp → Prop} (h : te σ H fun x H1 => ∃ k, x = .bl k ∧ R k H1) : tB te σ H R := h
theorem w_bl {A : Bool → Prop} {k : Bool} (h : A k) : ∃ c, V.bl k = .bl c ∧ A c := ⟨k, rfl, h⟩
theorem w_and {R : Bool → Hp → Prop} (h : t σ H fun c H1 => if c = true then u σ H1 R else R false H1) : tAnd t u σ H R := h
theorem w_or {R : Bool → Hp → Prop} (h : t σ H fun c H1 => if c = true then R true H1 else u σ H1 R) : tOr t u σ H R := h
theorem w_not {R : Bool → Hp → Prop} (h : t σ H fun c H1 => R (!c) H1) : tNot t σ H R := h
theorem w_andV (h : ta σ H fun x H1 => ∃ c, x = .bl c ∧ if c = true then tb σ H1 Q else Q (.bl false) H1) : tAndV ta tb σ H Q := h
theorem w_orV (h : ta σ H fun x H1 => ∃ c, x = .bl c ∧ if c = true then Q (.bl true) H1 else tb σ H1 Q) : tOrV ta tb σ H Q := h
theorem w_notV (h : ta σ H fun x H1 => ∃ c, x = .bl c ∧ Q (.bl (!c)) H1) : tNotV ta σ H Q := h
theorem w_ifE (h : t σ H fun c H1 => if c = true then ta σ H1 Q else tb σ H1 Q) : tIf t ta tb σ H Q := h
theorem w_ch {r r' : R2} (h : ta σ H fun x H1 => tb σ H1 fun y H2 => r x y H2 fun z H3 => ∃ k, z = .bl k ∧ (if k = true then tc σ H3 fun w' H4 => r' y w' H4 Q else Q (.bl false) H3)) : tChain r r' ta tb tc σ H Q := h
-- statements
theorem sl_of {t : TS} {D : Ends} {σ σ2 : L2.St} {H : Hp} (e : σ = σ2) (h : t D σ2 H) : t D σ H := by
  rw [e]
  exact h
theorem w_seq (h : s1 { D with nx := s2 D } σ H) : tSeq s1 s2 D σ H := h
theorem w_cut {M : L2.St → Hp → Prop} (h : s1 { D with nx := M } σ H) (q : ∀ σ' H', M σ' H' → s2 D σ' H') : tCut s1 s2 D σ H := ⟨M, h, q⟩
theorem w_while (W : Nat → L2.St → Hp → Prop) (m0 : Nat) (h0 : W m0 σ H) (hs : ∀ m σ H, W m σ H → t σ H fun b H1 => if b = true then ∃ N : L2.St → Hp → Prop, (∀ σ' H', N σ' H' → ∃ m', m' < m ∧ W m' σ' H') ∧ s1 { D with nx := N, ct := N, bk := D.nx } σ H1 else D.nx σ H1) : tWhile t s1 D σ H := ⟨W, ⟨m0, h0⟩, hs⟩
theorem w_truL {l : Addr} {xs : List V} {A : Bool → Prop} (h : SqL K H l xs) (q : A (!xs.isEmpty)) : ∃ k, TruV K (.ref l) H k ∧ A k := ⟨_, .inl ⟨xs, h, rfl⟩, q⟩
theorem w_next (h : D.nx σ H) : tNext D σ H := h
theorem w_drop (h : te σ H fun _ H1 => D.nx σ H1) : tDrop te D σ H := h
theorem w_ret (h : te σ H D.rt) : tRet te D σ H := h
theorem w_asg (h : te σ H fun x H1 => g x σ H1 D.nx) : tAsg te g D σ H := h
theorem w_if (h : t σ H fun b H1 => if b = true then s1 D σ H1 else s2 D σ H1) : tIfS t s1 s2 D σ H := h
theorem w_name {v : V} {i : Nat} {R : L2.St → Hp → Prop} (h : R (σ.set i (some v)) H) : gName i v σ H R := h
theorem w_sub {v : V} {st : TSet} {R : L2.St → Hp → Prop} (h : ta σ H fun o H1 => tb σ H1 fun i H2 => st o i v H2 fun H3 => R σ H3) : gSub ta tb st v σ H R := h
theorem w_setL {R : Hp → Prop} {p : Addr} {xs : List V} {k : Int} {j : Nat} {v : V} (h : H p = some (.lst xs)) (a : ixN xs.length k = some j) (q : R (upd H p (.lst (xs.set j v)))) : rSetL (.ref p) (.int k) v H R := ⟨p, xs, k, j, rfl, rfl, h, a, q⟩
theorem w_aug {i : Nat} {x : V} {ti : TIp} (h : σ[i]? = some (some x)) (q : te σ H fun y H1 => ti x y H1 fun z H2 => D.nx (σ.set i (some z)) H2) : tAug i te ti D σ H := ⟨x, h, q⟩
theorem w_ipI {f : Int → Int → Int} {i j : Int} (q : Q (.int (f i j)) H) : ipI f (.int i) (.int j) H Q := ⟨i, j, rfl, rfl, q⟩
end

/-! ### what a for walks -/
def ForB (J : It) (g : TG) (tb : TS) (D : Ends) (σ : L2.St) (H1 : Hp) : Prop := ∃ W : Nat → Nat → L2.St → Hp → Prop, (∃ m, W 0 m σ H1) ∧ ∀ i m σ H, W i m σ H →
  (J.stop i H ∧ D.nx σ H) ∨ (J.go i H ∧ ∃ N : L2.St → Hp → Prop, (∀ σ' H', N σ' H' → ∃ m', m' < m ∧ W (i + 1) m' σ' H') ∧ ∀ x H', J.yld i H x H' → g x σ H' fun σ2 H2 => tb { D with nx := N, ct := N, bk := D.nx } σ2 H2)
def LcB (J : It) (g : TG) (tt : TT) (te : TE) (vs : List Nat) (Q : VK) (σ : L2.St) (H1 : Hp) (Dl : Addr) : Prop := ∃ W : Nat → Nat → Hp → Prop, (∃ m, W 0 m (upd H1 Dl (.lst []))) ∧ ∀ i m H, W i m H →
  (J.stop i H ∧ Q (.ref Dl) H) ∨ (J.go i H ∧ ∃ Nx : Hp → Prop, (∀ H', Nx H' → ∃ m', m' < m ∧ W (i + 1) m' H') ∧ ∀ x H', J.yld i H x H' → g x (wipe σ vs) H' fun σ2 H2 => wipe σ2 vs = wipe σ vs ∧ tt σ2 H2 fun b H3 =>
    if b = true then te σ2 H3 fun y H4 => ∃ acc, H4 Dl = some (.lst acc) ∧ acc.length < sizeLine ∧ Nx (upd H4 Dl (.lst (acc ++ [y]))) else Nx H3)
section
variable {K : PySem.W.Frag} {σ : L2.St} {H : Hp} {D : Ends} {ta tb : TE} {tA : TA} {g : TG} {s1 : TS} {wi : TI} {R : It → Hp → Prop}
theorem w_for (h : wi σ H fun J H1 => ForB J g s1 D σ H1) : tFor wi g s1 D σ H := h
theorem w_iL (h : ta σ H fun x H1 => ∃ a, x = .ref a ∧ (∃ xs, SqL K H1 a xs) ∧ R (Itl K a) H1) : iList K ta σ H R := h
theorem w_iL1 {a : Addr} {xs : List V} {B : Addr → Prop} (h : SqL K H a xs) (q : B a) : ∃ b, V.ref a = .ref b ∧ (∃ ys, SqL K H b ys) ∧ B b := ⟨a, rfl, ⟨xs, h⟩, q⟩
theorem w_iT (h : ta σ H fun x H1 => ∃ a, x = .ref a ∧ (∃ xs, SqT K H1 a xs) ∧ R (Itt K a) H1) : iTup K ta σ H R := h
theorem w_iT1 {a : Addr} {xs : List V} {B : Addr → Prop} (h : SqT K H a xs) (q : B a) : ∃ b, V.ref a = .ref b ∧ (∃ ys, SqT K H b ys) ∧ B b := ⟨a, rfl, ⟨xs, h⟩, q⟩
theorem w_iR (h : tA σ H fun vs H1 => ∃ j : Int, vs = [.int j] ∧ -(2 ^ 62) ≤ j ∧ j < 2 ^ 62 ∧ R (Itr 0 j.toNat) H1) : iRng1 tA σ H R := h
theorem w_iR1 {j : Int} {B : Int → Prop} (h1 : -(2 ^ 62) ≤ j) (h2 : j < 2 ^ 62) (q : B j) : ∃ k, [V.int j] = [V.int k] ∧ -(2 ^ 62) ≤ k ∧ k < 2 ^ 62 ∧ B k := ⟨j, rfl, h1, h2, q⟩
theorem w_yes {R : Bool → Hp → Prop} (h : R true H) : tYes σ H R := h
theorem w_wipe {σ2 : L2.St} {vs : List Nat} {B : Prop} (e : wipe σ2 vs = wipe σ vs) (q : B) : wipe σ2 vs = wipe σ vs ∧ B := ⟨e, q⟩
theorem w_lc {tt : TT} {te : TE} {vs : List Nat} {Q : VK} (h : wi σ H fun J H1 => ∀ Dl, H1 Dl = none → LcB J g tt te vs Q σ H1 Dl) : tLc wi g tt te vs σ H Q := h
end

/-! ### frames: all that H knows, but the object at s -/
def Fr (s : Addr) (H H' : Hp) : Prop := ∀ a o, a ≠ s → H a = some o → H' a = some o
section
variable {K : PySem.W.Frag} {H H' H0 H1 H2 : Hp} {a p s : Addr} {o : HO} {xs ys : List V}
theorem Fr.refl (s : Addr) (H : Hp) : Fr s H H := fun _ _ _ h => h
theorem Fr.ex (e : Ex H H') : Fr s H H' := fun a o _ h => e a o h
theorem Fr.trans (a : Fr s H H1) (b : Fr s H1 H2) : Fr s H H2 := fun x o n h => b x o n (a x o n h)
theorem Fr.new (e : Fr s H H') (h : H' p = none) : Fr s H (upd H' p o) := fun x u n ha => by
  have q := e x u n ha
  rw [upd_ne (ne_of_none q h)]
  exact q
theorem Fr.mut (e : Fr s H H') (h : H p = none) : Fr s H (upd H' p o) := fun x u n ha => by
  rw [upd_ne (ne_of_none ha h)]
  exact e x u n ha
theorem Fr.own (e : Fr s H H') : Fr s H (upd H' s o) := fun x u n ha => by
  rw [upd_ne n]
  exact e x u n ha
theorem Fr.free (e : Fr s H H') (hs : H s = some o) (h : H' p = none) (h2 : p ≠ s) : H p = none := by
  cases q : H p with
  | none => rfl
  | some u =>
    rw [e p u h2 q] at h
    cases h
theorem fr_t (e : Fr s H H') (hs : H s = some (.lst ys)) (h : SqT K H a xs) : SqT K H' a xs := by
  rcases h with (h | ⟨ob, h⟩) | h
  · exact .inl (.inl (e a _ (fun z => by rw [z, hs] at h; cases h) h))
  · exact .inl (.inr ⟨ob, e a _ (fun z => by rw [z, hs] at h; cases h) h⟩)
  · exact .inr h
theorem ex_upd (e : Ex H H') (h : H p = none) : Ex H (upd H' p o) := e.mut h
theorem ex_new (e : Ex H H') (h : H' p = none) : Ex H (upd H' p o) := e.trans (Ex.new h)
theorem ly_at (e : Ex H H') (h : H a = some o) : H' a = some o := e a o h
theorem ly_atF (e : Fr s H H') (n : a ≠ s) (h : H a = some o) : H' a = some o := e a o n h
theorem ly_mulL {i j : Int} (h1 : -(2 ^ 64) < i) (h2 : i < 2 ^ 64) : CMul i j := .inl ⟨h1, h2⟩
theorem ly_mulR {i j : Int} (h1 : -(2 ^ 64) < j) (h2 : j < 2 ^ 64) : CMul i j := .inr ⟨h1, h2⟩
end
/-! ### built-in calls -/
section
variable {K : PySem.W.Frag} {H : Hp} {Q : VK} {p : Addr} {xs : List V}
theorem w_int {i : Int} {A : Int → Prop} {B : Prop} (q : A i) : (∃ j, [V.int i] = [V.int j] ∧ A j) ∨ B := .inl ⟨i, rfl, q⟩
theorem w_intB {k : Bool} {A : Prop} {B : Bool → Prop} (q : B k) : A ∨ ∃ c, [V.bl k] = [V.bl c] ∧ B c := .inr ⟨k, rfl, q⟩
theorem w_abs {i : Int} {A : Int → Prop} (q : A i) : ∃ j, [V.int i] = [V.int j] ∧ A j := ⟨i, rfl, q⟩
theorem w_lenL {A : Addr → List V → Prop} (h : SqL K H p xs) (q : A p xs) : ∃ a ys, [V.ref p] = [V.ref a] ∧ (SqL K H a ys ∨ SqT K H a ys) ∧ A a ys := ⟨p, xs, rfl, .inl h, q⟩
theorem w_lenT {A : Addr → List V → Prop} (h : SqT K H p xs) (q : A p xs) : ∃ a ys, [V.ref p] = [V.ref a] ∧ (SqL K H a ys ∨ SqT K H a ys) ∧ A a ys := ⟨p, xs, rfl, .inr h, q⟩
theorem w_tupL {A B : Addr → List V → Prop} (h : SqL K H p xs) (q : A p xs) : ∃ a ys, [V.ref p] = [V.ref a] ∧ ((SqL K H a ys ∧ A a ys) ∨ (SqT K H a ys ∧ B a ys)) := ⟨p, xs, rfl, .inl ⟨h, q⟩⟩
theorem w_tupT {A B : Addr → List V → Prop} (h : SqT K H p xs) (q : B p xs) : ∃ a ys, [V.ref p] = [V.ref a] ∧ ((SqL K H a ys ∧ A a ys) ∨ (SqT K H a ys ∧ B a ys)) := ⟨p, xs, rfl, .inr ⟨h, q⟩⟩
theorem w_nT {A B : Prop} (h : B) : if (!true) = true then A else B := iteF h
theorem w_nF {A B : Prop} (h : A) : if (!false) = true then A else B := iteT h
theorem w_br {c A B : Prop} [Decidable c] (h1 : c → A) (h2 : ¬ c → B) : if decide c = true then A else B := ite2 (fun h => h1 (of_decide_eq_true h)) (fun h => h2 (fun z => h (decide_eq_true z)))
theorem w_deIS {i : Int} {x : Str} {A B : Prop} (h : B) : if decide (V.int i = V.str x) = true then A else B := iteF h
theorem w_deSI {i : Int} {x : Str} {A B : Prop} (h : B) : if decide (V.str x = V.int i) = true then A else B := iteF h
theorem w_deST {x y : Str} {A B : Prop} (e : x = y) (h : A) : if decide (V.str x = V.str y) = true then A else B := by
  rw [decide_eq_true (by rw [e])]
  exact iteT h
theorem w_deSF {x y : Str} {A B : Prop} (e : x ≠ y) (h : B) : if decide (V.str x = V.str y) = true then A else B := by
  rw [decide_eq_false (fun z => e (V.str.inj z))]
  exact iteF h
theorem w_deISn {i : Int} {x : Str} {A B : Prop} (h : A) : if (!decide (V.int i = V.str x)) = true then A else B := iteT h
theorem w_deSTn {x y : Str} {A B : Prop} (e : x = y) (h : B) : if (!decide (V.str x = V.str y)) = true then A else B := by
  rw [decide_eq_true (by rw [e])]
  exact iteF h
theorem w_deSFn {x y : Str} {A B : Prop} (e : x ≠ y) (h : A) : if (!decide (V.str x = V.str y)) = true then A else B := by
  rw [decide_eq_false (fun z => e (V.str.inj z))]
  exact iteT h
theorem w_neS {x : V} {A B : Prop} (h : B) : if (!decide (x = x)) = true then A else B := by
  rw [decide_eq_true rfl]
  exact iteF h
theorem w_eqS {x : V} {A B : Prop} (h : A) : if decide (x = x) = true then A else B := by
  rw [decide_eq_true rfl]
  exact iteT h
theorem w_neSb {x : Bool} {A B : Prop} (h : B) : if (!decide (x = x)) = true then A else B := by
  rw [decide_eq_true rfl]
  exact iteF h
theorem w_eqSb {x : Bool} {A B : Prop} (h : A) : if decide (x = x) = true then A else B := by
  rw [decide_eq_true rfl]
  exact iteT h
theorem w_neG {α : Type} {x : α} [Decidable (x = x)] {A B : Prop} (h : B) : if (!decide (x = x)) = true then A else B := by
  rw [decide_eq_true rfl]
  exact iteF h
theorem w_eqG {α : Type} {x : α} [Decidable (x = x)] {A B : Prop} (h : A) : if decide (x = x) = true then A else B := by
  rw [decide_eq_true rfl]
  exact iteT h
theorem w_nn {B : Prop} (q : B) : V.non = V.non ∧ B := ⟨rfl, q⟩
theorem w_nnT {A B : Prop} (h : B) : if (!decide (V.non = V.non)) = true then A else B := iteF h
theorem w_nnR {a : Addr} {A B : Prop} (h : A) : if (!decide (V.ref a = V.non)) = true then A else B := iteT h
theorem w_brI {i j : Int} {A B : Prop} (h1 : i = j → A) (h2 : i ≠ j → B) : if decide (V.int i = V.int j) = true then A else B := w_br (fun h => h1 (V.int.inj h)) (fun h => h2 (fun z => h (by rw [z])))
theorem w_brS {i j : Str} {A B : Prop} (h1 : i = j → A) (h2 : i ≠ j → B) : if decide (V.str i = V.str j) = true then A else B := w_br (fun h => h1 (V.str.inj h)) (fun h => h2 (fun z => h (by rw [z])))
theorem w_brIn {i j : Int} {A B : Prop} (h1 : i ≠ j → A) (h2 : i = j → B) : if (!decide (V.int i = V.int j)) = true then A else B := by
  by_cases e : i = j
  · rw [e, decide_eq_true rfl]
    exact iteF (h2 e)
  · rw [decide_eq_false (fun z => e (V.int.inj z))]
    exact iteT (h1 e)
theorem w_brSn {i j : Str} {A B : Prop} (h1 : i ≠ j → A) (h2 : i = j → B) : if (!decide (V.str i = V.str j)) = true then A else B := by
  by_cases e : i = j
  · rw [e, decide_eq_true rfl]
    exact iteF (h2 e)
  · rw [decide_eq_false (fun z => e (V.str.inj z))]
    exact iteT (h1 e)
theorem w_disp {R : Addr → Prop} (z : xs.length ≤ sizeLine) (q : ∀ p, H p = none → R p) : xs.length ≤ sizeLine ∧ ∀ p, H p = none → R p := ⟨z, q⟩
theorem w_tyL {R : Prop} (h : SqL K H p xs) (q : R) : tyV K "list" (.ref p) H ∧ R := ⟨.inl ⟨rfl, xs, h⟩, q⟩
end
/-! ### errors -/
theorem kcls_mk {K : PySem.W.Frag} {t : Value} {C : Addr} {r : Bool} (d : PySem.W.hasDictIn K C = true) (ty : PySem.W.typeIn K (.ref C) = some (.type "type")) (s : PySem.W.subIn K t (.ref C) = some r) : PySem.W.kitCls K t (.ref C) = some r := by
  have h : ((PySem.W.clsIn K C).isSome && PySem.W.typeIn K (.ref C) == some (.type "type")) = true := by
    obtain ⟨cd, hc, _⟩ := PySem.W.any_some d
    rw [hc, ty]
    simp
  show (if ((PySem.W.clsIn K C).isSome && PySem.W.typeIn K (.ref C) == some (.type "type")) = true then PySem.W.subIn K t (.ref C) else none) = some r
  rw [if_pos h, s]
theorem kitOne_mk {K : PySem.W.Frag} {t : Value} {C : Addr} (d : PySem.W.hasDictIn K C = true) (ty : PySem.W.typeIn K (.ref C) = some (.type "type")) (s : PySem.W.subIn K t (.ref C) = some true) : PySem.W.kitOne K t (.ref C) = some true := by
  unfold PySem.W.kitOne
  split
  · rfl
  · exact kcls_mk d ty s
theorem kitVE {K : PySem.W.Frag} {C : Addr} (s : PySem.W.subIn K (.ref C) (.type "ValueError") = some true) : PySem.W.kitOne K (.ref C) (.type "ValueError") = some true := by
  have m : PySem.W.kitMeta "ValueError" = true := by decide +kernel
  show (if (Value.ref C == Value.type "ValueError") = true then some true else if PySem.W.kitMeta "ValueError" = true then PySem.W.subIn K (.ref C) (.type "ValueError") else none) = some true
  rw [if_pos m, s]
  split <;> rfl
theorem exm_mk {K : PySem.W.Frag} {t : Value} {C : Addr} {r : Bool} (b : PySem.W.subIn K (.ref C) (.type "BaseException") = some true) (d : PySem.W.hasDictIn K C = true) (ty : PySem.W.typeIn K (.ref C) = some (.type "type")) (s : PySem.W.subIn K t (.ref C) = some r) : PySem.W.exmOne K t (.ref C) = some r := by
  unfold PySem.W.exmOne
  rw [b]
  simp [kcls_mk d ty s]
theorem call_isEa {X : Cx} {a : Addr} {oe : Obj} {cls : Value} {d : Option Addr} {pn : List (Addr × Obj)} (hz : Zc cls d oe) (hf : ∃ vs, oe.data = .fields vs) :
    CallR (X.suite a ((a, oe) :: pn)) (.builtin "isinstance") (fun xs H Q => ∃ D, cls = .ref D ∧ d = none ∧ ExcC X.K D ∧ rIsE X.K D a xs H Q) := by
  intro pins s σ H xs us Q I r ⟨D, e1, e2, C, h⟩
  subst e1 e2
  exact call_isE C hz hf pins s σ H xs us Q I r h
section
variable {K : PySem.W.Frag} {σ : L2.St} {H : Hp} {Q : VK} {te : TE} {tA : TA}
theorem w_js {ts : List TE} {acc : Str} {R : Str → Hp → Prop} (h : te σ H fun x H1 => ∃ y : Str, x = .str y ∧ (acc ++ y).length ≤ sizeLine ∧ tJs ts (acc ++ y) σ H1 R) : tJs (te :: ts) acc σ H R := h
theorem w_jsn {acc : Str} {R : Str → Hp → Prop} (h : R acc H) : tJs [] acc σ H R := h
theorem w_js1 {z acc : Str} {A : Str → Prop} (hl : (acc ++ z).length ≤ sizeLine) (q : A z) : ∃ y : Str, V.str z = .str y ∧ (acc ++ y).length ≤ sizeLine ∧ A y := ⟨z, rfl, hl, q⟩
theorem w_fmt (h : te σ H fun x H1 => (∃ y : Str, x = .str y ∧ y.length ≤ sizeLine ∧ Q (.str y) H1) ∨ ∃ i : Int, x = .int i ∧ i.natAbs.log2 < 1920 ∧ Q (.str (toString i)) H1) : tFmt te σ H Q := h
theorem w_fmt1 {i : Int} {A : Prop} {B : Int → Prop} (hl : i.natAbs.log2 < 1920) (q : B i) : A ∨ ∃ j : Int, V.int i = .int j ∧ j.natAbs.log2 < 1920 ∧ B j := .inr ⟨i, rfl, hl, q⟩
theorem w_callS {sp : Sp} {E : L2.St → XK} (h : tA σ H fun vs H1 => sp vs H1 Q (E σ)) : tCallS sp E tA σ H Q := h
end
/-! ### tuples that come: some tuple of these items -/
section
variable {K : PySem.W.Frag} {H H' : Hp} {Q : VK} {a b p : Addr} {xs ys : List V}
theorem w_catA (h : SqT K H a xs) (h2 : SqT K H b ys) (z : xs.length + ys.length ≤ sizeLine) (q : ∀ p H', Ex H H' → SqT K H' p (xs ++ ys) → Q (.ref p) H') : rCatA K (.ref a) (.ref b) H Q :=
  ⟨a, b, xs, ys, rfl, rfl, h, h2, z, fun e => q b H (Ex.refl H) (by rw [e]; exact h2), fun _ e => q a H (Ex.refl H) (by rw [e, List.append_nil]; exact h), fun _ _ p hp => q p _ (Ex.new hp) (SqT.of upd_same)⟩
theorem w_slA {lo hi : Option Int} (h : SqT K H a xs) (q : ∀ p H', Ex H H' → SqT K H' p (cutV xs lo hi) → Q (.ref p) H') : rSlA K (.ref a) lo hi H Q := by
  refine ⟨a, xs, rfl, h, fun e => q a H (Ex.refl H) ?_, fun _ p hp => q p _ (Ex.new hp) (SqT.of upd_same)⟩
  unfold cutV
  rw [e.1, e.2]
  simpa using h
theorem tyx_t (h : SqT K H a xs) : TyX K H (.ref a) (.type "tuple") := by
  rcases h with (h | ⟨o, h⟩) | ⟨o, _, _, h, c, _⟩
  · exact .base (.tup h)
  · exact .fTuple h
  · exact .kTuple h c
theorem tyx_l (h : SqL K H a xs) : TyX K H (.ref a) (.type "list") := by
  rcases h with (h | ⟨o, h⟩) | ⟨o, _, _, h, c, _⟩
  · exact .base (.lst h)
  · exact .base (.frz h)
  · exact .kList h c
end
/-! ### tuple * int -/
set_option maxHeartbeats 4000000 in
theorem mul_one_meets (l : Addr) (items : Array Value) (n : Nat) (di : Option Addr) (ss : Array (Option Value)) (u : Tok) :
    Meets (Builtin.«tuple.__mul__» ⟨[.ref l, .int 1 u], []⟩) (fun _ R s => s.heap.get? l = some { cls := .type "tuple", dict := di, data := .seq items n, slots := ss } ∧ R (.ok (.ret (Value.ref l))) s) :=
  .of_wp fun prog w A R s ⟨hl, h⟩ => by
    obtain ⟨hp, g, d, tk, os⟩ := s
    have idx := AutoSeq1.idx_int
    have c1 : (items.isEmpty || (1 : Int) == 1) = true := by simp
    have c0 : (decide ((1 : Int) < -(2 ^ 63)) || decide ((1 : Int) ≥ 2 ^ 63)) = false := by decide
    wp_walk using wpAny_loadPart' hl
    repeat (first
      | (refine wpAny_ite_false (decide_eq_false (fun z => by rw [c0] at z; cases z)) ?_; wp_walk using wpAny_loadPart' hl)
      | (refine wpAny_ite_true (decide_eq_true (by simp)) ?_; wp_walk using wpAny_loadPart' hl))
    exact ⟨_, rfl, h⟩
set_option maxHeartbeats 4000000 in
theorem mul_zero_meets (l : Addr) (items : Array Value) (n : Nat) (di : Option Addr) (ss : Array (Option Value)) (u : Tok) (em : items.isEmpty = false) :
    Meets (Builtin.«tuple.__mul__» ⟨[.ref l, .int 0 u], []⟩) (fun _ R s => s.heap.get? l = some { cls := .type "tuple", dict := di, data := .seq items n, slots := ss } ∧
      R (.ok (.ret (Value.ref s.heap.objs.size))) { s with heap := s.heap.push { cls := Value.type "tuple", data := Data.seq #[] }, toks := s.toks }) :=
  .of_wp fun prog w A R s ⟨hl, h⟩ => by
    obtain ⟨hp, g, d, tk, os⟩ := s
    have idx := AutoSeq1.idx_int
    have c1 : (items.isEmpty || (0 : Int) == 1) = false := by rw [em]; rfl
    have c2 : (decide ((0 : Int) ≤ 0) || items.isEmpty) = true := by simp
    have c0 : (decide ((0 : Int) < -(2 ^ 63)) || decide ((0 : Int) ≥ 2 ^ 63)) = false := by decide
    wp_walk using wpAny_loadPart' hl
    repeat (first
      | (refine wpAny_ite_false (decide_eq_false (fun z => by rw [c0] at z; cases z)) ?_; wp_walk using wpAny_loadPart' hl)
      | (refine wpAny_ite_false (decide_eq_false (fun z => by rw [c1] at z; cases z)) ?_; wp_walk using wpAny_loadPart' hl)
      | (refine wpAny_ite_true (decide_eq_true c2) ?_; wp_walk using wpAny_loadPart' hl))
    exact ⟨_, rfl, h⟩
def rRepB (K : PySem.W.Frag) : R2 := fun x y H Q => ∃ (l : Addr) (k : Int) (xs : List V), x = .ref l ∧ y = .int k ∧ SqT K H l xs ∧ xs ≠ [] ∧ 0 ≤ k ∧ k ≤ 3000 ∧ xs.length ≤ 1000 ∧ (k = 1 → Q (.ref l) H) ∧ (k ≠ 1 → ∀ p, H p = none → Q (.ref p) (upd H p (.tup (List.replicate k.toNat xs).flatten)))
theorem op_repB {X : Cx} : OpR X (binaryOp .Mult) (rRepB X.K) := by
  intro pins s σ H x y v u Q I rx ry ⟨l, k, xs, ex, ey, hT, hne, k0, k3, hz, q1, q⟩
  subst ex ey
  cases rx
  obtain ⟨tt, eu⟩ := ry
  subst eu
  obtain ⟨its, r, ⟨⟨cl, di, da, ss⟩, hob, hcl, n, hda⟩, _⟩ := I.tuple hT
  simp only at hcl hda
  subst hcl hda
  have el : its.length = xs.length := r.length.symm
  have es : its.toArray.size = xs.length := by rw [List.size_toArray, el]
  have pos : 0 < xs.length := List.length_pos_iff.mpr hne
  have em : its.toArray.isEmpty = false := by
    rw [Array.isEmpty_eq_false_iff_exists_mem]
    obtain ⟨a0, ha0⟩ := List.exists_mem_of_length_pos (l := its) (by omega)
    exact ⟨a0, by simpa using ha0⟩
  have big : k.toNat * xs.length ≤ 3000 * 1000 := Nat.mul_le_mul (by omega) hz
  have prod : ((its.toArray.size : Nat) : Int) * k = ((k.toNat * xs.length : Nat) : Int) := by
    rw [es, Int.natCast_mul, Int.toNat_of_nonneg (by omega), Int.mul_comm]
  have fl : (List.replicate k.toNat its).flatten.length = k.toNat * xs.length := by rw [PyProof.Rows.lm_len_rep_flat, el]
  have sl := sizeLine_eq
  have d0 : (decide (k < -(2 ^ 63)) || decide (k ≥ 2 ^ 63)) = false := by simp; omega
  refine wpAny_binaryOp_repeat_ref (T := "tuple") (U := "int") (by decide) ⟨_, hob, rfl⟩ (fun z => typeIs_int z k tt) noFill_tuple_mul F.fills_int_mul F.slot_int_rmul repeat_tuple F.slot_int_index.lookup (call_meets F.slot_int_rmul (typeIs_int s k tt) F.entry_int_rmul (F.args_int_rmul_2 _ _)
    (int_rmul_tuple k tt l its.toArray n di ss) ⟨hob, rfl, ⟨_, hob, rfl⟩, ?_⟩)
  have made : ∀ (xs2 : List V) (us : List Value), Vals xs2 us → xs2.length ≤ 3000000 → (∀ p, H p = none → Q (.ref p) (upd H p (.tup xs2))) → EP X pins σ Q (.ref s.heap.objs.size) { s with heap := s.heap.push { cls := Value.type "tuple", data := Data.seq us.toArray }, toks := s.toks } := fun xs2 us rv hlen q2 =>
    ⟨.ref s.heap.objs.size, _, I.laid (t' := s.toks) (o := .tup xs2) (fun _ _ z => Heap.get?_push_of_some _ z) (Nat.le_refl _) ⟨by omega, _, rv, IsTup.new _ _⟩, rfl, q2 _ (I.hok.fresh (Nat.le_refl _))⟩
  by_cases h1 : k = 1
  · subst h1
    exact call_meets F.slot_tuple_mul ⟨_, hob, rfl⟩ F.entry_tuple_mul (F.args_tuple_mul_2 _ _) (mul_one_meets l its.toArray n di ss tt) ⟨hob, .ref l, H, I, rfl, q1 rfl⟩
  · by_cases h2 : k = 0
    · subst h2
      exact call_meets F.slot_tuple_mul ⟨_, hob, rfl⟩ F.entry_tuple_mul (F.args_tuple_mul_2 _ _) (mul_zero_meets l its.toArray n di ss tt em) ⟨hob, made [] [] .nil (by simp) (q h1)⟩
    · have d1 : (its.toArray.isEmpty || k == 1) = false := by rw [em]; simp; omega
      have d2 : (decide (k ≤ 0) || its.toArray.isEmpty) = false := by rw [em]; simp; omega
      have d4 : Builtin.Tuple.tupleTooMany (((its.toArray.size : Nat) : Int) * k) = false := by
        rw [prod]
        unfold Builtin.Tuple.tupleTooMany
        exact decide_eq_false (by omega)
      have tm : Meets _ _ := tuple_mulW l its.toArray n di ss k tt d0 d1 d2 (by rw [prod]; omega) d4 (by rw [size_rep, List.size_toArray, fl]; omega)
      refine call_meets F.slot_tuple_mul ⟨_, hob, rfl⟩ F.entry_tuple_mul (F.args_tuple_mul_2 _ _) tm ⟨hob, ?_⟩
      rw [size_rep]
      exact made _ _ (r.rep k.toNat) (by rw [PyProof.Rows.lm_len_rep_flat]; omega) (q h1)
theorem w_repB {K : PySem.W.Frag} {H : Hp} {Q : VK} {l : Addr} {k : Int} {xs : List V} (h : SqT K H l xs) (hne : xs ≠ []) (h2 : 0 ≤ k) (h3 : k ≤ 3000) (hz : xs.length ≤ 1000) (q : ∀ p H', Ex H H' → SqT K H' p (List.replicate k.toNat xs).flatten → Q (.ref p) H') : rRepB K (.ref l) (.int k) H Q := by
  refine ⟨l, k, xs, rfl, rfl, h, hne, h2, h3, hz, fun e => q l H (Ex.refl H) ?_, fun _ p hp => q p _ (Ex.new hp) (SqT.of upd_same)⟩
  subst e
  simpa using h
/-! ### the rules with the written part given -/
section
variable {X : Cx} {K : PySem.W.Frag}
theorem ix_listK (e : X.K = K) : IxR X (rIxL K) := by
  rw [← e]
  exact ix_list
theorem ix_tupK (e : X.K = K) : IxR X (rIxT K) := by
  rw [← e]
  exact ix_tup
theorem call_len_seqK (e : X.K = K) : CallR X (.builtin "len") (fun xs H Q => ∃ p ys, xs = [.ref p] ∧ (SqL K H p ys ∨ SqT K H p ys) ∧ Q (.int ys.length) H) := by
  rw [← e]
  exact call_len_seq
theorem op_catAK (e : X.K = K) : OpR X (binaryOp .Add) (rCatA K) := by
  rw [← e]
  exact op_catA
theorem op_repBK (e : X.K = K) : OpR X (binaryOp .Mult) (rRepB K) := by
  rw [← e]
  exact op_repB
theorem sl_tupAK (e : X.K = K) : SlR X (rSlA K) := by
  rw [← e]
  exact sl_tupA
end
/-! ### kinds that stay: lists stay lists, tuples stay what they are -/
def Kp (H H' : Hp) : Prop := (∀ a xs, H a = some (.lst xs) → ∃ ys, H' a = some (.lst ys)) ∧ ∀ a xs, H a = some (.tup xs) → H' a = some (.tup xs)
section
variable {K : PySem.W.Frag} {H H' H1 : Hp} {a s l : Addr} {xs ys : List V}
theorem Kp.refl (H : Hp) : Kp H H := ⟨fun _ xs h => ⟨xs, h⟩, fun _ _ h => h⟩
theorem Kp.trans (e : Kp H H1) (f : Kp H1 H') : Kp H H' := ⟨fun a xs h => by
  obtain ⟨ys, h1⟩ := e.1 a xs h
  exact f.1 a ys h1, fun a xs h => f.2 a xs (e.2 a xs h)⟩
theorem Kp.ex (e : Ex H H') : Kp H H' := ⟨fun a xs h => ⟨xs, e a _ h⟩, fun a xs h => e a _ h⟩
theorem Kp.fr (e : Fr s H H') (h : H s = some (.lst xs)) (h2 : H' s = some (.lst ys)) : Kp H H' := ⟨fun a zs q => by
  by_cases z : a = s
  · rw [z]
    exact ⟨_, h2⟩
  · exact ⟨_, e a _ z q⟩, fun a zs q => e a _ (fun z => by rw [z, h] at q; cases q) q⟩
theorem Kp.put (h : H l = some (.lst xs)) : Kp H (upd H l (.lst ys)) := ⟨fun a zs q => by
  by_cases z : a = l
  · rw [z]
    exact ⟨_, upd_same⟩
  · exact ⟨zs, by rw [upd_ne z]; exact q⟩, fun a zs q => by
  rw [upd_ne (fun z => by rw [z, h] at q; cases q)]
  exact q⟩
/-- the values of the law that asks is_term -/
inductive Kd (H : Hp) : V → Prop
  | int (i : Int) : Kd H (.int i)
  | str (x : Str) : Kd H (.str x)
  | bl (b : Bool) : Kd H (.bl b)
  | non : Kd H .non
  | lst {a : Addr} {xs : List V} (h : H a = some (.lst xs)) : Kd H (.ref a)
  | tup {a : Addr} {xs : List V} (h : H a = some (.tup xs)) : Kd H (.ref a)
theorem Kd.mono {v : V} (h : Kd H v) (e : Kp H H') : Kd H' v := by
  cases h with
  | int i => exact .int i
  | str x => exact .str x
  | bl b => exact .bl b
  | non => exact .non
  | lst h =>
    obtain ⟨ys, h⟩ := e.1 _ _ h
    exact .lst h
  | tup h => exact .tup (e.2 _ _ h)
end
theorem Kd.ty {H : Hp} {v : V} (h : Kd H v) (K : PySem.W.Frag) : ∃ n, TyX K H v (.type n) ∧ n = (match v with | .int _ => "int" | .str _ => "str" | .bl _ => "bool" | .non => "NoneType" | _ => n) := by
  cases h with
  | int i => exact ⟨_, .base (.int i), rfl⟩
  | str i => exact ⟨_, .base (.str i), rfl⟩
  | bl i => exact ⟨_, .base (.bl i), rfl⟩
  | non => exact ⟨_, .base .non, rfl⟩
  | lst h => exact ⟨_, .base (.lst h), rfl⟩
  | tup h => exact ⟨_, .base (.tup h), rfl⟩
theorem qeq {Q : VK} {H : Hp} {b c : Bool} (q : Q (.bl b) H) (e : b = c) : Q (.bl c) H := by
  rw [← e]
  exact q
theorem all_nil {H : Hp} : ∀ x ∈ ([] : List V), Kd H x := fun x h => absurd h (by simp)
theorem all_cons {H : Hp} {v : V} {xs : List V} (h : Kd H v) (t : ∀ x ∈ xs, Kd H x) : ∀ x ∈ v :: xs, Kd H x := fun x hx => by
  rcases List.mem_cons.mp hx with e | e
  · rw [e]
    exact h
  · exact t x e
theorem all_app {H : Hp} {xs ys : List V} (h : ∀ x ∈ xs, Kd H x) (t : ∀ x ∈ ys, Kd H x) : ∀ x ∈ xs ++ ys, Kd H x := fun x hx => by
  rcases List.mem_append.mp hx with e | e
  · exact h x e
  · exact t x e
theorem all_kp {H H' : Hp} {xs : List V} (h : ∀ x ∈ xs, Kd H x) (e : Kp H H') : ∀ x ∈ xs, Kd H' x := fun x hx => (h x hx).mono e
theorem at_in {xs : List V} {i : Int} (h0 : 0 ≤ i) (h1 : i < xs.length) : ∃ v, atI xs i = some v ∧ v ∈ xs := by
  have h2 : i.toNat < xs.length := by omega
  refine ⟨xs[i.toNat], at_of (j := i.toNat) (by omega) (List.getElem?_eq_getElem h2), List.getElem_mem h2⟩
/-! ### isinstance of built-in values -/
section
variable {K : PySem.W.Frag}
theorem kit_int_int : PySem.W.kitOne K (.type "int") (.type "int") = some true := kit_ty (by decide +kernel)
theorem kit_int_str : PySem.W.kitOne K (.type "int") (.type "str") = some false := kit_ty (by decide +kernel)
theorem kit_int_bool : PySem.W.kitOne K (.type "int") (.type "bool") = some false := kit_ty (by decide +kernel)
theorem kit_int_tuple : PySem.W.kitOne K (.type "int") (.type "tuple") = some false := kit_ty (by decide +kernel)
theorem kit_int_list : PySem.W.kitOne K (.type "int") (.type "list") = some false := kit_ty (by decide +kernel)
theorem kit_str_int : PySem.W.kitOne K (.type "str") (.type "int") = some false := kit_ty (by decide +kernel)
theorem kit_str_str : PySem.W.kitOne K (.type "str") (.type "str") = some true := kit_ty (by decide +kernel)
theorem kit_str_bool : PySem.W.kitOne K (.type "str") (.type "bool") = some false := kit_ty (by decide +kernel)
theorem kit_str_tuple : PySem.W.kitOne K (.type "str") (.type "tuple") = some false := kit_ty (by decide +kernel)
theorem kit_str_list : PySem.W.kitOne K (.type "str") (.type "list") = some false := kit_ty (by decide +kernel)
theorem kit_bool_int : PySem.W.kitOne K (.type "bool") (.type "int") = some true := kit_ty (by decide +kernel)
theorem kit_bool_str : PySem.W.kitOne K (.type "bool") (.type "str") = some false := kit_ty (by decide +kernel)
theorem kit_bool_bool : PySem.W.kitOne K (.type "bool") (.type "bool") = some true := kit_ty (by decide +kernel)
theorem kit_bool_tuple : PySem.W.kitOne K (.type "bool") (.type "tuple") = some false := kit_ty (by decide +kernel)
theorem kit_bool_list : PySem.W.kitOne K (.type "bool") (.type "list") = some false := kit_ty (by decide +kernel)
theorem kit_NoneType_int : PySem.W.kitOne K (.type "NoneType") (.type "int") = some false := kit_ty (by decide +kernel)
theorem kit_NoneType_str : PySem.W.kitOne K (.type "NoneType") (.type "str") = some false := kit_ty (by decide +kernel)
theorem kit_NoneType_bool : PySem.W.kitOne K (.type "NoneType") (.type "bool") = some false := kit_ty (by decide +kernel)
theorem kit_NoneType_tuple : PySem.W.kitOne K (.type "NoneType") (.type "tuple") = some false := kit_ty (by decide +kernel)
theorem kit_NoneType_list : PySem.W.kitOne K (.type "NoneType") (.type "list") = some false := kit_ty (by decide +kernel)
theorem kit_list_int : PySem.W.kitOne K (.type "list") (.type "int") = some false := kit_ty (by decide +kernel)
theorem kit_list_str : PySem.W.kitOne K (.type "list") (.type "str") = some false := kit_ty (by decide +kernel)
theorem kit_list_bool : PySem.W.kitOne K (.type "list") (.type "bool") = some false := kit_ty (by decide +kernel)
theorem kit_list_tuple : PySem.W.kitOne K (.type "list") (.type "tuple") = some false := kit_ty (by decide +kernel)
theorem kit_list_list : PySem.W.kitOne K (.type "list") (.type "list") = some true := kit_ty (by decide +kernel)
theorem kit_tuple_int : PySem.W.kitOne K (.type "tuple") (.type "int") = some false := kit_ty (by decide +kernel)
theorem kit_tuple_str : PySem.W.kitOne K (.type "tuple") (.type "str") = some false := kit_ty (by decide +kernel)
theorem kit_tuple_bool : PySem.W.kitOne K (.type "tuple") (.type "bool") = some false := kit_ty (by decide +kernel)
theorem kit_tuple_tuple : PySem.W.kitOne K (.type "tuple") (.type "tuple") = some true := kit_ty (by decide +kernel)
theorem kit_tuple_list : PySem.W.kitOne K (.type "tuple") (.type "list") = some false := kit_ty (by decide +kernel)
end
/-- a def that may be called by its name -/
def Def (P : Program) (w : World) (K : PySem.W.Frag) (mg : Str → Option Value) (base : Heap) (CX : CXT) (k : Nat) (x : Str) (ps : List Str) (sp : Sp) : Prop :=
  ∃ (f : Addr) (fd : FuncData), mg x = some (.ref f) ∧ PySem.W.keepIn K (.ref f) = true ∧ Binds K fd ps [] ∧ FnOk P w K mg base CX k f fd ps sp
theorem Def.of {P : Program} {w : World} {K : PySem.W.Frag} {mg : Str → Option Value} {base : Heap} {CX : CXT} {k : Nat} {x : Str} {ps : List Str} {sp : Sp} {f : Addr} {fd : FuncData} (g : mg x = some (.ref f)) (kp : PySem.W.keepIn K (.ref f) = true) (b : Binds K fd ps []) (G : FnOk P w K mg base CX k f fd ps sp) : Def P w K mg base CX k x ps sp := ⟨f, fd, g, kp, b, G⟩
theorem drop_at {α : Type} {xs : List α} {i : Nat} {x : α} (h : xs[i]? = some x) : xs.drop i = x :: xs.drop (i + 1) := by
  obtain ⟨h1, rfl⟩ := List.getElem?_eq_some_iff.mp h
  exact List.drop_eq_getElem_cons h1
/-! ### nodes and terms, as values -/
def isVarV : V → Bool
  | .int i => decide (0 ≤ i) && decide (i ≤ 1000000)
  | _ => false
def isNodeV : V → Bool
  | .str x => decide (x = "lam") || decide (x = "app")
  | v => isVarV v
def pcV (v : V) : Int := if v = .str "app" then 2 else if v = .str "lam" then 1 else 0
def scanV : Int → List V → Bool
  | m, [] => decide (m = 0)
  | m, v :: r => if m = 0 ∨ isNodeV v = false then false else scanV (m + (pcV v - 1)) r
def isTermV (xs : List V) : Bool := decide (xs.length ≤ 1000) && scanV 1 xs
/-! ### terms -/
inductive Tm where
  | var (n : Nat)
  | lam (b : Tm)
  | app (f a : Tm)
def Tm.enc : Tm → List V
  | .var n => [.int n]
  | .lam b => .str "lam" :: b.enc
  | .app f a => .str "app" :: (f.enc ++ a.enc)
/-- its free variables are below d -/
def Tm.wf : Nat → Tm → Prop
  | d, .var n => n < d
  | d, .lam b => b.wf (d + 1)
  | d, .app f a => f.wf d ∧ a.wf d
def encs (ts : List Tm) : List V := (ts.map Tm.enc).flatten
/-- whatever terms stand for what waits (the last one first), the whole is a term -/
def Comp (loose : Nat) (nodes : List V) (wait : List Nat) : Prop := ∀ ts : List Tm, ts.length = wait.length → (∀ p ∈ ts.zip wait.reverse, p.1.wf (p.2 + loose)) → ∃ t : Tm, t.wf loose ∧ t.enc = nodes ++ encs ts
theorem Comp.start (loose : Nat) : Comp loose [] [0] := fun ts hl hw => by
  match ts, hl with
  | [t], _ =>
    refine ⟨t, ?_, by simp [encs]⟩
    have := hw (t, 0) (by simp)
    simpa using this
theorem Comp.done {loose : Nat} {nodes : List V} (h : Comp loose nodes []) : ∃ t : Tm, t.wf loose ∧ t.enc = nodes := by
  obtain ⟨t, h1, h2⟩ := h [] rfl (by simp)
  exact ⟨t, h1, by rw [h2]; simp [encs]⟩
theorem Comp.var {loose : Nat} {nodes : List V} {wait : List Nat} {d n : Nat} (h : Comp loose nodes (wait ++ [d])) (hn : n < d + loose) : Comp loose (nodes ++ [.int n]) wait := fun ts hl hw => by
  obtain ⟨t, h1, h2⟩ := h (.var n :: ts) (by simp [hl]) (fun p hp => by
    rw [List.reverse_append] at hp
    rcases List.mem_cons.mp hp with e | e
    · subst e
      exact hn
    · exact hw p e)
  exact ⟨t, h1, by rw [h2]; simp [encs, Tm.enc]⟩
theorem Comp.lam {loose : Nat} {nodes : List V} {wait : List Nat} {d : Nat} (h : Comp loose nodes (wait ++ [d])) : Comp loose (nodes ++ [.str "lam"]) (wait ++ [d + 1]) := fun ts hl hw => by
  match ts, hl with
  | [], hl => simp at hl
  | b :: r, hl =>
    rw [List.reverse_append] at hw
    obtain ⟨t, h1, h2⟩ := h (.lam b :: r) (by simpa using hl) (fun p hp => by
      rw [List.reverse_append] at hp
      rcases List.mem_cons.mp hp with e | e
      · subst e
        have := hw (b, d + 1) (by simp)
        show b.wf (d + loose + 1)
        have e2 : d + loose + 1 = d + 1 + loose := by omega
        rw [e2]
        exact this
      · exact hw p (List.mem_cons_of_mem _ e))
    exact ⟨t, h1, by rw [h2]; simp [encs, Tm.enc]⟩
theorem Comp.app {loose : Nat} {nodes : List V} {wait : List Nat} {d : Nat} (h : Comp loose nodes (wait ++ [d])) : Comp loose (nodes ++ [.str "app"]) (wait ++ [d] ++ [d]) := fun ts hl hw => by
  match ts, hl with
  | [], hl => simp at hl
  | [_], hl => simp at hl
  | f :: a :: r, hl =>
    rw [List.reverse_append, List.reverse_append] at hw
    obtain ⟨t, h1, h2⟩ := h (.app f a :: r) (by simpa using hl) (fun p hp => by
      rw [List.reverse_append] at hp
      rcases List.mem_cons.mp hp with e | e
      · subst e
        exact ⟨hw (f, d) (by simp), hw (a, d) (by simp)⟩
      · exact hw p (List.mem_cons_of_mem _ (List.mem_cons_of_mem _ e)))
    exact ⟨t, h1, by rw [h2]; simp [encs, Tm.enc]⟩
def Flat (xs : List V) : Prop := ∀ x ∈ xs, (∃ i, x = .int i) ∨ ∃ s, x = .str s
theorem Flat.kd {xs : List V} (h : Flat xs) (H : Hp) : ∀ x ∈ xs, Kd H x := fun x hx => by
  rcases h x hx with ⟨i, rfl⟩ | ⟨s, rfl⟩
  · exact .int i
  · exact .str s
theorem Flat.app {xs ys : List V} (h : Flat xs) (t : Flat ys) : Flat (xs ++ ys) := fun x hx => by
  rcases List.mem_append.mp hx with e | e
  · exact h x e
  · exact t x e
theorem Flat.rep {xs : List V} (h : Flat xs) (n : Nat) : Flat (List.replicate n xs).flatten := fun x hx => by
  obtain ⟨l, h1, h2⟩ := List.mem_flatten.mp hx
  rw [(List.mem_replicate.mp h1).2] at h2
  exact h x h2
theorem Flat.one (x : V) (h : (∃ i, x = .int i) ∨ ∃ s, x = .str s) : Flat [x] := fun y hy => by
  rw [List.mem_singleton.mp hy]
  exact h
theorem Flat.two (x z : V) (h : (∃ i, x = .int i) ∨ ∃ s, x = .str s) (h2 : (∃ i, z = .int i) ∨ ∃ s, z = .str s) : Flat [x, z] := fun y hy => by
  rcases List.mem_cons.mp hy with e | e
  · rw [e]
    exact h
  · rw [List.mem_singleton.mp e]
    exact h2
theorem Flat.cons {x : V} {xs : List V} (h : (∃ i, x = .int i) ∨ ∃ s, x = .str s) (t : Flat xs) : Flat (x :: xs) := fun y hy => by
  rcases List.mem_cons.mp hy with e | e
  · rw [e]
    exact h
  · exact t y e
theorem Flat.nil : Flat [] := fun x h => absurd h (by simp)
theorem Tm.flat : ∀ t : Tm, Flat t.enc
  | .var n => Flat.one _ (.inl ⟨_, rfl⟩)
  | .lam b => Flat.cons (.inr ⟨_, rfl⟩) b.flat
  | .app f a => Flat.cons (.inr ⟨_, rfl⟩) (f.flat.app a.flat)
/-- no variable too great -/
def okV : V → Bool
  | .int i => decide (i ≤ 1000000)
  | _ => true
def fitsV (xs : List V) : Bool := decide (xs.length ≤ 1000) && xs.all okV
/-! ### nodes compared -/
def Nds (xs : List V) : Prop := ∀ x ∈ xs, (∃ i, x = .int i) ∨ x = .str "lam" ∨ x = .str "app"
theorem Nds.flat {xs : List V} (h : Nds xs) : Flat xs := fun x hx => by
  rcases h x hx with e | e | e
  · exact .inl e
  · exact .inr ⟨_, e⟩
  · exact .inr ⟨_, e⟩
theorem Nds.nil : Nds [] := fun x h => absurd h (by simp)
theorem Nds.app {xs ys : List V} (h : Nds xs) (t : Nds ys) : Nds (xs ++ ys) := fun x hx => by
  rcases List.mem_append.mp hx with e | e
  · exact h x e
  · exact t x e
theorem Nds.cons {x : V} {xs : List V} (h : (∃ i, x = .int i) ∨ x = .str "lam" ∨ x = .str "app") (t : Nds xs) : Nds (x :: xs) := fun y hy => by
  rcases List.mem_cons.mp hy with e | e
  · rw [e]
    exact h
  · exact t y e
theorem Nds.rep {xs : List V} (h : Nds xs) (n : Nat) : Nds (List.replicate n xs).flatten := fun x hx => by
  obtain ⟨l, h1, h2⟩ := List.mem_flatten.mp hx
  rw [(List.mem_replicate.mp h1).2] at h2
  exact h x h2
theorem Nds.tail {x : V} {xs : List V} (h : Nds (x :: xs)) : Nds xs := fun y hy => h y (List.mem_cons_of_mem _ hy)
theorem Nds.take {xs : List V} (h : Nds xs) (n : Nat) : Nds (xs.take n) := fun x hx => h x (List.mem_of_mem_take hx)
theorem Nds.drop {xs : List V} (h : Nds xs) (n : Nat) : Nds (xs.drop n) := fun x hx => h x (List.mem_of_mem_drop hx)
theorem Nds.I (i : Int) : (∃ j, V.int i = .int j) ∨ V.int i = .str "lam" ∨ V.int i = .str "app" := .inl ⟨i, rfl⟩
theorem Nds.L : (∃ j, V.str "lam" = .int j) ∨ V.str "lam" = .str "lam" ∨ V.str "lam" = .str "app" := .inr (.inl rfl)
theorem Nds.A : (∃ j, V.str "app" = .int j) ∨ V.str "app" = .str "lam" ∨ V.str "app" = .str "app" := .inr (.inr rfl)
theorem Tm.nds : ∀ t : Tm, Nds t.enc
  | .var n => Nds.cons (Nds.I _) Nds.nil
  | .lam b => Nds.cons Nds.L b.nds
  | .app f a => Nds.cons Nds.A (f.nds.app a.nds)
def dv : V → PyData
  | .int i => .int i
  | .str x => .str x
  | _ => .none
theorem eqv_nodes : ∀ {xs ys : List V}, Nds xs → Nds ys → PyData.eqvAll (xs.map dv) (ys.map dv) = decide (xs = ys)
  | [], [], _, _ => by simp [PyData.eqvAll]
  | [], _ :: _, _, _ => by simp [PyData.eqvAll]
  | _ :: _, [], _, _ => by simp [PyData.eqvAll]
  | x :: xs, y :: ys, h, k => by
    have ih := eqv_nodes h.tail k.tail
    have hxy : PyData.eqv (dv x) (dv y) = decide (x = y) := by
      rcases h x List.mem_cons_self with ⟨i, rfl⟩ | rfl | rfl <;> rcases k y List.mem_cons_self with ⟨j, rfl⟩ | rfl | rfl <;> simp [dv, PyData.eqv] <;> first | (rw [Bool.eq_iff_iff]; simp) | decide +kernel
    rw [List.map_cons, List.map_cons, PyData.eqvAll, ih, hxy]
    simp
theorem lay_nodes : ∀ {xs : List V}, Nds xs → PyData.canLayAll0 (xs.map dv) = true
  | [], _ => rfl
  | x :: xs, h => by
    have ih := lay_nodes h.tail
    have hx : (dv x).canLay0 = true := by
      rcases h x List.mem_cons_self with ⟨i, rfl⟩ | rfl | rfl
      · rfl
      · decide +kernel
      · decide +kernel
    rw [List.map_cons, PyData.canLayAll0, hx, ih]
    rfl
theorem dp_nodes {K : PySem.W.Frag} {H : Hp} : ∀ {xs : List V}, Nds xs → DpAll K H xs (xs.map dv)
  | [], _ => .nil
  | x :: xs, h => by
    refine .cons ?_ (dp_nodes h.tail)
    rcases h x List.mem_cons_self with ⟨i, rfl⟩ | rfl | rfl
    · exact .int i
    · exact .str _
    · exact .str _
theorem depth_atom (x : V) : (dv x).depth ≤ 1 := by
  cases x <;> simp [dv, PyData.depth]
theorem depth_all : ∀ xs : List V, PyData.depthAll (xs.map dv) ≤ 1
  | [] => by simp [PyData.depthAll]
  | x :: xs => by
    have h1 := depth_atom x
    have h2 := depth_all xs
    simp only [List.map_cons, PyData.depthAll]
    omega
theorem depth_nodes {xs : List V} : (PyData.tuple (xs.map dv)).depth ≤ 2 := by
  have h := depth_all xs
  simp only [PyData.depth]
  omega
theorem shaped_nodes {xs : List V} (h : Nds xs) : SeqAt.shaped (.tuple (xs.map dv)) = true := by
  have h1 : (PyData.tuple (xs.map dv)).canLay0 = true := lay_nodes h
  have h2 := depth_nodes (xs := xs)
  unfold SeqAt.shaped
  rw [h1, Bool.true_and]
  exact decide_eq_true (by omega)
section
variable {K : PySem.W.Frag} {H : Hp} {Q : VK} {a b : Addr} {xs ys : List V}
theorem w_eqN (h : SqT K H a xs) (k : SqT K H b ys) (n : Nds xs) (m : Nds ys) (q : Q (.bl (decide (xs = ys))) H) : rEqD K (.ref a) (.ref b) H Q :=
  ⟨_, _, .tup h (dp_nodes n), .tup k (dp_nodes m), shaped_nodes n, shaped_nodes m, by rw [PyData.eqv, eqv_nodes n m]; exact q⟩
theorem w_neN (h : SqT K H a xs) (k : SqT K H b ys) (n : Nds xs) (m : Nds ys) (q : Q (.bl (!decide (xs = ys))) H) : rNeD K (.ref a) (.ref b) H Q :=
  ⟨_, _, .tup h (dp_nodes n), .tup k (dp_nodes m), shaped_nodes n, shaped_nodes m, by rw [PyData.eqv, eqv_nodes n m]; exact q⟩
theorem w_neNon (k : SqT K H b ys) (m : Nds ys) (q : Q (.bl true) H) : rNeD K .non (.ref b) H Q :=
  ⟨_, _, .non, .tup k (dp_nodes m), by decide, shaped_nodes m, q⟩
theorem w_eqNon (k : SqT K H b ys) (m : Nds ys) (q : Q (.bl false) H) : rEqD K .non (.ref b) H Q :=
  ⟨_, _, .non, .tup k (dp_nodes m), by decide, shaped_nodes m, q⟩
end
theorem ly_lt {n : Nat} (h : n < 15000000) : n < sizeLine := by
  rw [sizeLine_eq]
  omega
theorem ly_sz {n : Nat} (h : n ≤ 16000000) : n ≤ sizeLine := by
  rw [sizeLine_eq]
  omega
def Tm.lamN : Nat → Tm → Tm
  | 0, t => t
  | n + 1, t => .lam (Tm.lamN n t)
def Tm.rowN (c : Nat) : Nat → Tm → Tm
  | 0, t => t
  | n + 1, t => .app (.var c) (Tm.rowN c n t)
theorem Tm.enc_lamN (n : Nat) (t : Tm) : (Tm.lamN n t).enc = (List.replicate n [V.str "lam"]).flatten ++ t.enc := by
  induction n with
  | zero => rfl
  | succ n ih =>
    show V.str "lam" :: (Tm.lamN n t).enc = _
    rw [ih, List.replicate_succ]
    rfl
theorem Tm.enc_rowN (c n : Nat) (t : Tm) : (Tm.rowN c n t).enc = (List.replicate n [V.str "app", V.int c]).flatten ++ t.enc := by
  induction n with
  | zero => rfl
  | succ n ih =>
    show V.str "app" :: ([V.int c] ++ (Tm.rowN c n t).enc) = _
    rw [ih, List.replicate_succ]
    rfl
/-- the greatest variable is at most M -/
def Tm.vars (M : Nat) : Tm → Prop
  | .var n => n ≤ M
  | .lam b => b.vars M
  | .app f a => f.vars M ∧ a.vars M
theorem Tm.vars_lamN {M n : Nat} {t : Tm} (h : t.vars M) : (Tm.lamN n t).vars M := by
  induction n with
  | zero => exact h
  | succ n ih => exact ih
theorem Tm.vars_rowN {M c n : Nat} {t : Tm} (hc : c ≤ M) (h : t.vars M) : (Tm.rowN c n t).vars M := by
  induction n with
  | zero => exact h
  | succ n ih => exact ⟨hc, ih⟩
theorem Tm.vars_mono {M N : Nat} (hm : M ≤ N) : ∀ {t : Tm}, t.vars M → t.vars N
  | .var n, h => Nat.le_trans h hm
  | .lam b, h => Tm.vars_mono hm (t := b) h
  | .app f a, h => ⟨Tm.vars_mono hm (t := f) h.1, Tm.vars_mono hm (t := a) h.2⟩
theorem Tm.vars_wf : ∀ {t : Tm} {d : Nat}, t.wf d → t.vars (d + t.enc.length)
  | .var n, d, h => by
    show n ≤ d + 1
    have : n < d := h
    omega
  | .lam b, d, h => by
    have := Tm.vars_wf (t := b) (d := d + 1) h
    exact Tm.vars_mono (by simp [Tm.enc]; omega) this
  | .app f a, d, h => by
    have h1 := Tm.vars_wf (t := f) h.1
    have h2 := Tm.vars_wf (t := a) h.2
    exact ⟨Tm.vars_mono (by simp [Tm.enc]; omega) h1, Tm.vars_mono (by simp [Tm.enc]; omega) h2⟩
theorem pcV_lam : pcV (.str "lam") = 1 := by decide +kernel
theorem pcV_app : pcV (.str "app") = 2 := by decide +kernel
theorem pcV_int (i : Int) : pcV (.int i) = 0 := rfl
theorem node_lam : isNodeV (.str "lam") = true := by decide +kernel
theorem node_app : isNodeV (.str "app") = true := by decide +kernel
theorem node_int {i : Int} (h : 0 ≤ i) (h2 : i ≤ 1000000) : isNodeV (.int i) = true := by simp [isNodeV, isVarV, h, h2]
theorem scan_enc : ∀ (t : Tm), t.vars 1000000 → ∀ (k : Int) (r : List V), 0 ≤ k → scanV (k + 1) (t.enc ++ r) = scanV k r
  | .var n, h, k, r, hk => by
    have h : n ≤ 1000000 := h
    show scanV (k + 1) (V.int n :: r) = _
    have e : k + 1 + (0 - 1) = k := by omega
    rw [scanV, if_neg (by rw [node_int (by omega) (by omega)]; simp; omega), pcV_int, e]
  | .lam b, h, k, r, hk => by
    show scanV (k + 1) (V.str "lam" :: (b.enc ++ r)) = _
    have e : k + 1 + (1 - 1) = k + 1 := by omega
    rw [scanV, if_neg (by rw [node_lam]; simp; omega), pcV_lam, e]
    exact scan_enc b h k r hk
  | .app f a, h, k, r, hk => by
    show scanV (k + 1) (V.str "app" :: (f.enc ++ a.enc ++ r)) = _
    have e : k + 1 + (2 - 1) = k + 1 + 1 := by omega
    rw [scanV, if_neg (by rw [node_app]; simp; omega), pcV_app, e, List.append_assoc, scan_enc f h.1 (k + 1) _ (by omega)]
    exact scan_enc a h.2 k r hk
theorem scan_tm {t : Tm} (h : t.vars 1000000) : scanV 1 t.enc = true := by
  have := scan_enc t h 0 [] (by omega)
  rw [List.append_nil] at this
  rw [show (1 : Int) = 0 + 1 from rfl, this]
  rfl
theorem ok_vars : ∀ {t : Tm}, t.vars 1000000 → t.enc.all okV = true
  | .var n, h => by
    have h : n ≤ 1000000 := h
    simp [Tm.enc, okV]
    omega
  | .lam b, h => by
    have := ok_vars (t := b) h
    simp only [Tm.enc, List.all_cons, this]
    rfl
  | .app f a, h => by
    have h1 := ok_vars (t := f) h.1
    have h2 := ok_vars (t := a) h.2
    simp only [Tm.enc, List.all_cons, List.all_append, h1, h2]
    rfl
/-! ### the depths of a term's places -/
def Tm.deps : Nat → Tm → List Nat
  | d, .var _ => [d]
  | d, .lam b => d :: b.deps (d + 1)
  | d, .app f a => d :: (f.deps d ++ a.deps d)
theorem Tm.deps_len : ∀ (t : Tm) (d : Nat), (t.deps d).length = t.enc.length
  | .var _, _ => rfl
  | .lam b, d => by simp [Tm.deps, Tm.enc, Tm.deps_len b]
  | .app f a, d => by simp [Tm.deps, Tm.enc, Tm.deps_len f, Tm.deps_len a]
theorem Tm.enc_ne : ∀ t : Tm, t.enc ≠ []
  | .var _ => by simp [Tm.enc]
  | .lam _ => by simp [Tm.enc]
  | .app _ _ => by simp [Tm.enc]
def depss : List Tm → List Nat → List Nat
  | t :: ts, d :: ds => t.deps d ++ depss ts ds
  | _, _ => []
theorem encs_cons (t : Tm) (ts : List Tm) : encs (t :: ts) = t.enc ++ encs ts := by simp [encs]
theorem encs_nil {ts : List Tm} (h : encs ts = []) : ts = [] := by
  cases ts with
  | nil => rfl
  | cons t r =>
    rw [encs_cons] at h
    exact absurd (List.append_eq_nil_iff.mp h).1 t.enc_ne
/-- in the midst of a walk over a term's nodes: what is left are the terms ts, whose depths wait (the last one first) -/
def DInv (t : Tm) (i : Nat) (found ds : List Nat) : Prop := ∃ ts : List Tm, t.enc.drop i = encs ts ∧ ts.length = ds.length ∧ t.deps 0 = found ++ depss ts ds.reverse
theorem DInv.start (t : Tm) : DInv t 0 [] [0] := ⟨[t], by simp [encs], rfl, by simp [depss]⟩
theorem DInv.done {t : Tm} {found ds : List Nat} (h : DInv t t.enc.length found ds) : found = t.deps 0 := by
  obtain ⟨ts, h1, h2, h3⟩ := h
  rw [List.drop_length] at h1
  have e := encs_nil h1.symm
  subst e
  rw [h3]
  simp [depss]
theorem DInv.step {t : Tm} {i : Nat} {found ds : List Nat} {v : V} (h : DInv t i found ds) (hv : t.enc[i]? = some v) : ∃ r d, ds = r ++ [d] ∧
    ((∃ n : Nat, v = .int n ∧ DInv t (i + 1) (found ++ [d]) r) ∨ (v = .str "lam" ∧ DInv t (i + 1) (found ++ [d]) (r ++ [d + 1])) ∨ (v = .str "app" ∧ DInv t (i + 1) (found ++ [d]) (r ++ [d] ++ [d]))) := by
  obtain ⟨ts, h1, h2, h3⟩ := h
  rw [drop_at hv] at h1
  match ts, h1, h2, h3 with
  | [], h1, _, _ => cases h1
  | t1 :: r1, h1, h2, h3 =>
    have hne : ds ≠ [] := fun e => by
      rw [e] at h2
      cases h2
    refine ⟨ds.dropLast, ds.getLast hne, (List.dropLast_concat_getLast hne).symm, ?_⟩
    generalize hr : ds.dropLast = r at *
    generalize hd : ds.getLast hne = d at *
    have hds : ds = r ++ [d] := by rw [← hr, ← hd]; exact (List.dropLast_concat_getLast hne).symm
    subst hds
    rw [List.reverse_append] at h3
    have h3 : t.deps 0 = found ++ (t1.deps d ++ depss r1 r.reverse) := h3
    have hl : r1.length = r.length := by simpa using h2
    rw [encs_cons] at h1
    cases t1 with
    | var n =>
      have h1 : v :: t.enc.drop (i + 1) = V.int n :: encs r1 := h1
      injection h1 with e1 e2
      exact .inl ⟨n, e1, r1, e2, hl, by rw [h3]; simp [Tm.deps]⟩
    | lam b =>
      have h1 : v :: t.enc.drop (i + 1) = V.str "lam" :: (b.enc ++ encs r1) := h1
      injection h1 with e1 e2
      exact .inr (.inl ⟨e1, b :: r1, by rw [e2, encs_cons], by simp [hl], by rw [h3, List.reverse_append]; simp [Tm.deps, depss]⟩)
    | app f a =>
      have h1 : v :: t.enc.drop (i + 1) = V.str "app" :: (f.enc ++ a.enc ++ encs r1) := h1
      injection h1 with e1 e2
      exact .inr (.inr ⟨e1, f :: a :: r1, by rw [e2, encs_cons, encs_cons, List.append_assoc], by simp [hl], by rw [h3, List.reverse_append, List.reverse_append]; simp [Tm.deps, depss]⟩)
/-! ### a term's variables changed place by place -/
def Tm.vmap (g : Nat → Nat → Nat) : Nat → Tm → Tm
  | d, .var n => .var (g d n)
  | d, .lam b => .lam (b.vmap g (d + 1))
  | d, .app f a => .app (f.vmap g d) (a.vmap g d)
def vm (g : Nat → Nat → Nat) (v : V) (d : Nat) : V := match v with
  | .int n => .int (g d n.toNat)
  | v => v
theorem Tm.deps_vmap (g : Nat → Nat → Nat) : ∀ (t : Tm) (d : Nat), (t.vmap g d).deps d = t.deps d
  | .var _, _ => rfl
  | .lam b, d => by simp [Tm.vmap, Tm.deps, Tm.deps_vmap g b]
  | .app f a, d => by simp [Tm.vmap, Tm.deps, Tm.deps_vmap g f, Tm.deps_vmap g a]
theorem Tm.enc_vmap (g : Nat → Nat → Nat) : ∀ (t : Tm) (d : Nat), (t.vmap g d).enc = List.zipWith (vm g) t.enc (t.deps d)
  | .var _, _ => rfl
  | .lam b, d => by simp [Tm.vmap, Tm.deps, Tm.enc, Tm.enc_vmap g b, vm]
  | .app f a, d => by
    have hl : f.enc.length = (f.deps d).length := (Tm.deps_len f d).symm
    simp only [Tm.vmap, Tm.deps, Tm.enc, List.zipWith_cons_cons, Tm.enc_vmap g f, Tm.enc_vmap g a, List.zipWith_append hl]
    rfl
theorem zip_take {α β γ : Type} {f : α → β → γ} {xs : List α} {ys : List β} {i : Nat} {x : α} {y : β} (hx : xs[i]? = some x) (hy : ys[i]? = some y) : (List.zipWith f xs ys).take (i + 1) = (List.zipWith f xs ys).take i ++ [f x y] := by
  rw [List.take_add_one, List.getElem?_zipWith, hx, hy]
  rfl
/-- the free variables, place by place -/
def frv (v : V) (d : Nat) : List Int := match v with
  | .int n => if (d : Int) ≤ n then [n - d] else []
  | _ => []
def frs (xs : List V) (ds : List Nat) : List Int := (List.zipWith frv xs ds).flatten
theorem Tm.int_nat : ∀ {t : Tm} {v : V}, v ∈ t.enc → (∃ n : Nat, v = .int n) ∨ v = .str "lam" ∨ v = .str "app"
  | .var n, v, h => .inl ⟨n, by simpa [Tm.enc] using h⟩
  | .lam b, v, h => by
    rcases List.mem_cons.mp h with e | e
    · exact .inr (.inl e)
    · exact Tm.int_nat (t := b) e
  | .app f a, v, h => by
    rcases List.mem_cons.mp h with e | e
    · exact .inr (.inr e)
    · rcases List.mem_append.mp e with e | e
      · exact Tm.int_nat (t := f) e
      · exact Tm.int_nat (t := a) e
theorem sorted_one : ∀ {ns ms : List Int}, ns.Pairwise (· < ·) → ms.Pairwise (· < ·) → (∀ j, j ∈ ns ↔ j ∈ ms) → ns = ms
  | [], [], _, _, _ => rfl
  | [], m :: ms, _, _, h => absurd ((h m).mpr List.mem_cons_self) (by simp)
  | n :: ns, [], _, _, h => absurd ((h n).mp List.mem_cons_self) (by simp)
  | n :: ns, m :: ms, h1, h2, h => by
    obtain ⟨a1, b1⟩ := List.pairwise_cons.mp h1
    obtain ⟨a2, b2⟩ := List.pairwise_cons.mp h2
    have e : n = m := by
      rcases List.mem_cons.mp ((h n).mp List.mem_cons_self) with q | q
      · exact q
      · rcases List.mem_cons.mp ((h m).mpr List.mem_cons_self) with p | p
        · exact p.symm
        · have l1 := a1 m p
          have l2 := a2 n q
          omega
    subst e
    rw [sorted_one b1 b2 fun j => ?_]
    constructor
    · intro hj
      rcases List.mem_cons.mp ((h j).mp (List.mem_cons_of_mem _ hj)) with q | q
      · have := a1 j hj
        omega
      · exact q
    · intro hj
      rcases List.mem_cons.mp ((h j).mpr (List.mem_cons_of_mem _ hj)) with q | q
      · have := a2 j hj
        omega
      · exact q
theorem le_lt {ns : List Int} (h : ns.Pairwise (· ≤ ·)) (n : ns.Nodup) : ns.Pairwise (· < ·) := by
  induction ns with
  | nil => exact .nil
  | cons a r ih =>
    obtain ⟨h1, h2⟩ := List.pairwise_cons.mp h
    obtain ⟨n1, n2⟩ := List.nodup_cons.mp n
    refine List.pairwise_cons.mpr ⟨fun b hb => ?_, ih h2 n2⟩
    have l := h1 b hb
    have ne : a ≠ b := fun e => n1 (by rw [e]; exact hb)
    omega
section
variable {K : PySem.W.Frag} {H : Hp} {Q : VK} {a b : Addr} {xs ys : List V}
theorem shapedL_nodes {xs : List V} (h : Nds xs) : SeqAt.shaped (.list (xs.map dv)) = true := by
  have h1 : (PyData.list (xs.map dv)).canLay0 = true := lay_nodes h
  have h2 : (PyData.list (xs.map dv)).depth ≤ 2 := by
    have h := depth_all xs
    simp only [PyData.depth]
    omega
  unfold SeqAt.shaped
  rw [h1, Bool.true_and]
  exact decide_eq_true (by omega)
theorem w_eqL (h : SqL K H a xs) (k : SqL K H b ys) (n : Nds xs) (m : Nds ys) (q : Q (.bl (decide (xs = ys))) H) : rEqD K (.ref a) (.ref b) H Q :=
  ⟨_, _, .lst h (dp_nodes n), .lst k (dp_nodes m), shapedL_nodes n, shapedL_nodes m, by rw [PyData.eqv, eqv_nodes n m]; exact q⟩
theorem w_neL (h : SqL K H a xs) (k : SqL K H b ys) (n : Nds xs) (m : Nds ys) (q : Q (.bl (!decide (xs = ys))) H) : rNeD K (.ref a) (.ref b) H Q :=
  ⟨_, _, .lst h (dp_nodes n), .lst k (dp_nodes m), shapedL_nodes n, shapedL_nodes m, by rw [PyData.eqv, eqv_nodes n m]; exact q⟩
theorem Nds.ofInts (ns : List Int) : Nds (ns.map V.int) := fun x hx => by
  obtain ⟨i, _, e⟩ := List.mem_map.mp hx
  exact .inl ⟨i, e.symm⟩
theorem inV_ints (z : Int) : ∀ ms : List Int, inV (.int z) (ms.map V.int) = decide (z ∈ ms)
  | [] => by simp [inV]
  | m :: ms => by
    have ih := inV_ints z ms
    unfold inV at ih ⊢
    rw [List.map_cons, List.any_cons, ih]
    have e : eqV (.int m) (.int z) = (m == z) := rfl
    rw [e]
    by_cases h : m = z
    · subst h
      simp
    · have h2 : z ≠ m := fun e => h e.symm
      simp [h, h2]
theorem flat_ints : ∀ ms : List Int, (ms.map V.int).all flatV = true
  | [] => rfl
  | m :: ms => by
    rw [List.map_cons, List.all_cons, flat_ints ms]
    rfl
theorem w_nin {p : Addr} {ms : List Int} {z : Int} (h : SqL K H p (ms.map V.int)) (q : Q (.bl (!decide (z ∈ ms))) H) : rIn K true (.int z) (.ref p) H Q :=
  ⟨p, _, rfl, .inl h, rfl, flat_ints ms, by rw [inV_ints]; exact q⟩
theorem w_sorted {p : Addr} {ms : List Int} (h : SqL K H p (ms.map V.int)) (q : ∀ (ns : List Int) (l : Addr), ns.Perm ms → ns.Pairwise (· ≤ ·) → H l = none → Q (.ref l) (upd H l (.lst (ns.map V.int)))) : rSortedI K [.ref p] H Q := ⟨p, ms, rfl, h, q⟩
theorem map_int_inj {ns ms : List Int} (h : ns.map V.int = ms.map V.int) : ns = ms := by
  have := congrArg (List.map fun v => match v with | V.int i => i | _ => 0) h
  simpa [List.map_map, Function.comp_def] using this
end
/-! ### the law's stream of numbers -/
structure Stm where
  home : Addr
  cells : List Int
  cur : Int
  pos : Nat
  mix : Int
def Stm.take (m : Stm) : Stm := if m.cur = 0 ∧ m.pos < m.cells.length then { m with cur := (if m.cells.getD m.pos 0 < 0 then -(m.cells.getD m.pos 0) else m.cells.getD m.pos 0), pos := m.pos + 1 } else m
def Stm.turn (m : Stm) : Stm := { m with mix := (m.mix * 48271 + 11).fmod 2147483647 }
def Stm.next (m : Stm) (n : Int) : Stm := if m.take.cur = 0 then m.take.turn else { m.take with cur := m.take.cur.fdiv n }
def Stm.val (m : Stm) (n : Int) : Int := if m.take.cur = 0 then (m.take.turn.mix.fdiv 97).fmod n else m.take.cur.fmod n
theorem fmod_lt {a n : Int} (h : 0 < n) : 0 ≤ a.fmod n ∧ a.fmod n < n := ⟨Int.fmod_nonneg_of_pos a h, Int.fmod_lt_of_pos a h⟩
theorem Stm.val_lt (m : Stm) {n : Int} (h : 0 < n) : 0 ≤ m.val n ∧ m.val n < n := by
  unfold Stm.val
  split
  · exact fmod_lt h
  · exact fmod_lt h
def mixOf (ns : List Int) : Int := ns.foldl (fun m c => (m * 48271 + c.fmod 65521 + 1).fmod 2147483647) 17
theorem mixOf_take {ns : List Int} {i : Nat} {z : Int} (h : ns[i]? = some z) : mixOf (ns.take (i + 1)) = (mixOf (ns.take i) * 48271 + z.fmod 65521 + 1).fmod 2147483647 := by
  rw [List.take_add_one, h]
  unfold mixOf
  rw [List.foldl_append]
  rfl
theorem get_int {ns : List Int} {i : Nat} {x : V} (h : (ns.map V.int)[i]? = some x) : ∃ z, ns[i]? = some z ∧ x = .int z := by
  rw [List.getElem?_map] at h
  cases e : ns[i]? with
  | none => rw [e] at h; cases h
  | some z => rw [e] at h; exact ⟨z, rfl, (Option.some.inj h).symm⟩
theorem at_map {ns : List Int} {j : Nat} (h : j < ns.length) : atI (ns.map V.int) (j : Int) = some (.int (ns.getD j 0)) := by
  refine atI_nat ?_
  rw [List.getElem?_map, List.getElem?_eq_getElem h, List.getD_eq_getElem?_getD, List.getElem?_eq_getElem h]
  rfl
theorem Stm.take_cells (m : Stm) : m.take.cells = m.cells := by
  unfold Stm.take
  split <;> rfl
theorem Stm.take_home (m : Stm) : m.take.home = m.home := by
  unfold Stm.take
  split <;> rfl
/-- the stream goes on: the same list of numbers at the same place -/
def Fol (m m' : Stm) : Prop := m'.home = m.home ∧ m'.cells = m.cells
theorem Fol.refl (m : Stm) : Fol m m := ⟨rfl, rfl⟩
theorem Fol.trans {m m1 m2 : Stm} (h : Fol m m1) (k : Fol m1 m2) : Fol m m2 := ⟨k.1.trans h.1, k.2.trans h.2⟩
theorem Fol.next (m : Stm) (n : Int) : Fol m (m.next n) := by
  unfold Stm.next
  split
  · exact ⟨m.take_home, m.take_cells⟩
  · exact ⟨m.take_home, m.take_cells⟩
theorem Fol.step {m m1 : Stm} (h : Fol m m1) (n : Int) : Fol m (m1.next n) := h.trans (Fol.next m1 n)
def StAt (H : Hp) (s : Addr) (m : Stm) : Prop := m.home ≠ s ∧ H s = some (.lst [.ref m.home, .int m.cur, .int m.pos, .int m.mix]) ∧ H m.home = some (.lst (m.cells.map V.int))
theorem StAt.ex {H H' : Hp} {s : Addr} {m : Stm} (h : StAt H s m) (e : Ex H H') : StAt H' s m := ⟨h.1, e _ _ h.2.1, e _ _ h.2.2⟩
theorem StAt.is {H : Hp} {s : Addr} {m : Stm} (h : StAt H s m) : ∃ ys, H s = some (.lst ys) := ⟨_, h.2.1⟩
theorem StAt.put {H : Hp} {s r : Addr} {m : Stm} {o : HO} (h : StAt H s m) (hs : r ≠ s) (hl : r ≠ m.home) : StAt (upd H r o) s m :=
  ⟨h.1, by rw [upd_ne hs.symm]; exact h.2.1, by rw [upd_ne hl.symm]; exact h.2.2⟩
theorem StAt.new {H : Hp} {s r : Addr} {m : Stm} {o : HO} (h : StAt H s m) (hr : H r = none) : StAt (upd H r o) s m := h.ex (Ex.new hr)
theorem StAt.ne {H : Hp} {s r : Addr} {m : Stm} (h : StAt H s m) (hr : H r = none) : r ≠ s ∧ r ≠ m.home := ⟨(ne_of_none h.2.1 hr).symm, (ne_of_none h.2.2 hr).symm⟩
theorem Kp.st {H H' : Hp} {s : Addr} {m m' : Stm} (e : Fr s H H') (h : StAt H s m) (h' : StAt H' s m') : Kp H H' := by
  obtain ⟨ys, h⟩ := h.is
  obtain ⟨zs, h'⟩ := h'.is
  exact Kp.fr e h h'
end Ly
set_option Elab.async false
set_option linter.all false
set_option maxRecDepth 100000
set_option maxHeartbeats 4000000
/-! zip of two sources of any kind, in a for -/
namespace Ly
open PySem PySem.Spec PyProof.Rows L2 Evl
/-- what one source of a zip gives: C tells its items by the abstract heap -/
structure ZSrc (P : Program) (w : World) (K : PySem.W.Frag) (C : Hp → List V → Prop) (it : Addr) (fp : List Addr) (st : Nat → Heap → Prop) : Prop where
  obj : ∀ i h, st i h → ∃ o, h.get? it = some o ∧ ∀ v, o.data ≠ .cell v
  keep : ∀ i h h', st i h → (∀ o, h.get? it = some o → h'.get? it = some o) → st i h'
  inj : ∀ (X : Cx), X.prog = P → X.w = w → X.K = K → ∀ (pins : List (Addr × Obj)) (σ : L2.St) (H : Hp) (s : Shared) (xs ys : List V), Inv X pins σ H s → C H xs → C H ys → xs = ys
  draws : ∀ (X : Cx), X.prog = P → X.w = w → X.K = K → X.A.handled = none → ∀ (pins : List (Addr × Obj)) (σ : L2.St) (H : Hp) (s : Shared) (xs : List V), Inv X pins σ H s → C H xs →
    ∃ (Pr : Nat → Value → Prop) (CT : Heap → Prop), Draws P w X.A.in1 it fp xs.length Pr (fun i h => st i h ∧ CT h) ∧ CT s.heap ∧ ∀ i u, Pr i u → ∃ v, xs[i]? = some v ∧ RelV v u
def ItzC (C1 C2 : Hp → List V → Prop) : It :=
  ⟨fun i H => ∃ (xs ys : List V) (x y : V), C1 H xs ∧ C2 H ys ∧ xs[i]? = some x ∧ ys[i]? = some y,
    fun i H v H' => ∃ (T : Addr) (x y : V), v = .ref T ∧ H T = none ∧ H' = upd H T (.tup [x, y]) ∧ (∀ xs, C1 H xs → xs[i]? = some x) ∧ ∀ ys, C2 H ys → ys[i]? = some y,
    fun i H => ∃ xs ys : List V, C1 H xs ∧ C2 H ys ∧ i ≤ xs.length ∧ i ≤ ys.length ∧ (i = xs.length ∨ i = ys.length)⟩
theorem five {α : Type} {c a1 a2 a3 a4 a5 : α} (h : c ∈ [a1, a2, a3, a4, a5]) : c = a1 ∨ c = a2 ∨ c = a3 ∨ c = a4 ∨ c = a5 := by simpa using h
theorem turn_zipC {P : Program} {w : World} {K : PySem.W.Frag} {elts : List Expr} {kk : Nat} {tpos : Pos} {C1 C2 : Hp → List V → Prop} {z TI TO i1 i2 : Addr} {fp1 fp2 : List Addr} {st1 st2 : Nat → Heap → Prop}
    (S : ZipSep2 z TI TO i1 i2 fp1 fp2) (Z1 : ZSrc P w K C1 i1 fp1 st1) (Z2 : ZSrc P w K C2 i2 fp2 st2) :
    Turn P w K (.Tuple elts kk tpos) (ItzC C1 C2) [z, TI, TO, i1, i2] z (fun i h => IsZip h z TI TO .none ∧ IsTupOf2 h TI (.ref i1) (.ref i2) ∧ (∃ x y, IsTupOf2 h TO x y) ∧ st1 i h ∧ st2 i h) where
  mem := List.mem_cons_self
  obj := fun i h ⟨hz, hI, ⟨_, _, hO⟩, q1, q2⟩ c hc => by
    rcases five hc with rfl | rfl | rfl | rfl | rfl
    · exact ⟨_, hz, fun _ q => nomatch q⟩
    · exact ⟨_, hI, fun _ q => nomatch q⟩
    · exact ⟨_, hO, fun _ q => nomatch q⟩
    · exact Z1.obj i h q1
    · exact Z2.obj i h q2
  keep := fun i h h' ⟨hz, hI, ⟨x, y, hO⟩, q1, q2⟩ k =>
    ⟨k z (by simp) _ hz, k TI (by simp) _ hI, ⟨x, y, k TO (by simp) _ hO⟩, Z1.keep i h h' q1 (fun o e => k i1 (by simp) o e), Z2.keep i h h' q2 (fun o e => k i2 (by simp) o e)⟩
  item := fun X hP hw hK hc i pins s σ H E I hf st hg => by
    obtain ⟨hz, hI, ⟨x0, y0, hO⟩, q1, q2⟩ := st
    obtain ⟨xs, ys, x, y, c1, c2, hx, hy⟩ := hg
    obtain ⟨Pr1, CT1, D1, t1, r1⟩ := Z1.draws X hP hw hK (I.ok.hd hc) pins σ H s xs I c1
    obtain ⟨Pr2, CT2, D2, t2, r2⟩ := Z2.draws X hP hw hK (I.ok.hd hc) pins σ H s ys I c2
    have l1 : i < xs.length := (List.getElem?_eq_some_iff.mp hx).1
    have l2 : i < ys.length := (List.getElem?_eq_some_iff.mp hy).1
    have zl : z < s.heap.objs.size := Heap.lt_size hz
    refine wpAny_pyNext_zipD2_item S D1 D2 hz hI hO ⟨q1, t1⟩ ⟨q2, t2⟩ l1 l2 fun u1 u2 h' tk p1 p2 z' O' n1 n2 hT hsz hk => ?_
    obtain ⟨v1, e1, rv1⟩ := r1 i u1 p1
    obtain ⟨v2, e2, rv2⟩ := r2 i u2 p2
    have ev1 : v1 = x := Option.some.inj (e1.symm.trans hx)
    have ev2 : v2 = y := Option.some.inj (e2.symm.trans hy)
    subst ev1 ev2
    refine ⟨_, rfl, wpAny_letOwnedTupleGo_zip (s := { s with heap := h', toks := tk }) z' fun h2 z2 sb => ?_⟩
    have stay : ∀ c o, c ≠ z → c ≠ TO → c ≠ i1 → c ≠ i2 → s.heap.get? c = some o → h2.get? c = some o := fun c o k1 k2 k3 k4 e => (sb.2 c k1).trans (hk c o k1 k2 k3 k4 e)
    have made : ObjOk X.prog X.w (upd H s.heap.objs.size (.tup [v1, v2])) h2 s.heap.objs.size (.tup [v1, v2]) :=
      ⟨sz_of (Nat.le_of_ble_eq_true rfl), [u1, u2], .cons rv1 (.cons rv2 .nil), ⟨_, (sb.2 _ (Nat.ne_of_gt zl)).trans hT, rfl, _, rfl⟩⟩
    have J := I.turnedNew (t' := tk) (ch := [z, TI, TO, i1, i2]) (h' := h2) (fun c o hb e => stay c o (fun q => hb (by simp [q])) (fun q => hb (by simp [q])) (fun q => hb (by simp [q])) (fun q => hb (by simp [q])) e) hf (Nat.le_refl _) made
    refine ⟨.ref s.heap.objs.size, _, J, rfl, ⟨_, v1, v2, rfl, I.hok.fresh (Nat.le_refl _), rfl, fun l hl => ?_, fun l hl => ?_⟩, ⟨z2, ?_, ⟨u1, u2, ?_⟩, ?_, ?_⟩, fun c hcm => ?_⟩
    · rw [Z1.inj X hP hw hK pins σ H s l xs I hl c1]
      exact hx
    · rw [Z2.inj X hP hw hK pins σ H s l ys I hl c2]
      exact hy
    · exact stay _ _ S.TIz S.TITO S.TIi1 S.TIi2 hI
    · exact (sb.2 _ S.TOz).trans O'
    · exact Z1.keep _ _ _ n1.1 fun o e => (sb.2 _ (Ne.symm S.zi1)).trans e
    · exact Z2.keep _ _ _ n2.1 fun o e => (sb.2 _ (Ne.symm S.zi2)).trans e
    · have lt : c < s.heap.objs.size := by
        rcases five hcm with q | q | q | q | q
        · rw [q]; exact zl
        · rw [q]; exact Heap.lt_size hI
        · rw [q]; exact Heap.lt_size hO
        · rw [q]; obtain ⟨_, e, _⟩ := Z1.obj _ _ q1; exact Heap.lt_size e
        · rw [q]; obtain ⟨_, e, _⟩ := Z2.obj _ _ q2; exact Heap.lt_size e
      rw [upd_ne (Nat.ne_of_lt lt)]
      exact (hf c hcm).1
  done := fun X hP hw hK hc i pins s σ H E I hf st hg => by
    obtain ⟨hz, hI, ⟨x0, y0, hO⟩, q1, q2⟩ := st
    obtain ⟨xs, ys, c1, c2, l1, l2, hend⟩ := hg
    obtain ⟨Pr1, CT1, D1, t1, r1⟩ := Z1.draws X hP hw hK (I.ok.hd hc) pins σ H s xs I c1
    obtain ⟨Pr2, CT2, D2, t2, r2⟩ := Z2.draws X hP hw hK (I.ok.hd hc) pins σ H s ys I c2
    exact wpAny_pyNext_zipD2_end S D1 D2 hz hI hO ⟨q1, t1⟩ ⟨q2, t2⟩ l1 l2 hend fun h' tk hk => ⟨rfl, I.turnedL (t' := tk) (ch := [z, TI, TO, i1, i2]) (fun c o hb e =>
      hk c o (fun q => hb (by simp [q])) (fun q => hb (by simp [q])) (fun q => hb (by simp [q])) (fun q => hb (by simp [q])) e) hf⟩
  self := fun A i s Q E ⟨hz, _⟩ h => wpAny_pyIter_zip hz h
/-- the sources -/
theorem src_tup {P : Program} {w : World} {K : PySem.W.Frag} {a it : Addr} (hne : a ≠ it) : ZSrc P w K (fun H xs => SqT K H a xs) it [it, a] (fun i h => h.IsTupleIter it a i) where
  obj := fun i h st => by
    obtain ⟨o, e, _, d⟩ := st
    exact ⟨o, e, fun v z => by rw [d] at z; cases z⟩
  keep := fun i h h' st k => st.at fun o e => k o e
  inj := fun X hP hw hK pins σ H s xs ys I h1 h2 => by
    subst hP hw hK
    exact I.tuple_inj h1 h2
  draws := fun X hP hw hK hh pins σ H s xs I h => by
    subst hP hw hK
    obtain ⟨its, rv, p, _⟩ := I.tuple h
    have el : xs.length = its.toArray.size := by rw [List.size_toArray]; exact rv.length
    rw [el]
    refine ⟨fun i v => its.toArray[i]? = some v, fun h => h.IsTuple a its.toArray, Draws.tuple (A := X.A.in1) (show X.A.in1.handled = none from hh) it a hne its.toArray, p, fun i u hu => ?_⟩
    have hu2 : its[i]? = some u := by simpa using hu
    obtain ⟨hl, hg⟩ := List.getElem?_eq_some_iff.mp hu2
    have hl2 : i < xs.length := by rw [rv.length]; exact hl
    obtain ⟨u2, g2, rr⟩ := rv.get (List.getElem?_eq_getElem hl2)
    rw [hu2] at g2
    cases g2
    exact ⟨_, List.getElem?_eq_getElem hl2, rr⟩
theorem src_lst {P : Program} {w : World} {K : PySem.W.Frag} {a it : Addr} (hne : a ≠ it) : ZSrc P w K (fun H xs => SqL K H a xs) it [it, a] (fun i h => h.IsListIter it a i) where
  obj := fun i h st => by
    obtain ⟨o, e, _, d⟩ := st
    exact ⟨o, e, fun v z => by rw [d] at z; cases z⟩
  keep := fun i h h' st k => st.at fun o e => k o e
  inj := fun X hP hw hK pins σ H s xs ys I h1 h2 => by
    subst hP hw hK
    exact I.list_inj h1 h2
  draws := fun X hP hw hK hh pins σ H s xs I h => by
    subst hP hw hK
    obtain ⟨its, rv, p, _⟩ := I.list h
    have el : xs.length = its.toArray.size := by rw [List.size_toArray]; exact rv.length
    rw [el]
    refine ⟨fun i v => its.toArray[i]? = some v, fun h => h.IsList a its.toArray, Draws.list (A := X.A.in1) (show X.A.in1.handled = none from hh) it a hne its.toArray, p.isList, fun i u hu => ?_⟩
    have hu2 : its[i]? = some u := by simpa using hu
    obtain ⟨hl, hg⟩ := List.getElem?_eq_some_iff.mp hu2
    have hl2 : i < xs.length := by rw [rv.length]; exact hl
    obtain ⟨u2, g2, rr⟩ := rv.get (List.getElem?_eq_getElem hl2)
    rw [hu2] at g2
    cases g2
    exact ⟨_, List.getElem?_eq_getElem hl2, rr⟩
def signs (z : Str) : List V := z.cps.toList.map fun c => V.str ⟨#[c]⟩
theorem src_str {P : Program} {w : World} {K : PySem.W.Frag} {z : Str} {t : Tok} {it : Addr} : ZSrc P w K (fun _ xs => xs = signs z) it [it] (fun i h => h.IsStrIter it (strIterType z) z t i) where
  obj := fun i h st => by
    obtain ⟨o, e, _, d⟩ := st
    exact ⟨o, e, fun v z => by rw [d] at z; cases z⟩
  keep := fun i h h' st k => by
    obtain ⟨o, e, d⟩ := st
    exact ⟨o, k o e, d⟩
  inj := fun X hP hw hK pins σ H s xs ys I h1 h2 => h1.trans h2.symm
  draws := fun X hP hw hK hh pins σ H s xs I h => by
    subst h hP hw hK
    have D := Draws.text (prog := X.prog) (w := X.w) (A := X.A.in1) (show X.A.in1.handled = none from hh) it z t
    have el : (signs z).length = z.cps.size := by simp [signs]
    rw [el]
    refine ⟨fun i v => ∃ c u, z.cps[i]? = some c ∧ v = .str ⟨#[c]⟩ u, fun _ => True, ⟨fun i h st => D.live i h st.1, fun i h h' st k => ⟨D.frame i h h' st.1 k, trivial⟩, fun i s Q E hi st hQ => D.item i s Q E hi st.1 fun x h' tk p q r => hQ x h' tk p ⟨q, trivial⟩ r, fun s Q E st hE => D.done s Q E st.1 hE⟩, trivial, fun i u hu => ?_⟩
    obtain ⟨c, tk, hc, rfl⟩ := hu
    refine ⟨.str ⟨#[c]⟩, ?_, tk, rfl⟩
    unfold signs
    rw [List.getElem?_map, Array.getElem?_toList, hc]
    rfl
def iZipTL (K : PySem.W.Frag) (ta : TA) : TI := fun σ H R => ta σ H fun vs H1 => ∃ a b xs ys, vs = [.ref a, .ref b] ∧ SqT K H1 a xs ∧ SqL K H1 b ys ∧ R (ItzC (fun H xs => SqT K H a xs) (fun H ys => SqL K H b ys)) H1
def iZipSS (ta : TA) : TI := fun σ H R => ta σ H fun vs H1 => ∃ z u, vs = [.str z, .str u] ∧ R (ItzC (fun _ xs => xs = signs z) (fun _ ys => ys = signs u)) H1
theorem fresh_cells {X : Cx} {pins : List (Addr × Obj)} {σ : L2.St} {H : Hp} {s : Shared} (I : Inv X pins σ H s) : ∀ c ∈ [s.heap.objs.size + 4, s.heap.objs.size + 2, s.heap.objs.size + 3, s.heap.objs.size, s.heap.objs.size + 1], FpOk X pins H c := fun c hc => by
  have le : s.heap.objs.size ≤ c := by
    rcases five hc with q | q | q | q | q <;> omega
  exact I.fpOk le (I.hok.fresh le)
theorem pi_zipM {X : Cx} {e e2 : Expr} {ta : TA} {p pos tpos : Pos} {elts : List Expr} {kk : Nat} (hg : Gl X "zip") (hm : X.mg "zip" = none) (ha : PA X [e, e2] ta)
    (hs : starEach [e, e2] X.env = (false, eval e X.env) :: starEach [e2] X.env := by rfl) (hpl : (backTo pos (starEach [e2] X.env)).any (·.1) = false := by rfl) :
    PI X (.Tuple elts kk tpos) (.Call (.Name "zip" p) [e, e2] [] pos) (iZipTL X.K ta) := ⟨fun pins s σ H R I h =>
  Call_ (ld_blt I hg hm PyProof.Rows.boot_zip (PyProof.Rows.callWith_type1 (thn (ha.run pos pins s σ H _ I h) fun us s1 ⟨vs, H1, J, rv, q⟩ => by
    obtain ⟨a, b, xs, ys, ev, hx, hy, q⟩ := q
    subst ev
    obtain ⟨u1, us1, e1, r1, rv1⟩ : ∃ u1 us1, us = u1 :: us1 ∧ RelV (.ref a) u1 ∧ Vals [.ref b] us1 := by
      cases rv with
      | cons r rr => exact ⟨_, _, rfl, r, rr⟩
    obtain ⟨u2, e2', r2⟩ := vals1 rv1
    subst e1 e2'
    cases r1
    cases r2
    obtain ⟨its, _, p1, _⟩ := J.tuple hx
    obtain ⟨its2, _, p2, _⟩ := J.list hy
    refine zip_begins2 (begins_tuple a its.toArray) (begins_list b its2.toArray) p1 p2.isList fun h' hz hI hO g1 g2 hsz hk => wpAny_pyIter_zip hz ?_
    have la : a < s1.heap.objs.size := by
      obtain ⟨_, z, _⟩ := id p1
      exact Heap.lt_size z
    have lb := p2.lt
    refine ⟨s1.heap.objs.size + 4, _, _, _, H1, rfl, J.kept (t' := s1.toks) hk, turn_zipC (zip_sep2 (N := s1.heap.objs.size) (fp1 := [a]) (fp2 := [b]) ?_ ?_) (src_tup (Nat.ne_of_lt la)) (src_lst (Nat.ne_of_lt (Nat.lt_succ_of_lt lb))), ⟨hz, hI, ⟨_, _, hO⟩, ⟨_, g1, rfl, rfl⟩, ⟨_, g2, rfl, rfl⟩⟩, fresh_cells J, q⟩
    · intro c hc
      rw [List.mem_singleton.mp hc]
      exact la
    · intro c hc
      rw [List.mem_singleton.mp hc]
      exact lb) hs hpl))⟩
theorem pi_zipS {X : Cx} {e e2 : Expr} {ta : TA} {p pos tpos : Pos} {elts : List Expr} {kk : Nat} (hg : Gl X "zip") (hm : X.mg "zip" = none) (ha : PA X [e, e2] ta)
    (hs : starEach [e, e2] X.env = (false, eval e X.env) :: starEach [e2] X.env := by rfl) (hpl : (backTo pos (starEach [e2] X.env)).any (·.1) = false := by rfl) :
    PI X (.Tuple elts kk tpos) (.Call (.Name "zip" p) [e, e2] [] pos) (iZipSS ta) := ⟨fun pins s σ H R I h =>
  Call_ (ld_blt I hg hm PyProof.Rows.boot_zip (PyProof.Rows.callWith_type1 (thn (ha.run pos pins s σ H _ I h) fun us s1 ⟨vs, H1, J, rv, q⟩ => by
    obtain ⟨z, y, ev, q⟩ := q
    subst ev
    obtain ⟨u1, us1, e1, r1, rv1⟩ : ∃ u1 us1, us = u1 :: us1 ∧ RelV (.str z) u1 ∧ Vals [.str y] us1 := by
      cases rv with
      | cons r rr => exact ⟨_, _, rfl, r, rr⟩
    obtain ⟨u2, e2', r2⟩ := vals1 rv1
    subst e1 e2'
    obtain ⟨t1, r1⟩ := r1
    obtain ⟨t2, r2⟩ := r2
    subst r1 r2
    refine zip_begins2 (begins_text z t1) (begins_text y t2) trivial trivial fun h' hz hI hO g1 g2 hsz hk => wpAny_pyIter_zip hz ?_
    refine ⟨s1.heap.objs.size + 4, _, _, _, H1, rfl, J.kept (t' := s1.toks) hk, turn_zipC (zip_sep2 (N := s1.heap.objs.size) (fp1 := []) (fp2 := []) (by simp) (by simp)) (src_str (z := z) (t := t1)) (src_str (z := y) (t := t2)), ⟨hz, hI, ⟨_, _, hO⟩, ⟨_, g1, rfl, rfl⟩, ⟨_, g2, rfl, rfl⟩⟩, fresh_cells J, q⟩) hs hpl))⟩
/-- a for over such a zip: n turns -/
theorem for_zipC {C1 C2 : Hp → List V → Prop} {xs ys : List V} {n : Nat} (hn : n = min xs.length ys.length) {g : TG} {tb : TS} {D : Ends} {σ : L2.St} {H : Hp} (Pv : Nat → L2.St → Hp → Prop) (h0 : Pv 0 σ H) (hC : ∀ i σ H, Pv i σ H → C1 H xs ∧ C2 H ys)
    (hs : ∀ (i : Nat) (x y : V) (T : Addr) (σ : L2.St) (H : Hp), xs[i]? = some x → ys[i]? = some y → Pv i σ H → H T = none → g (.ref T) σ (upd H T (.tup [x, y])) fun σ2 H2 => tb { D with nx := Pv (i + 1), ct := Pv (i + 1), bk := D.nx } σ2 H2)
    (hd : ∀ σ H, Pv n σ H → D.nx σ H) : ForB (ItzC C1 C2) g tb D σ H := by
  refine ⟨fun i m σ H => m = n - i ∧ i ≤ n ∧ Pv i σ H, ⟨n, rfl, Nat.zero_le _, h0⟩, fun i m σ H hW => ?_⟩
  obtain ⟨hm, hi, pv⟩ := hW
  obtain ⟨k1, k2⟩ := hC i σ H pv
  by_cases lt : i < n
  · have l1 : i < xs.length := by omega
    have l2 : i < ys.length := by omega
    refine .inr ⟨⟨xs, ys, xs[i], ys[i], k1, k2, List.getElem?_eq_getElem l1, List.getElem?_eq_getElem l2⟩, Pv (i + 1), fun σ' H' p' => ⟨n - (i + 1), by omega, rfl, lt, p'⟩, fun v H' hy => ?_⟩
    obtain ⟨T, x, y, e1, e2, e3, g1, g2⟩ := hy
    subst e1 e3
    exact hs i x y T σ H (g1 xs k1) (g2 ys k2) pv e2
  · have e : i = n := by omega
    subst e
    exact .inl ⟨⟨xs, ys, k1, k2, by omega, by omega, by omega⟩, hd σ H pv⟩
section
variable {K : PySem.W.Frag} {σ : L2.St} {H : Hp} {tA : TA} {R : It → Hp → Prop}
theorem w_iZ (h : tA σ H fun vs H1 => ∃ a b xs ys, vs = [.ref a, .ref b] ∧ SqT K H1 a xs ∧ SqL K H1 b ys ∧ R (ItzC (fun H xs => SqT K H a xs) (fun H ys => SqL K H b ys)) H1) : iZipTL K tA σ H R := h
theorem w_iZ1 {a b : Addr} {xs ys : List V} {B : Addr → Addr → Prop} (h : SqT K H a xs) (h2 : SqL K H b ys) (q : B a b) : ∃ a' b' us vs, [V.ref a, V.ref b] = [.ref a', .ref b'] ∧ SqT K H a' us ∧ SqL K H b' vs ∧ B a' b' := ⟨a, b, xs, ys, rfl, h, h2, q⟩
theorem w_iS (h : tA σ H fun vs H1 => ∃ z u, vs = [.str z, .str u] ∧ R (ItzC (fun _ xs => xs = signs z) (fun _ ys => ys = signs u)) H1) : iZipSS tA σ H R := h
theorem w_iS1 {z u : Str} {B : Str → Str → Prop} (q : B z u) : ∃ a b, [V.str z, V.str u] = [.str a, .str b] ∧ B a b := ⟨z, u, rfl, q⟩
theorem w_gtup {t : TGs} {a : Addr} {xs : List V} {n : Nat} {Rs : L2.St → Hp → Prop} (h : SqT K H a xs) (hn : xs.length = n) (q : t xs σ H Rs) : gTup K n t (.ref a) σ H Rs := ⟨a, xs, rfl, h, hn, q⟩
theorem w_gcons {t : TG} {u : TGs} {v : V} {r : List V} {Rs : L2.St → Hp → Prop} (q : t v σ H fun σ' H' => u r σ' H' Rs) : gCons t u (v :: r) σ H Rs := ⟨v, r, rfl, q⟩
theorem w_gnil {Rs : L2.St → Hp → Prop} (q : Rs σ H) : gNil [] σ H Rs := ⟨rfl, q⟩
end
end Ly
set_option Elab.async false
set_option linter.all false
set_option maxRecDepth 100000
set_option maxHeartbeats 2000000
/-! for x in reversed(a text) -/
namespace Ly
open PySem PySem.Spec PyProof.Rows L2 Evl
theorem sNoRev : typeLookup (.type "str") "__reversed__" = pure none := by
  rw [typeLookup_type, builtinLookup_eq_fast]
  kernel_rfl
theorem sGet : typeLookup (.type "str") "__getitem__" = pure (some (.builtin "str.__getitem__")) := by
  rw [typeLookup_type, builtinLookup_eq_fast]
  kernel_rfl
/-- the walker at it: what it walks over, the place that comes next -/
def RevAt (h : Heap) (it : Addr) (z : Str) (t : Tok) (i : Int) : Prop := ∃ o, h.get? it = some o ∧ o.cls = .type "reversed" ∧ o.data = .fields #[.str z t, rawInt i]
theorem RevAt.kind {s : Shared} {it : Addr} {z : Str} {t : Tok} {i : Int} (r : RevAt s.heap it z t i) : s.TypeIs (.ref it) "reversed" := by
  obtain ⟨o, e, c, _⟩ := r
  exact ⟨o, e, c⟩
section
variable {prog : Program} {w : World} {A : Around} {E : Value → Shared → Prop} {s : Shared} {z : Str} {t : Tok}
theorem rev_make {Q : Value → Shared → Prop} (hz : z.length ≤ sizeLine)
    (q : Q (.ref s.heap.objs.size) { s with heap := s.heap.push { cls := .type "reversed", data := .fields #[.str z t, rawInt ((z.length : Int) - 1)] }, toks := s.toks + 1 + 1 }) : wpAny (model prog w) A (call (.type "reversed") [.str z t]) Q E s := by
  have hT := typeIs_str s z t
  have l63 := line63
  refine callType_codes (Q₁ := fun v s1 => s1.TypeIs v "reversed" ∧ Q v s1) RT.called_rt (F.typeCall_reversed_1 _) F.entry_object_init (codeAny_of_tree ?_) fun v s1 h1 => ⟨h1.1, F.args_object_init_2 v _, object_init_meets RT.called_rt.init.lookup RT.called_rt.made (by decide) prog w A.in1 _ s1 ⟨h1.1, rfl, h1.2⟩⟩
  show wpAny _ A.in1.in1 (do checkBuiltinCall "reversed.__new__" ⟨[.type "reversed", .str z t], []⟩; again (.builtin "reversed.__new__" ⟨[.type "reversed", .str z t], []⟩)) _ _ s
  (refine wpAny_bind (wpAny_of_eq (F.newCall_reversed_1 _) (wpAny_pure ⟨plainId_quiet F.plain_reversed_new _, codeAny_builtin F.entry_reversed_new ?_⟩)); try dsimp only)
  rw [Around.under_plainId F.plain_reversed_new _]
  delta Builtin.«reversed.__new__»
  (refine wpAny_bind (wpAny_of_eq (newClass_reversed _) ?_); try dsimp only)
  (refine wpAny_bind (wpAny_of_eq (a := ()) rfl ?_); try dsimp only)
  (refine wpAny_bind (wpAny_of_eq (a := ()) rfl ?_); try dsimp only)
  (refine wpAny_bind (wpAny_specialOf hT sNoRev ?_); try dsimp only)
  refine wpAny_bind ?_
  wp_delta
  (refine wpAny_bind (wpAny_isInstance (T := "str") (U := "dict") (b := false) hT F.sub_str_dict ?_); try dsimp only)
  try rw [if_neg Bool.false_ne_true]
  try dsimp only
  (refine wpAny_bind (wpAny_specialOf hT sGet ?_); try dsimp only)
  try rw [if_pos (by decide +kernel)]
  refine wpAny_pure ?_
  try dsimp only
  try rw [if_neg (by decide)]
  try dsimp only
  refine wpAny_bind (P.len_str (by omega) ?_)
  (refine wpAny_bind (wpAny_of_eq (a := some ((z.length : Nat) : Int)) rfl ?_); try dsimp only)
  refine wpAny_bind ?_
  show wpAny _ _ (newObj (.type "reversed") (.fields #[.str z t, rawInt ((z.length : Int) - 1)])) _ _ _
  exact wpAny_newObj_type (wpAny_pure ⟨⟨_, Heap.get?_push_size _ rfl, rfl⟩, q⟩)
theorem rev_self {it : Addr} {i : Int} {Q : Value → Shared → Prop} (r : RevAt s.heap it z t i) (q : Q (.ref it) s) : wpAny (model prog w) A (pyIter (.ref it)) Q E s :=
  wpAny_pyIter_slot r.kind RT.slot_rt_iter (wpAny_call_entry RT.slot_rt_iter r.kind RT.entry_rt_iter (show wpAny _ _ (ret (.ref it)) _ _ s from wpAny_pure ⟨_, rfl, "reversed", _, r.kind, RT.slot_rt_next.lookup, q⟩) (RT.args_rt_iter _))
theorem rev_item {it : Addr} {i c : Nat} {Q : Option Value → Shared → Prop} (r : RevAt s.heap it z t (i : Int)) (hc : z.cps[i]? = some c) (hz : z.length ≤ sizeLine)
    (q : ∀ h', RevAt h' it z t ((i : Int) - 1) → Heap.SameBut it s.heap h' → Q (some (.str ⟨#[c]⟩ (s.toks + 1))) { s with heap := h', toks := s.toks + 1 + 1 }) : wpAny (model prog w) A (pyNext (.ref it)) Q E s := by
  have r0 := r
  obtain ⟨o, e, hcl, d⟩ := r
  have l63 := line63
  have hi : i < z.cps.size := (Array.getElem?_eq_some_iff.mp hc).1
  have hT := typeIs_str s z t
  have hl : z.length = z.cps.size := rfl
  delta pyNext
  refine wpAny_bind (wpAny_attempt (wpAny_callSpecial?_slot r0.kind RT.slot_rt_next (wpAny_call_entry RT.slot_rt_next r0.kind RT.entry_rt_next ?_ (RT.args_rt_next _))))
  delta Builtin.«reversed.__next__»
  (refine wpAny_bind (wpAny_of_eq (a := (Value.ref it, [])) rfl ?_); try dsimp only)
  (refine wpAny_bind (wpAny_field e d (x := .str z t) rfl ?_); try dsimp only)
  (refine wpAny_bind (wpAny_field e d (x := rawInt (i : Int)) rfl ?_); try dsimp only)
  show wpAny _ _ (if (i : Int) < 0 then _ else _) _ _ s
  rw [if_neg (by omega)]
  try dsimp only
  (refine wpAny_bind (wpAny_specialOf hT sGet ?_); try dsimp only)
  try rw [if_neg (by decide)]
  try dsimp only
  refine wpAny_bind (wpAny_mkInt ?_)
  refine wpAny_bind (wpAny_attempt ?_)
  have at1 : seqIndex? (i : Int) z.length = some i := seqIndex_of (by omega) (by omega)
  refine P.getItem_str (c := c) (by rw [decide_eq_false (show ¬ (i : Int) < -(2 ^ 63) by omega), decide_eq_false (show ¬ (i : Int) ≥ 2 ^ 63 by omega)]; rfl) (by rw [at1]; exact hc) ?_
  try dsimp only
  (refine wpAny_bind (wpAny_field (s := { s with toks := s.toks + 1 + 1 }) e d (x := rawInt (i : Int)) rfl ?_); try dsimp only)
  (refine wpAny_bind (wpAny_setField (s := { s with toks := s.toks + 1 + 1 }) e d (by simp) ?_); try dsimp only)
  have fin : RevAt (s.heap.update it (Obj.mapFields (·.setIfInBounds 1 (rawInt ((i : Int) - 1))))) it z t ((i : Int) - 1) :=
    ⟨_, Heap.get?_update_self _ e (Obj.isFreed_of_fields (Obj.data_mapFields d _)), (Obj.cls_mapFields ..).trans hcl, by rw [Obj.data_mapFields d]; simp⟩
  first
  | exact wpAny_pure ⟨_, rfl, wpAny_pure (q _ fin (Heap.SameBut.update ..))⟩
  | exact wpAny_bind (wpAny_pure (wpAny_pure ⟨_, rfl, wpAny_pure (q _ fin (Heap.SameBut.update ..))⟩))
/-- the exception that ends an iteration, when none is handled: two new objects, no more -/
theorem stop_made {α : Type} {Q : α → Shared → Prop} (hh : A.handled = none) (q : ∀ (h' : Heap) (e : Addr), (∀ b ob, s.heap.get? b = some ob → h'.get? b = some ob) → Shared.TypeIs { s with heap := h' } (.ref e) "StopIteration" → E (.ref e) { s with heap := h' }) :
    wpAny (model prog w) A (Builtin.SmallTypes.stopIteration : Sem α) Q E s := by
  delta Builtin.SmallTypes.stopIteration
  refine wpAny_bind ?_
  simp only [newExc, newTuple, raiseNew]
  (refine wpAny_bind (wpAny_newObj_type ?_ (by size_fits)); try dsimp only)
  (refine wpAny_bind (wpAny_of_eq (a := Value.none) rfl ?_); try dsimp only)
  refine wpAny_newObj_type (wpAny_bind (wpAny_handled ?_)) (by size_fits)
  rw [hh]
  exact wpAny_bind (wpAny_pure (wpAny_throw (q _ _ (fun b ob k => Heap.get?_push_of_some _ (Heap.get?_push_of_some _ k)) ⟨_, Heap.get?_push_size _ rfl, rfl⟩)))
theorem rev_end {it : Addr} {Q : Option Value → Shared → Prop} (hh : A.handled = none) (r : RevAt s.heap it z t (-1)) (q : ∀ h', Heap.ExtBut it s.heap h' → Q none { s with heap := h' }) : wpAny (model prog w) A (pyNext (.ref it)) Q E s := by
  have r0 := r
  obtain ⟨o, e, hcl, d⟩ := r
  delta pyNext
  refine wpAny_bind (wpAny_attempt (wpAny_callSpecial?_slot r0.kind RT.slot_rt_next (wpAny_call_entry RT.slot_rt_next r0.kind RT.entry_rt_next ?_ (RT.args_rt_next _))))
  delta Builtin.«reversed.__next__»
  (refine wpAny_bind (wpAny_of_eq (a := (Value.ref it, [])) rfl ?_); try dsimp only)
  (refine wpAny_bind (wpAny_field e d (x := .str z t) rfl ?_); try dsimp only)
  (refine wpAny_bind (wpAny_field e d (x := rawInt (-1)) rfl ?_); try dsimp only)
  show wpAny _ _ (if (-1 : Int) < 0 then _ else _) _ _ s
  rw [if_pos (by decide)]
  try dsimp only
  (refine wpAny_bind (wpAny_rule ?_); try dsimp only)
  refine wpAny_bind ?_
  wp_delta
  refine wpAny_bind (wpAny_setField e d (by simp) ?_)
  have e2 := Heap.get?_update_self (Obj.mapFields (·.setIfInBounds 1 (rawInt (-1)))) e (Obj.isFreed_of_fields (Obj.data_mapFields d _))
  refine wpAny_setField (s := { s with heap := s.heap.update it (Obj.mapFields (·.setIfInBounds 1 (rawInt (-1)))) }) e2 (Obj.data_mapFields d _) (by simp) ?_
  try dsimp only
  refine wpAny_bind (stop_made (A := A.in1) hh fun h' x k te => ?_)
  refine wpAny_bind (wpAny_isInstance te isSubtype_stop (wpAny_pure (q h' fun b ob hb kb => k b ob ?_)))
  exact (Heap.get?_update_other _ _ hb.symm).trans ((Heap.get?_update_other _ _ hb.symm).trans kb)
end
/-- the turns: the signs from the last to the first -/
def ItvS (z : Str) : It := ⟨fun i _ => i < z.cps.size, fun i H v H' => H' = H ∧ ∃ c, z.cps[z.cps.size - 1 - i]? = some c ∧ v = .str ⟨#[c]⟩, fun i _ => z.cps.size ≤ i⟩
theorem turn_revS {P : Program} {w : World} {K : PySem.W.Frag} {tg : Expr} {z : Str} {t : Tok} {it : Addr} (hz : z.length ≤ sizeLine) : Turn P w K tg (ItvS z) [it] it (fun i h => i ≤ z.cps.size ∧ RevAt h it z t ((z.cps.size : Int) - 1 - (i : Nat))) where
  mem := List.mem_cons_self
  obj := fun i h ⟨_, o, e, _, d⟩ b hb => by
    rw [List.mem_singleton.mp hb]
    exact ⟨o, e, fun v q => by rw [d] at q; cases q⟩
  keep := fun i h h' ⟨l, o, e, r⟩ k => ⟨l, o, k it List.mem_cons_self _ e, r⟩
  item := fun X hP hw hK hc i pins s σ H E I hf ⟨_, st⟩ hg => by
    subst hP hw hK
    have lt : i < z.cps.size := hg
    obtain ⟨g0, g1, g2, g3, g4, g5⟩ := hf it List.mem_cons_self
    have ix : (z.cps.size : Int) - 1 - (i : Nat) = ((z.cps.size - 1 - i : Nat) : Int) := by omega
    rw [ix] at st
    obtain ⟨c, ec⟩ : ∃ c, z.cps[z.cps.size - 1 - i]? = some c := ⟨_, Array.getElem?_eq_getElem (by omega)⟩
    refine rev_item st ec hz fun h' st' sb => ?_
    have ix2 : ((z.cps.size - 1 - i : Nat) : Int) - 1 = (z.cps.size : Int) - 1 - ((i + 1 : Nat) : Int) := by omega
    rw [ix2] at st'
    have J : Inv X pins σ H { s with heap := h', toks := s.toks + 1 + 1 } := I.turned (fun b o hb k => (sb.2 b hb).trans k) g0 g1 g3 g4 g5
    have st2 := st'
    obtain ⟨o, eo, co, d⟩ := st2
    exact ⟨_, rfl, go_of (s := { s with heap := h', toks := s.toks + 1 + 1 }) eo co d (by decide) ⟨.str ⟨#[c]⟩, H, J, ⟨_, rfl⟩, ⟨rfl, c, ec, rfl⟩, ⟨lt, st'⟩, fun b hb => (hf b hb).1⟩⟩
  done := fun X hP hw hK hc i pins s σ H E I hf ⟨_, st⟩ hg => by
    subst hP hw hK
    have ge : z.cps.size ≤ i := hg
    obtain ⟨g0, g1, g2, g3, g4, g5⟩ := hf it List.mem_cons_self
    have ix : (z.cps.size : Int) - 1 - (i : Nat) = -1 := by omega
    rw [ix] at st
    exact rev_end (I.ok.hd hc) st fun h' k => ⟨rfl, I.turned (t' := s.toks) (fun b o hb e => k b o hb e) g0 g1 g3 g4 g5⟩
  self := fun A i s Q E st q => rev_self st.2 q
def iRevS (te : TE) : TI := fun σ H R => te σ H fun v H1 => ∃ z, v = .str z ∧ z.length ≤ sizeLine ∧ R (ItvS z) H1
theorem pi_revS {X : Cx} {tg e : Expr} {te : TE} {p pos : Pos} (hg : Gl X "reversed") (hm : X.mg "reversed" = none) (he : PE X e te) (hs : starEach [e] X.env = (false, eval e X.env) :: starEach [] X.env := by rfl) :
    PI X tg (.Call (.Name "reversed" p) [e] [] pos) (iRevS te) := ⟨fun pins s σ H R I h =>
  Call_ (ld_blt I hg hm PyProof.Rows.boot_reversed (PyProof.Rows.callWith_type1 (args_cons (thn (he.run pins s σ H _ I h) fun u s1 ⟨v, H1, J, rv, z, ev, hz, q⟩ => args_nil (by
    subst ev
    obtain ⟨t, rfl⟩ := rv
    refine rev_make hz (rev_self (z := z) (t := t) (i := (z.length : Int) - 1) ⟨_, Heap.get?_push_size _ rfl, rfl, rfl⟩ ?_)
    refine pi_one (tk := s1.toks + 1 + 1) J _ (turn_revS (t := t) hz) ⟨Nat.zero_le _, ?_⟩ q
    have ix : (z.cps.size : Int) - 1 - ((0 : Nat) : Int) = (z.length : Int) - 1 := by
      show _ = (z.cps.size : Int) - 1
      omega
    rw [ix]
    exact ⟨_, Heap.get?_push_size _ rfl, rfl, rfl⟩)) hs) hs rfl))⟩
theorem for_revS {z : Str} {g : TG} {tb : TS} {D : Ends} {σ : L2.St} {H : Hp} (Pv : Nat → L2.St → Hp → Prop) (h0 : Pv 0 σ H)
    (hs : ∀ i c σ H, z.cps[z.cps.size - 1 - i]? = some c → i < z.cps.size → Pv i σ H → g (.str ⟨#[c]⟩) σ H fun σ2 H2 => tb { D with nx := Pv (i + 1), ct := Pv (i + 1), bk := D.nx } σ2 H2) (hd : ∀ σ H, Pv z.cps.size σ H → D.nx σ H) : ForB (ItvS z) g tb D σ H := by
  refine ⟨fun i m σ H => m = z.cps.size - i ∧ i ≤ z.cps.size ∧ Pv i σ H, ⟨_, rfl, Nat.zero_le _, h0⟩, ?_⟩
  rintro i m σ H ⟨rfl, hi, p⟩
  by_cases hlt : i < z.cps.size
  · refine .inr ⟨hlt, Pv (i + 1), fun σ' H' p' => ⟨z.cps.size - (i + 1), by omega, rfl, hlt, p'⟩, fun x H' y => ?_⟩
    obtain ⟨e, c, hc, ex⟩ := y
    subst e ex
    exact hs i c σ _ hc hlt p
  · have e : i = z.cps.size := by omega
    subst e
    exact .inl ⟨Nat.le_refl _, hd σ H p⟩
end Ly
set_option Elab.async false
set_option linter.all false
set_option maxRecDepth 100000
set_option maxHeartbeats 2000000
/-! Ly: terms, places, parts, lifting, putting (no text's own) -/
namespace Ly
open PySem PySem.Spec PyProof.Rows L2 Evl
abbrev nums (ds : List Nat) : List V := ds.map fun (d : Nat) => V.int d
/-! ### lifting -/
def lif (c d n : Nat) : Nat := if d ≤ n then n + c else n
theorem Tm.vmap_vmap (g h : Nat → Nat → Nat) : ∀ (t : Tm) (d : Nat), (t.vmap g d).vmap h d = t.vmap (fun d n => h d (g d n)) d
  | .var _, _ => rfl
  | .lam b, d => by simp [Tm.vmap, Tm.vmap_vmap g h b]
  | .app f a, d => by simp [Tm.vmap, Tm.vmap_vmap g h f, Tm.vmap_vmap g h a]
theorem Tm.vmap_id {g : Nat → Nat → Nat} (hg : ∀ d n, g d n = n) : ∀ (t : Tm) (d : Nat), t.vmap g d = t
  | .var _, _ => by simp [Tm.vmap, hg]
  | .lam b, d => by simp [Tm.vmap, Tm.vmap_id hg b]
  | .app f a, d => by simp [Tm.vmap, Tm.vmap_id hg f, Tm.vmap_id hg a]
theorem Tm.vmap_len (g : Nat → Nat → Nat) (t : Tm) (d : Nat) : (t.vmap g d).enc.length = t.enc.length := by
  rw [← Tm.deps_len _ d, Tm.deps_vmap, Tm.deps_len]
theorem lif_lif (c m : Nat) : (fun d n => lif m d (lif c d n)) = lif (c + m) := by
  funext d n
  by_cases h : d ≤ n
  · have e1 : lif c d n = n + c := if_pos h
    have e2 : lif m d (n + c) = n + c + m := if_pos (by omega)
    have e3 : lif (c + m) d n = n + (c + m) := if_pos h
    rw [e1, e2, e3]
    omega
  · have e1 : ∀ k, lif k d n = n := fun k => if_neg h
    rw [e1, e1, e1]
theorem Tm.lif_lif (c m : Nat) (t : Tm) (d : Nat) : (t.vmap (lif c) d).vmap (lif m) d = t.vmap (lif (c + m)) d := by
  rw [Tm.vmap_vmap, Ly.lif_lif]
theorem Tm.lif_zero (t : Tm) (d : Nat) : t.vmap (lif 0) d = t := Tm.vmap_id (fun d n => by simp [lif]) t d
theorem nums_at {ds : List Nat} {i : Nat} {y : V} (h : (nums ds)[i]? = some y) : ∃ d, ds[i]? = some d ∧ y = .int (d : Int) := by
  rw [List.getElem?_map] at h
  cases e : ds[i]? with
  | none => rw [e] at h; cases h
  | some d => rw [e] at h; exact ⟨d, rfl, (Option.some.inj h).symm⟩
/-! ### putting -/
def Tm.put (u : Tm) : Nat → Tm → Tm
  | d, .var n => if n < d then .var n else if n = d then u.vmap (lif d) 0 else .var (n - 1)
  | d, .lam b => .lam (Tm.put u (d + 1) b)
  | d, .app f a => .app (Tm.put u d f) (Tm.put u d a)
def pvs (u : Tm) (v : V) (d : Nat) : List V := match v with
  | .int n => (Tm.put u d (.var n.toNat)).enc
  | v => [v]
theorem Tm.enc_put (u : Tm) : ∀ (t : Tm) (d : Nat), (Tm.put u d t).enc = (List.zipWith (pvs u) t.enc (t.deps d)).flatten
  | .var n, d => by simp [Tm.deps, Tm.enc, pvs]
  | .lam b, d => by simp [Tm.put, Tm.deps, Tm.enc, Tm.enc_put u b, pvs]
  | .app f a, d => by
    have hl : f.enc.length = (f.deps d).length := (Tm.deps_len f d).symm
    simp only [Tm.put, Tm.deps, Tm.enc, List.zipWith_cons_cons, Tm.enc_put u f, Tm.enc_put u a, List.zipWith_append hl, List.flatten_cons, List.flatten_append]
    rfl
theorem pvs_low {u : Tm} {n d : Nat} (h : n < d) : pvs u (.int n) d = [.int n] := by
  simp only [pvs, Tm.put, Int.toNat_natCast]
  rw [if_pos h]
  rfl
theorem pvs_at {u : Tm} {d : Nat} : pvs u (.int (d : Int)) d = (u.vmap (lif d) 0).enc := by
  simp only [pvs, Tm.put, Int.toNat_natCast]
  rw [if_neg (Nat.lt_irrefl d)]
  rfl
theorem pvs_high {u : Tm} {n d : Nat} (h : d < n) : pvs u (.int n) d = [.int ((n : Int) - 1)] := by
  simp only [pvs, Tm.put, Int.toNat_natCast]
  rw [if_neg (by omega), if_neg (by omega)]
  have e : ((n - 1 : Nat) : Int) = (n : Int) - 1 := by omega
  show [V.int ((n - 1 : Nat) : Int)] = _
  rw [e]
theorem pvs_len (u : Tm) (v : V) (d : Nat) : (pvs u v d).length ≤ u.enc.length := by
  have pos := List.length_pos_iff.mpr u.enc_ne
  unfold pvs
  split
  · simp only [Tm.put]
    split
    · exact pos
    · split
      · rw [Tm.vmap_len]
        exact Nat.le_refl _
      · exact pos
  · exact pos
theorem flat_len {α : Type} {M : Nat} : ∀ {xs : List (List α)}, (∀ x ∈ xs, x.length ≤ M) → xs.flatten.length ≤ xs.length * M
  | [], _ => by simp
  | x :: xs, h => by
    have h1 := h x List.mem_cons_self
    have h2 := flat_len (xs := xs) fun y hy => h y (List.mem_cons_of_mem _ hy)
    simp only [List.flatten_cons, List.length_append, List.length_cons, Nat.succ_mul]
    omega
theorem zip_mem_len {u : Tm} : ∀ {xs : List V} {ds : List Nat}, ∀ x ∈ List.zipWith (pvs u) xs ds, x.length ≤ u.enc.length
  | [], _, x, h => by simp at h
  | _ :: _, [], x, h => by simp at h
  | a :: xs, d :: ds, x, h => by
    rw [List.zipWith_cons_cons] at h
    rcases List.mem_cons.mp h with e | h
    · rw [e]
      exact pvs_len u a d
    · exact zip_mem_len x h
theorem pre_len {u : Tm} {xs : List V} {ds : List Nat} (i : Nat) : ((List.zipWith (pvs u) xs ds).take i).flatten.length ≤ i * u.enc.length := by
  refine Nat.le_trans (flat_len fun x hx => zip_mem_len x (List.mem_of_mem_take hx)) (Nat.mul_le_mul_right _ ?_)
  rw [List.length_take]
  omega
theorem flat_take_le {α : Type} (xs : List (List α)) (i : Nat) : (xs.take i).flatten.length ≤ xs.flatten.length := by
  have e : xs.flatten = (xs.take i).flatten ++ (xs.drop i).flatten := by rw [← List.flatten_append, List.take_append_drop]
  rw [e, List.length_append]
  omega
theorem Tm.put_len (u t : Tm) (d : Nat) : (Tm.put u d t).enc.length ≤ t.enc.length * u.enc.length := by
  rw [Tm.enc_put]
  refine Nat.le_trans (flat_len zip_mem_len) (Nat.mul_le_mul_right _ ?_)
  rw [List.length_zipWith]
  omega
/-! ### putting and lifting: how they pass each other -/
theorem Tm.lif_then (j k : Nat) : ∀ (v : Tm) (d : Nat), (v.vmap (lif j) d).vmap (lif k) (d + j) = v.vmap (lif (j + k)) d
  | .var n, d => by
    simp only [Tm.vmap, lif]
    congr 1
    split <;> split <;> omega
  | .lam b, d => by
    have h := Tm.lif_then j k b (d + 1)
    simp only [Tm.vmap]
    rw [show d + j + 1 = d + 1 + j by omega, h]
  | .app f a, d => by simp only [Tm.vmap, Tm.lif_then j k f, Tm.lif_then j k a]
theorem Tm.put_lif (w : Tm) (k : Nat) : ∀ (v : Tm) (j : Nat), Tm.put w (j + k) (v.vmap (lif (k + 1)) j) = v.vmap (lif k) j
  | .var n, j => by
    simp only [Tm.vmap, lif]
    by_cases h : j ≤ n
    · rw [if_pos h, if_pos h]
      simp only [Tm.put]
      rw [if_neg (by omega), if_neg (by omega)]
      congr 1
    · rw [if_neg h, if_neg h]
      simp only [Tm.put]
      rw [if_pos (by omega)]
  | .lam b, j => by
    have h := Tm.put_lif w k b (j + 1)
    simp only [Tm.vmap, Tm.put]
    rw [show j + k + 1 = j + 1 + k by omega, h]
  | .app f a, j => by simp only [Tm.vmap, Tm.put, Tm.put_lif w k f, Tm.put_lif w k a]
theorem Tm.put_lift (w t : Tm) : Tm.put w 0 (t.vmap (lif 1) 0) = t := by
  have h := Tm.put_lif w 0 t 0
  rw [Tm.lif_zero] at h
  exact h
theorem Tm.put_up (v : Tm) (k : Nat) : ∀ (u : Tm) (j : Nat), Tm.put v (j + k) (u.vmap (lif k) j) = (Tm.put v j u).vmap (lif k) j
  | .var n, j => by
    simp only [Tm.vmap, lif]
    rcases Nat.lt_trichotomy n j with h | h | h
    · rw [if_neg (by omega)]
      simp only [Tm.put]
      rw [if_pos (by omega), if_pos h]
      simp only [Tm.vmap, lif]
      rw [if_neg (by omega)]
    · subst h
      rw [if_pos (Nat.le_refl n)]
      simp only [Tm.put]
      rw [if_neg (by omega), if_pos trivial, if_neg (by omega), if_pos trivial]
      have e := Tm.lif_then n k v 0
      rw [Nat.zero_add] at e
      exact e.symm
    · rw [if_pos (by omega)]
      simp only [Tm.put]
      rw [if_neg (by omega), if_neg (by omega), if_neg (by omega), if_neg (by omega)]
      simp only [Tm.vmap, lif]
      rw [if_pos (by omega)]
      congr 1
      omega
  | .lam b, j => by
    have h := Tm.put_up v k b (j + 1)
    simp only [Tm.vmap, Tm.put]
    rw [show j + k + 1 = j + 1 + k by omega, h]
  | .app f a, j => by simp only [Tm.vmap, Tm.put, Tm.put_up v k f, Tm.put_up v k a]
/-- putting u, then v, is putting v below one abstraction, then u with v put into it -/
theorem Tm.put_put (u v : Tm) : ∀ (t : Tm) (k : Nat), Tm.put v k (Tm.put u k t) = Tm.put (Tm.put v 0 u) k (Tm.put v (k + 1) t)
  | .var n, k => by
    rcases Nat.lt_trichotomy n k with h | h | h
    · simp only [Tm.put]
      rw [if_pos h, if_pos (by omega)]
      simp only [Tm.put]
      rw [if_pos h, if_pos h]
    · subst h
      simp only [Tm.put]
      rw [if_neg (by omega), if_pos trivial, if_pos (by omega)]
      simp only [Tm.put]
      rw [if_neg (by omega), if_pos trivial]
      have e := Tm.put_up v n u 0
      rw [Nat.zero_add] at e
      exact e
    · by_cases h2 : n = k + 1
      · subst h2
        simp only [Tm.put]
        rw [if_neg (by omega), if_neg (by omega), if_neg (by omega), if_pos trivial]
        simp only [Tm.put]
        rw [if_neg (by omega), if_pos (by omega)]
        have e := Tm.put_lif (Tm.put v 0 u) k v 0
        rw [Nat.zero_add] at e
        rw [e]
      · simp only [Tm.put]
        rw [if_neg (by omega), if_neg (by omega), if_neg (by omega), if_neg (by omega)]
        simp only [Tm.put]
        rw [if_neg (by omega), if_neg (by omega), if_neg (by omega), if_neg (by omega)]
  | .lam b, k => by simp only [Tm.put, Tm.put_put u v b]
  | .app f a, k => by simp only [Tm.put, Tm.put_put u v f, Tm.put_put u v a]
theorem Tm.put_size (u : Tm) : ∀ (t : Tm) (d : Nat), 2 * (Tm.put u d t).enc.length ≤ 2 * t.enc.length + (t.enc.length + 1) * (u.enc.length - 1)
  | .var n, d => by
    have pos := List.length_pos_iff.mpr u.enc_ne
    simp only [Tm.put]
    split
    · simp [Tm.enc]
    · split
      · rw [Tm.vmap_len]
        simp only [Tm.enc, List.length_cons, List.length_nil]
        omega
      · simp [Tm.enc]
  | .lam b, d => by
    have h := Tm.put_size u b (d + 1)
    simp only [Tm.put, Tm.enc, List.length_cons]
    generalize u.enc.length - 1 = k at *
    rw [Nat.add_mul, Nat.add_mul]
    rw [Nat.add_mul] at h
    omega
  | .app f a, d => by
    have h1 := Tm.put_size u f d
    have h2 := Tm.put_size u a d
    simp only [Tm.put, Tm.enc, List.length_cons, List.length_append]
    generalize u.enc.length - 1 = k at *
    rw [Nat.add_mul] at h1 h2
    rw [Nat.add_mul, Nat.add_mul, Nat.add_mul]
    omega
theorem Tm.vars_lif {N c : Nat} : ∀ {u : Tm} {d : Nat}, u.vars N → (u.vmap (lif c) d).vars (N + c)
  | .var n, d, h => by
    have h : n ≤ N := h
    show lif c d n ≤ N + c
    unfold lif
    split <;> omega
  | .lam b, d, h => Tm.vars_lif (u := b) h
  | .app f a, d, h => ⟨Tm.vars_lif (u := f) h.1, Tm.vars_lif (u := a) h.2⟩
theorem Tm.vars_put {u : Tm} {M N : Nat} (hu : u.vars N) : ∀ {t : Tm} {d : Nat}, t.vars M → (Tm.put u d t).vars (M + N + d + t.enc.length)
  | .var n, d, h => by
    have h : n ≤ M := h
    simp only [Tm.put]
    split
    · show n ≤ _
      omega
    · split
      · exact Tm.vars_mono (by omega) (Tm.vars_lif (c := d) hu)
      · show n - 1 ≤ _
        omega
  | .lam b, d, h => Tm.vars_mono (by simp only [Tm.enc, List.length_cons]; omega) (Tm.vars_put hu (t := b) (d := d + 1) h)
  | .app f a, d, h => ⟨Tm.vars_mono (by simp only [Tm.enc, List.length_cons, List.length_append]; omega) (Tm.vars_put hu (t := f) (d := d) h.1), Tm.vars_mono (by simp only [Tm.enc, List.length_cons, List.length_append]; omega) (Tm.vars_put hu (t := a) (d := d) h.2)⟩
theorem fits_of {t : Tm} (h : t.vars 1000000) (l : t.enc.length ≤ 1000) : fitsV t.enc = true := by
  unfold fitsV
  rw [ok_vars h, decide_eq_true l]
  rfl
theorem Tm.vars_ok : ∀ {t : Tm}, t.enc.all okV = true → t.vars 1000000
  | .var n, h => by
    have h : (decide ((n : Int) ≤ 1000000) && true) = true := h
    have h2 : (n : Int) ≤ 1000000 := by simpa using h
    show n ≤ 1000000
    omega
  | .lam b, h => by
    have h : (true && b.enc.all okV) = true := h
    exact Tm.vars_ok (t := b) (by simpa using h)
  | .app f a, h => by
    have h : (true && (f.enc ++ a.enc).all okV) = true := h
    rw [List.all_append] at h
    have h2 : f.enc.all okV = true ∧ a.enc.all okV = true := by simpa using h
    exact ⟨Tm.vars_ok h2.1, Tm.vars_ok h2.2⟩
theorem fits_term {t : Tm} (h : fitsV t.enc = true) : isTermV t.enc = true := by
  unfold fitsV at h
  rw [Bool.and_eq_true] at h
  unfold isTermV
  rw [h.1, scan_tm (Tm.vars_ok h.2)]
  rfl
/-! ### texts as lists of signs; places -/
def rAddZ : R2 := fun x y H Q => ∃ i j, x = .str i ∧ y = .str j ∧ i.length + j.length ≤ sizeLine ∧ Q (.str (i ++ j)) H
theorem op_addZ {X : Cx} : OpR X (binaryOp .Add) rAddZ := op_add_str
def rLenZ : List V → Hp → VK → Prop := fun xs H Q => ∃ z, xs = [.str z] ∧ z.length ≤ sizeLine ∧ Q (.int z.length) H
theorem call_lenZ {X : Cx} : CallR X (.builtin "len") rLenZ := call_len_str
def pl (p : List Nat) : Str := ⟨p.toArray⟩
theorem pl_cps (p : List Nat) : (pl p).cps = p.toArray := rfl
theorem pl_len (p : List Nat) : (pl p).length = p.length := by simp [pl, Str.length]
theorem pl_app (p q : List Nat) : pl p ++ pl q = pl (p ++ q) := by
  show Str.mk (p.toArray ++ q.toArray) = ⟨(p ++ q).toArray⟩
  simp
theorem pl_b : ("b" : Str) = pl [98] := by decide +kernel
theorem pl_f : ("f" : Str) = pl [102] := by decide +kernel
theorem pl_a : ("a" : Str) = pl [97] := by decide +kernel
theorem pl_e : ("" : Str) = pl [] := by decide +kernel
theorem pl_inj {p q : List Nat} (h : pl p = pl q) : p = q := by
  have e := congrArg Str.cps h
  simpa [pl] using e
theorem signs_pl (p : List Nat) : signs (pl p) = p.map fun c => V.str (pl [c]) := by simp [signs, pl]
abbrev plcs (ps : List (List Nat)) : List V := ps.map fun p => V.str (pl p)
section
variable {H : Hp} {Q : VK}
theorem w_addZ {p q : List Nat} (z : p.length + q.length ≤ 16000000) (h : Q (.str (pl (p ++ q))) H) : rAddZ (.str (pl p)) (.str (pl q)) H Q :=
  ⟨pl p, pl q, rfl, rfl, by rw [pl_len, pl_len]; exact ly_sz z, by rw [pl_app]; exact h⟩
theorem w_addZb {p : List Nat} (z : p.length ≤ 15000000) (h : Q (.str (pl (p ++ [98]))) H) : rAddZ (.str (pl p)) (.str "b") H Q := by
  rw [pl_b]
  exact w_addZ (by simp; omega) h
theorem w_addZf {p : List Nat} (z : p.length ≤ 15000000) (h : Q (.str (pl (p ++ [102]))) H) : rAddZ (.str (pl p)) (.str "f") H Q := by
  rw [pl_f]
  exact w_addZ (by simp; omega) h
theorem w_addZa {p : List Nat} (z : p.length ≤ 15000000) (h : Q (.str (pl (p ++ [97]))) H) : rAddZ (.str (pl p)) (.str "a") H Q := by
  rw [pl_a]
  exact w_addZ (by simp; omega) h
theorem w_lenZ {p : List Nat} (z : p.length ≤ 16000000) (h : Q (.int p.length) H) : rLenZ [.str (pl p)] H Q :=
  ⟨pl p, rfl, by rw [pl_len]; exact ly_sz z, by rw [pl_len]; exact h⟩
end
/-- the letters' order: where they differ, the function comes first; else the shorter -/
def before : List Nat → List Nat → Bool
  | a :: x, b :: y => if a = b then before x y else decide (a = 102)
  | [], y => decide (0 < y.length)
  | _ :: _, [] => false
theorem before_self : ∀ x : List Nat, before x x = false
  | [] => rfl
  | a :: x => by simp [before, before_self x]
theorem before_app : ∀ (p x y : List Nat), before (p ++ x) (p ++ y) = before x y
  | [], _, _ => rfl
  | a :: p, x, y => by simp [before, before_app p x y]
def RB (x y : List Nat) : Prop := before x y = true ∧ before y x = false
theorem RB.app {p x y : List Nat} (h : RB x y) : RB (p ++ x) (p ++ y) := ⟨by rw [before_app]; exact h.1, by rw [before_app]; exact h.2⟩
theorem RB.longer {p s : List Nat} {c : Nat} : RB p (p ++ c :: s) := by
  have h : RB [] (c :: s) := ⟨by simp [before], rfl⟩
  have := RB.app (p := p) h
  rwa [List.append_nil] at this
theorem RB.fa {p s u : List Nat} : RB (p ++ 102 :: s) (p ++ 97 :: u) := RB.app ⟨rfl, rfl⟩
def Tm.pls : List Nat → Tm → List (List Nat)
  | p, .var _ => [p]
  | p, .lam b => p :: b.pls (p ++ [98])
  | p, .app f a => p :: (f.pls (p ++ [102]) ++ a.pls (p ++ [97]))
theorem Tm.pls_len : ∀ (t : Tm) (p : List Nat), (t.pls p).length = t.enc.length
  | .var _, _ => rfl
  | .lam b, p => by simp [Tm.pls, Tm.enc, Tm.pls_len b]
  | .app f a, p => by simp [Tm.pls, Tm.enc, Tm.pls_len f, Tm.pls_len a]
theorem Tm.pls_pre : ∀ (t : Tm) {p q : List Nat}, q ∈ t.pls p → ∃ s, q = p ++ s ∧ s.length < t.enc.length
  | .var _, p, q, h => ⟨[], by simpa [Tm.pls] using h, by simp [Tm.enc]⟩
  | .lam b, p, q, h => by
    rcases List.mem_cons.mp h with e | h
    · exact ⟨[], by simp [e], by simp [Tm.enc]⟩
    · obtain ⟨s, e, hl⟩ := Tm.pls_pre b h
      exact ⟨98 :: s, by rw [e]; simp, by simp [Tm.enc]; omega⟩
  | .app f a, p, q, h => by
    rcases List.mem_cons.mp h with e | h
    · exact ⟨[], by simp [e], by simp [Tm.enc]⟩
    · rcases List.mem_append.mp h with h | h
      · obtain ⟨s, e, hl⟩ := Tm.pls_pre f h
        exact ⟨102 :: s, by rw [e]; simp, by simp [Tm.enc]; omega⟩
      · obtain ⟨s, e, hl⟩ := Tm.pls_pre a h
        exact ⟨97 :: s, by rw [e]; simp, by simp [Tm.enc]; omega⟩
theorem Tm.pls_order : ∀ (t : Tm) (p : List Nat), (t.pls p).Pairwise RB
  | .var _, p => List.pairwise_singleton _ _
  | .lam b, p => List.pairwise_cons.mpr ⟨fun q h => by
      obtain ⟨s, e, _⟩ := Tm.pls_pre b h
      rw [e, List.append_assoc]
      exact RB.longer, Tm.pls_order b _⟩
  | .app f a, p => List.pairwise_cons.mpr ⟨fun q h => by
      rcases List.mem_append.mp h with h | h
      · obtain ⟨s, e, _⟩ := Tm.pls_pre f h
        rw [e, List.append_assoc]
        exact RB.longer
      · obtain ⟨s, e, _⟩ := Tm.pls_pre a h
        rw [e, List.append_assoc]
        exact RB.longer, List.pairwise_append.mpr ⟨Tm.pls_order f _, Tm.pls_order a _, fun x hx y hy => by
      obtain ⟨s, e, _⟩ := Tm.pls_pre f hx
      obtain ⟨u, e2, _⟩ := Tm.pls_pre a hy
      rw [e, e2, List.append_assoc, List.append_assoc]
      exact RB.fa⟩⟩
theorem before_at {qs : List (List Nat)} (h : qs.Pairwise RB) {i j : Nat} {x y : List Nat} (hx : qs[i]? = some x) (hy : qs[j]? = some y) : before x y = decide (i < j) := by
  obtain ⟨li, ei⟩ := List.getElem?_eq_some_iff.mp hx
  obtain ⟨lj, ej⟩ := List.getElem?_eq_some_iff.mp hy
  rcases Nat.lt_trichotomy i j with g | g | g
  · have := List.pairwise_iff_getElem.mp h i j li lj g
    rw [ei, ej] at this
    rw [this.1, decide_eq_true g]
  · subst g
    have e : x = y := by rw [← ei, ← ej]
    rw [e, before_self, decide_eq_false (by omega)]
  · have := List.pairwise_iff_getElem.mp h j i lj li g
    rw [ei, ej] at this
    rw [this.2, decide_eq_false (by omega)]
def plss : List Tm → List (List Nat) → List (List Nat)
  | t :: ts, d :: ds => t.pls d ++ plss ts ds
  | _, _ => []
/-- in the midst of a walk that finds the places: what is left are the terms ts, whose places wait (the last one first) -/
def PInv (t : Tm) (i : Nat) (found ds : List (List Nat)) : Prop := ∃ ts : List Tm, t.enc.drop i = encs ts ∧ ts.length = ds.length ∧ t.pls [] = found ++ plss ts ds.reverse
theorem PInv.start (t : Tm) : PInv t 0 [] [[]] := ⟨[t], by simp [encs], rfl, by simp [plss]⟩
theorem PInv.done {t : Tm} {found ds : List (List Nat)} (h : PInv t t.enc.length found ds) : found = t.pls [] := by
  obtain ⟨ts, h1, h2, h3⟩ := h
  rw [List.drop_length] at h1
  have e := encs_nil h1.symm
  subst e
  rw [h3]
  simp [plss]
theorem PInv.step {t : Tm} {i : Nat} {found ds : List (List Nat)} {v : V} (h : PInv t i found ds) (hv : t.enc[i]? = some v) : ∃ r d, ds = r ++ [d] ∧
    ((∃ n : Nat, v = .int n ∧ PInv t (i + 1) (found ++ [d]) r) ∨ (v = .str "lam" ∧ PInv t (i + 1) (found ++ [d]) (r ++ [d ++ [98]])) ∨ (v = .str "app" ∧ PInv t (i + 1) (found ++ [d]) (r ++ [d ++ [97]] ++ [d ++ [102]]))) := by
  obtain ⟨ts, h1, h2, h3⟩ := h
  rw [drop_at hv] at h1
  match ts, h1, h2, h3 with
  | [], h1, _, _ => cases h1
  | t1 :: r1, h1, h2, h3 =>
    have hne : ds ≠ [] := fun e => by
      rw [e] at h2
      cases h2
    refine ⟨ds.dropLast, ds.getLast hne, (List.dropLast_concat_getLast hne).symm, ?_⟩
    generalize hr : ds.dropLast = r at *
    generalize hd : ds.getLast hne = d at *
    have hds : ds = r ++ [d] := by rw [← hr, ← hd]; exact (List.dropLast_concat_getLast hne).symm
    subst hds
    rw [List.reverse_append] at h3
    have h3 : t.pls [] = found ++ (t1.pls d ++ plss r1 r.reverse) := h3
    have hl : r1.length = r.length := by simpa using h2
    rw [encs_cons] at h1
    cases t1 with
    | var n =>
      have h1 : v :: t.enc.drop (i + 1) = V.int n :: encs r1 := h1
      injection h1 with e1 e2
      exact .inl ⟨n, e1, r1, e2, hl, by rw [h3]; simp [Tm.pls]⟩
    | lam b =>
      have h1 : v :: t.enc.drop (i + 1) = V.str "lam" :: (b.enc ++ encs r1) := h1
      injection h1 with e1 e2
      exact .inr (.inl ⟨e1, b :: r1, by rw [e2, encs_cons], by simp [hl], by rw [h3, List.reverse_append]; simp [Tm.pls, plss]⟩)
    | app f a =>
      have h1 : v :: t.enc.drop (i + 1) = V.str "app" :: (f.enc ++ a.enc ++ encs r1) := h1
      injection h1 with e1 e2
      exact .inr (.inr ⟨e1, f :: a :: r1, by rw [e2, encs_cons, encs_cons, List.append_assoc], by simp [hl], by rw [h3, List.reverse_append, List.reverse_append]; simp [Tm.pls, plss]⟩)
/-! ### parts of a term -/
theorem drop_get {xs r : List V} {i : Nat} {v : V} (h : xs.drop i = v :: r) : xs[i]? = some v ∧ xs.drop (i + 1) = r := by
  have e : (xs.drop i)[0]? = some v := by rw [h]; rfl
  rw [List.getElem?_drop, Nat.add_zero] at e
  refine ⟨e, ?_⟩
  have := drop_at e
  rw [h] at this
  injection this with _ e2
  exact e2.symm
def Tm.sub : Tm → List Nat → Option (Nat × Tm)
  | t, [] => some (0, t)
  | .lam b, c :: p => if c = 98 then (b.sub p).map (fun r => (r.1 + 1, r.2)) else none
  | .app f a, c :: p => if c = 102 then (f.sub p).map (fun r => (r.1 + 1, r.2)) else if c = 97 then (a.sub p).map (fun r => (r.1 + (1 + f.enc.length), r.2)) else none
  | .var _, _ :: _ => none
theorem Tm.sub_nil (t : Tm) : t.sub [] = some (0, t) := by cases t <;> rfl
/-- a part stands in the term where sub says, and its place in the list there -/
theorem Tm.sub_at : ∀ (t : Tm) (p q : List Nat) {i : Nat} {u : Tm}, t.sub p = some (i, u) → (∃ post, t.enc.drop i = u.enc ++ post) ∧ (t.pls q)[i]? = some (q ++ p)
  | t, [], q, i, u, h => by
    rw [Tm.sub_nil] at h
    cases h
    refine ⟨⟨[], by simp⟩, ?_⟩
    cases t <;> simp [Tm.pls]
  | .lam b, c :: p, q, i, u, h => by
    by_cases hc : c = 98
    · subst hc
      simp only [Tm.sub, if_pos] at h
      obtain ⟨⟨j, u'⟩, e1, e2⟩ := Option.map_eq_some_iff.mp h
      cases e2
      obtain ⟨⟨post, hp⟩, hl⟩ := Tm.sub_at b p (q ++ [98]) e1
      refine ⟨⟨post, by simpa [Tm.enc] using hp⟩, ?_⟩
      simp only [Tm.pls, List.getElem?_cons_succ, hl]
      simp
    · simp [Tm.sub, hc] at h
  | .app f a, c :: p, q, i, u, h => by
    by_cases hc : c = 102
    · subst hc
      simp only [Tm.sub, if_pos] at h
      obtain ⟨⟨j, u'⟩, e1, e2⟩ := Option.map_eq_some_iff.mp h
      cases e2
      obtain ⟨⟨post, hp⟩, hl⟩ := Tm.sub_at f p (q ++ [102]) e1
      have lt : j < (f.pls (q ++ [102])).length := (List.getElem?_eq_some_iff.mp hl).1
      have lt2 : j < f.enc.length := by rwa [Tm.pls_len] at lt
      refine ⟨⟨post ++ a.enc, ?_⟩, ?_⟩
      · simp only [Tm.enc, List.drop_succ_cons]
        rw [List.drop_append_of_le_length (Nat.le_of_lt lt2), hp, List.append_assoc]
      · simp only [Tm.pls, List.getElem?_cons_succ]
        rw [List.getElem?_append_left lt, hl]
        simp
    · by_cases hc2 : c = 97
      · subst hc2
        simp only [Tm.sub, if_pos] at h
        obtain ⟨⟨j, u'⟩, e1, e2⟩ := Option.map_eq_some_iff.mp h
        cases e2
        obtain ⟨⟨post, hp⟩, hl⟩ := Tm.sub_at a p (q ++ [97]) e1
        refine ⟨⟨post, ?_⟩, ?_⟩
        · have e : j + (1 + f.enc.length) = (f.enc.length + j) + 1 := by omega
          simp only [Tm.enc]
          rw [e, List.drop_succ_cons, List.drop_append, List.drop_of_length_le (by omega)]
          simpa using hp
        · have e : j + (1 + f.enc.length) = (f.enc.length + j) + 1 := by omega
          simp only [Tm.pls]
          rw [e, List.getElem?_cons_succ, List.getElem?_append_right (by rw [Tm.pls_len]; omega), Tm.pls_len]
          have e2 : f.enc.length + j - f.enc.length = j := by omega
          rw [e2, hl]
          simp
      · simp [Tm.sub, hc, hc2] at h
  | .var _, c :: p, q, i, u, h => by simp [Tm.sub] at h
theorem Tm.sub_of : ∀ (t : Tm) (q : List Nat) {r : List Nat}, r ∈ t.pls q → ∃ s i u, r = q ++ s ∧ t.sub s = some (i, u)
  | .var _, q, r, h => ⟨[], 0, _, by simpa [Tm.pls] using h, Tm.sub_nil _⟩
  | .lam b, q, r, h => by
    rcases List.mem_cons.mp h with e | h
    · exact ⟨[], 0, _, by simp [e], Tm.sub_nil _⟩
    · obtain ⟨s, i, u, e, hs⟩ := Tm.sub_of b _ h
      exact ⟨98 :: s, i + 1, u, by rw [e]; simp, by simp [Tm.sub, hs]⟩
  | .app f a, q, r, h => by
    rcases List.mem_cons.mp h with e | h
    · exact ⟨[], 0, _, by simp [e], Tm.sub_nil _⟩
    · rcases List.mem_append.mp h with h | h
      · obtain ⟨s, i, u, e, hs⟩ := Tm.sub_of f _ h
        exact ⟨102 :: s, i + 1, u, by rw [e]; simp, by simp [Tm.sub, hs]⟩
      · obtain ⟨s, i, u, e, hs⟩ := Tm.sub_of a _ h
        exact ⟨97 :: s, i + (1 + f.enc.length), u, by rw [e]; simp, by simp [Tm.sub, hs]⟩
theorem Tm.sub_mem (t : Tm) (p : List Nat) : p ∈ t.pls [] ↔ t.sub p ≠ none := by
  constructor
  · intro h
    obtain ⟨s, i, u, e, hs⟩ := Tm.sub_of t [] h
    simp only [List.nil_append] at e
    rw [e, hs]
    simp
  · intro h
    obtain ⟨⟨i, u⟩, e⟩ := Option.ne_none_iff_exists'.mp h
    have := (Tm.sub_at t p [] e).2
    exact List.mem_of_getElem? this
/-- loops over a text -/
theorem for_str {z : Str} {g : TG} {tb : TS} {D : Ends} {σ : L2.St} {H : Hp} (Pv : Nat → L2.St → Hp → Prop) (h0 : Pv 0 σ H)
    (hs : ∀ i c σ H, z.cps[i]? = some c → Pv i σ H → g (.str ⟨#[c]⟩) σ H fun σ2 H2 => tb { D with nx := Pv (i + 1), ct := Pv (i + 1), bk := D.nx } σ2 H2) (hd : ∀ σ H, Pv z.cps.size σ H → D.nx σ H) : ForB (Its z) g tb D σ H := by
  refine ⟨fun i m σ H => m = z.cps.size - i ∧ i ≤ z.cps.size ∧ Pv i σ H, ⟨_, rfl, Nat.zero_le _, h0⟩, ?_⟩
  rintro i m σ H ⟨rfl, hi, p⟩
  by_cases hlt : i < z.cps.size
  · refine .inr ⟨hlt, Pv (i + 1), fun σ' H' p' => ⟨z.cps.size - (i + 1), by omega, rfl, hlt, p'⟩, fun x H' y => ?_⟩
    obtain ⟨e, c, hc, ex⟩ := y
    subst e ex
    exact hs i c σ _ hc p
  · have e : i = z.cps.size := by omega
    subst e
    exact .inl ⟨Nat.le_refl _, hd σ H p⟩
theorem w_it {te : TE} {σ : L2.St} {H : Hp} {R : It → Hp → Prop} (h : te σ H fun v H1 => ∃ x, v = .str x ∧ R (Its x) H1) : iStr te σ H R := h
theorem w_it1 {z : Str} {B : Str → Prop} (q : B z) : ∃ x, V.str z = .str x ∧ B x := ⟨z, rfl, q⟩
/-- in the midst of a walk to a part's end: the terms that are missing -/
def EInv (xs : List V) (fin e : Nat) (ts : List Tm) : Prop := ∃ post, xs.drop e = encs ts ++ post ∧ e + (encs ts).length = fin
theorem EInv.start {xs post : List V} {s : Nat} {u : Tm} (h : xs.drop s = u.enc ++ post) : EInv xs (s + u.enc.length) s [u] := ⟨post, by simpa [encs] using h, by simp [encs]⟩
theorem EInv.step {xs : List V} {fin e : Nat} {t : Tm} {ts : List Tm} (h : EInv xs fin e (t :: ts)) : e < fin ∧ ∃ v ts', xs[e]? = some v ∧ EInv xs fin (e + 1) ts' ∧
    ((∃ n : Nat, v = .int n ∧ ts'.length = ts.length) ∨ (v = .str "lam" ∧ ts'.length = ts.length + 1) ∨ (v = .str "app" ∧ ts'.length = ts.length + 2)) := by
  obtain ⟨post, h1, h2⟩ := h
  rw [encs_cons] at h1 h2
  have pos := List.length_pos_iff.mpr t.enc_ne
  rw [List.length_append] at h2
  refine ⟨by omega, ?_⟩
  cases t with
  | var n =>
    have g := drop_get (i := e) (v := .int n) (r := encs ts ++ post) (by rw [h1]; rfl)
    exact ⟨_, ts, g.1, ⟨post, g.2, by simp [Tm.enc] at h2; omega⟩, .inl ⟨n, rfl, rfl⟩⟩
  | lam b =>
    have g := drop_get (i := e) (v := .str "lam") (r := b.enc ++ encs ts ++ post) (by rw [h1]; simp [Tm.enc])
    exact ⟨_, b :: ts, g.1, ⟨post, by rw [g.2, encs_cons], by rw [encs_cons]; simp [Tm.enc] at h2 ⊢; omega⟩, .inr (.inl ⟨rfl, rfl⟩)⟩
  | app f a =>
    have g := drop_get (i := e) (v := .str "app") (r := f.enc ++ (a.enc ++ encs ts) ++ post) (by rw [h1]; simp [Tm.enc])
    exact ⟨_, f :: a :: ts, g.1, ⟨post, by rw [g.2, encs_cons, encs_cons], by rw [encs_cons, encs_cons]; simp [Tm.enc] at h2 ⊢; omega⟩, .inr (.inr ⟨rfl, rfl⟩)⟩
theorem w_sl {r : V → Option Int → Option Int → Hp → VK → Prop} {te : TE} {tl th : TO} {σ : L2.St} {H : Hp} {Q : VK} (h : te σ H fun x H1 => tl σ H1 fun l H2 => th σ H2 fun u H3 => r x l u H3 Q) : L2.tSl r te tl th σ H Q := h
theorem w_noP {σ : L2.St} {H : Hp} {Q : Option Int → Hp → Prop} (h : Q none H) : tNoPart σ H Q := h
theorem w_part {t : TE} {σ : L2.St} {H : Hp} {Q : Option Int → Hp → Prop} (h : t σ H fun x H1 => ∃ i, x = .int i ∧ Q (some i) H1) : tPart t σ H Q := h
theorem w_part1 {j : Int} {B : Int → Prop} (h : B j) : ∃ i, V.int j = .int i ∧ B i := ⟨j, rfl, h⟩
theorem cut_lo (xs : List V) (i : Nat) : cutV xs none (some (i : Int)) = xs.take i := by
  unfold cutV
  rw [HT.sIx_nat, HT.sIx_none]
  simp
theorem cut_hi (xs : List V) (i : Nat) : cutV xs (some (i : Int)) none = xs.drop i := by
  unfold cutV
  rw [HT.sIx_nat, HT.sIx_none]
  by_cases h : i ≤ xs.length
  · rw [Nat.min_eq_left h]
    exact List.take_of_length_le (by simp)
  · rw [Nat.min_eq_right (by omega), List.drop_length, List.drop_of_length_le (by omega)]
    simp
def dueV (t v : Tm) (i : Nat) (u : Tm) : List V := t.enc.take i ++ v.enc ++ t.enc.drop (i + u.enc.length)
theorem dueV_nds (t v : Tm) (i : Nat) (u : Tm) : Nds (dueV t v i u) := ((t.nds.take i).app v.nds).app (t.nds.drop _)
theorem dueV_len (t v : Tm) (i : Nat) (u : Tm) : (dueV t v i u).length ≤ t.enc.length + v.enc.length + t.enc.length := by
  simp only [dueV, List.length_append, List.length_take, List.length_drop]
  omega
theorem cut_mid {xs post : List V} {i : Nat} {u : Tm} (h : xs.drop i = u.enc ++ post) : cutV xs (some (i : Int)) (some ((i + u.enc.length : Nat) : Int)) = u.enc := by
  have hl := congrArg List.length h
  rw [List.length_drop, List.length_append] at hl
  have pos := List.length_pos_iff.mpr u.enc_ne
  unfold cutV
  rw [HT.sIx_nat, HT.sIx_nat, Nat.min_eq_left (by omega), Nat.min_eq_left (by omega), h]
  rw [List.take_append_of_le_length (by omega)]
  exact List.take_of_length_le (by omega)
def Small (qs : List (List Nat)) : Prop := ∀ q ∈ qs, ∀ c ∈ q, c < 200
theorem Tm.pls_small : ∀ (t : Tm) (p : List Nat), (∀ c ∈ p, c < 200) → Small (t.pls p)
  | .var _, p, h, q, hq => by
    have e : q = p := by simpa [Tm.pls] using hq
    rw [e]
    exact h
  | .lam b, p, h, q, hq => by
    rcases List.mem_cons.mp hq with e | hq
    · rw [e]
      exact h
    · exact Tm.pls_small b _ (fun c hc => by
        rcases List.mem_append.mp hc with hc | hc
        · exact h c hc
        · rw [List.mem_singleton.mp hc]; decide) q hq
  | .app f a, p, h, q, hq => by
    rcases List.mem_cons.mp hq with e | hq
    · rw [e]
      exact h
    · rcases List.mem_append.mp hq with hq | hq
      · exact Tm.pls_small f _ (fun c hc => by
          rcases List.mem_append.mp hc with hc | hc
          · exact h c hc
          · rw [List.mem_singleton.mp hc]; decide) q hq
      · exact Tm.pls_small a _ (fun c hc => by
          rcases List.mem_append.mp hc with hc | hc
          · exact h c hc
          · rw [List.mem_singleton.mp hc]; decide) q hq
theorem dp_pl {K : PySem.W.Frag} {H : Hp} : ∀ qs : List (List Nat), DpAll K H (plcs qs) ((plcs qs).map dv)
  | [] => .nil
  | _ :: qs => .cons (.str _) (dp_pl qs)
theorem lay_pl : ∀ {qs : List (List Nat)}, Small qs → PyData.canLayAll0 ((plcs qs).map dv) = true
  | [], _ => rfl
  | q :: qs, h => by
    have ih := lay_pl (qs := qs) fun x hx => h x (List.mem_cons_of_mem _ hx)
    have hx : (dv (V.str (pl q))).canLay0 = true := by
      show PyData.strOk (pl q) = true
      unfold PyData.strOk
      rw [Array.all_eq_true]
      intro i hi
      have hm : (pl q).cps[i] ∈ q := by
        have : (pl q).cps[i] ∈ (pl q).cps := Array.getElem_mem hi
        simpa [pl] using this
      have := h q List.mem_cons_self _ hm
      simp
      omega
    show ((dv (V.str (pl q))).canLay0 && PyData.canLayAll0 ((plcs qs).map dv)) = true
    rw [hx, ih]
    rfl
theorem eqv_pl : ∀ qs : List (List Nat), PyData.eqvAll ((plcs qs).map dv) ((plcs qs).map dv) = true
  | [] => by simp [PyData.eqvAll]
  | q :: qs => by
    have ih := eqv_pl qs
    show PyData.eqvAll (dv (V.str (pl q)) :: (plcs qs).map dv) (dv (V.str (pl q)) :: (plcs qs).map dv) = true
    rw [PyData.eqvAll, ih]
    simp [dv, PyData.eqv]
theorem shaped_pl {qs : List (List Nat)} (h : Small qs) : SeqAt.shaped (.list ((plcs qs).map dv)) = true := by
  have h1 : (PyData.list ((plcs qs).map dv)).canLay0 = true := lay_pl h
  have h2 : (PyData.list ((plcs qs).map dv)).depth ≤ 2 := by
    have h := depth_all (plcs qs)
    simp only [PyData.depth]
    omega
  unfold SeqAt.shaped
  rw [h1, Bool.true_and]
  exact decide_eq_true (by omega)
theorem w_neP {K : PySem.W.Frag} {H : Hp} {Q : VK} {a b : Addr} {qs : List (List Nat)} (h : H a = some (.lst (plcs qs))) (k : H b = some (.lst (plcs qs))) (o : Small qs) (q : Q (.bl false) H) : rNeD K (.ref a) (.ref b) H Q :=
  ⟨_, _, .lst (SqL.of h) (dp_pl qs), .lst (SqL.of k) (dp_pl qs), shaped_pl o, shaped_pl o, by rw [PyData.eqv, eqv_pl]; exact q⟩
theorem part_fits {t u : Tm} {i : Nat} {post : List V} (h1 : t.vars 1000000) (h2 : t.enc.length ≤ 1000) (h : t.enc.drop i = u.enc ++ post) : fitsV u.enc = true := by
  have a1 := List.all_eq_true.mp (ok_vars h1)
  have hl := congrArg List.length h
  rw [List.length_drop, List.length_append] at hl
  have h3 : u.enc.length ≤ 1000 := by omega
  have : u.enc.all okV = true := List.all_eq_true.mpr fun x hx => a1 x (List.mem_of_mem_drop (i := i) (by rw [h]; exact List.mem_append_left _ hx))
  rw [fitsV, this, decide_eq_true h3]
  rfl
theorem same_at {qs : List (List Nat)} (o : qs.Pairwise RB) {i j : Nat} {r : List Nat} (hi : qs[i]? = some r) (hj : qs[j]? = some r) : i = j := by
  have b := before_at o hi hj
  have b2 := before_at o hj hi
  rw [before_self] at b b2
  have g1 := of_decide_eq_false b.symm
  have g2 := of_decide_eq_false b2.symm
  omega
theorem inV_pl (p : List Nat) : ∀ qs : List (List Nat), inV (.str (pl p)) (plcs qs) = decide (p ∈ qs)
  | [] => by simp [inV]
  | q :: qs => by
    have ih := inV_pl p qs
    unfold inV at ih ⊢
    have e : eqV (.str (pl q)) (.str (pl p)) = decide (p = q) := by
      show (pl q == pl p) = _
      by_cases h : p = q
      · subst h; simp
      · rw [decide_eq_false h]
        exact beq_eq_false_iff_ne.mpr fun e => h (pl_inj e).symm
    show (eqV (.str (pl q)) (.str (pl p)) || (plcs qs).any fun y => eqV y (.str (pl p))) = _
    rw [ih, e]
    simp
theorem flat_pl (qs : List (List Nat)) : (plcs qs).all flatV = true := by
  simp [flatV]
theorem w_inS {K : PySem.W.Frag} {H : Hp} {Q : VK} {p : Addr} {r : List Nat} {qs : List (List Nat)} (h : H p = some (.lst (plcs qs))) (q : Q (.bl (decide (r ∈ qs))) H) : rIn K false (.str (pl r)) (.ref p) H Q :=
  ⟨p, _, rfl, .inl (SqL.of h), rfl, flat_pl qs, by rw [inV_pl]; exact q⟩
theorem w_indexS {K : PySem.W.Frag} {H : Hp} {Q : VK} {p : Addr} {r : List Nat} {qs : List (List Nat)} {i : Nat} (h : H p = some (.lst (plcs qs))) (o : qs.Pairwise RB) (hi : qs[i]? = some r) (q : Q (.int (i : Int)) H) : rIndex K (.ref p) [.str (pl r)] H Q := by
  refine ⟨p, _, _, i, .str (pl r), rfl, rfl, SqL.of h, rfl, flat_pl qs, by rw [List.getElem?_map, hi]; rfl, beq_self_eq_true (pl r), fun m z hm hz => ?_, q⟩
  rw [List.getElem?_map] at hz
  cases e : qs[m]? with
  | none => rw [e] at hz; cases hz
  | some r2 =>
    rw [e] at hz
    cases hz
    show (pl r2 == pl r) = false
    refine beq_eq_false_iff_ne.mpr fun e2 => ?_
    have e3 := pl_inj e2
    subst e3
    have := same_at o e hi
    omega
theorem cutS_lo (p : List Nat) (i : Nat) : cutS (pl p) none (some (i : Int)) = pl (p.take i) := by
  unfold cutS
  rw [HT.sIx_nat, HT.sIx_none, pl_len]
  show pl ((p.drop 0).take (min i p.length - 0)) = pl (p.take i)
  congr 1
  rw [List.drop_zero, Nat.sub_zero, List.take_eq_take_iff]
  omega
theorem cutS_hi (p : List Nat) (i : Nat) : cutS (pl p) (some (i : Int)) none = pl (p.drop i) := by
  unfold cutS
  rw [HT.sIx_nat, HT.sIx_none, pl_len]
  show pl ((p.drop (min i p.length)).take (p.length - min i p.length)) = pl (p.drop i)
  congr 1
  rw [List.take_of_length_le (by simp)]
  by_cases h : i ≤ p.length
  · rw [Nat.min_eq_left h]
  · rw [Nat.min_eq_right (by omega), List.drop_length, List.drop_of_length_le (by omega)]
theorem w_slS {p : List Nat} {lo hi : Option Int} {H : Hp} {Q : VK} (z : p.length ≤ 1000000) (q : Q (.str (cutS (pl p) lo hi)) H) : rSlS (.str (pl p)) lo hi H Q := ⟨pl p, rfl, by rw [pl_len]; exact ly_sz (by omega), q⟩
theorem w_slLo {p : List Nat} {i : Nat} {H : Hp} {Q : VK} (z : p.length ≤ 1000000) (q : Q (.str (pl (p.take i))) H) : rSlS (.str (pl p)) none (some (i : Int)) H Q := w_slS z (by rw [cutS_lo]; exact q)
theorem w_slHi {p : List Nat} {i : Nat} {H : Hp} {Q : VK} (z : p.length ≤ 1000000) (q : Q (.str (pl (p.drop i))) H) : rSlS (.str (pl p)) (some (i : Int)) none H Q := w_slS z (by rw [cutS_hi]; exact q)
theorem w_slHi1 {p : List Nat} {i : Nat} {H : Hp} {Q : VK} (z : p.length ≤ 1000000) (q : Q (.str (pl (p.drop (i + 1)))) H) : rSlS (.str (pl p)) (some ((i : Int) + 1)) none H Q := w_slS z (by
  have e : (i : Int) + 1 = ((i + 1 : Nat) : Int) := rfl
  rw [e, cutS_hi]
  exact q)
def Tm.tall : Tm → Nat
  | .var _ => 0
  | .lam b => b.tall + 1
  | .app f a => max f.tall a.tall + 1
theorem Tm.tall_lt : ∀ t : Tm, t.tall < t.enc.length
  | .var _ => by simp [Tm.tall, Tm.enc]
  | .lam b => by
    have := Tm.tall_lt b
    simp only [Tm.tall, Tm.enc, List.length_cons]
    omega
  | .app f a => by
    have h1 := Tm.tall_lt f
    have h2 := Tm.tall_lt a
    simp only [Tm.tall, Tm.enc, List.length_cons, List.length_append]
    omega
theorem at_drop {xs r : List V} {i : Nat} {v : V} (h : xs.drop i = v :: r) : xs[i]? = some v ∧ xs.drop (i + 1) = r := by
  constructor
  · have := congrArg (fun l => l[0]?) h
    simpa using this
  · have := congrArg List.tail h
    simpa using this
theorem cut_one {x : V} {r : List V} : cutV (x :: r) none (some 1) = [x] := by
  simp [cutV, HT.sIx]
theorem cut_rest {x : V} {r : List V} : cutV (x :: r) (some 1) none = r := by
  simp [cutV, HT.sIx]
end Ly
set_option Elab.async false
set_option linter.all false
set_option maxRecDepth 100000
set_option maxHeartbeats 2000000
/-! Ly: redexes and steps of terms -/
namespace Ly
open PySem PySem.Spec PyProof.Rows L2 Evl
/-- the term with v in place of the part at p -/
def Tm.rep (v : Tm) : Tm → List Nat → Tm
  | _, [] => v
  | .lam b, c :: p => if c = 98 then .lam (Tm.rep v b p) else .lam b
  | .app f a, c :: p => if c = 102 then .app (Tm.rep v f p) a else if c = 97 then .app f (Tm.rep v a p) else .app f a
  | .var n, _ :: _ => .var n
theorem Tm.rep_nil (v t : Tm) : Tm.rep v t [] = v := by cases t <;> rfl
theorem Tm.sub_lt {t : Tm} {p : List Nat} {i : Nat} {u : Tm} (h : t.sub p = some (i, u)) : i + u.enc.length ≤ t.enc.length := by
  obtain ⟨⟨post, e⟩, _⟩ := Tm.sub_at t p [] h
  have hl := congrArg List.length e
  rw [List.length_drop, List.length_append] at hl
  have pos := List.length_pos_iff.mpr u.enc_ne
  omega
theorem Tm.rep_enc (v : Tm) : ∀ (t : Tm) (p : List Nat) {i : Nat} {u : Tm}, t.sub p = some (i, u) → (Tm.rep v t p).enc = dueV t v i u
  | t, [], i, u, h => by
    rw [Tm.sub_nil] at h
    cases h
    rw [Tm.rep_nil]
    simp [dueV]
  | .lam b, c :: p, i, u, h => by
    by_cases hc : c = 98
    · subst hc
      simp only [Tm.sub, if_pos] at h
      obtain ⟨⟨j, u'⟩, e1, e2⟩ := Option.map_eq_some_iff.mp h
      cases e2
      have ih := Tm.rep_enc v b p e1
      simp only [Tm.rep, if_pos, Tm.enc, ih, dueV]
      have e : j + 1 + u'.enc.length = j + u'.enc.length + 1 := by omega
      rw [e, List.take_succ_cons, List.drop_succ_cons]
      simp
    · simp [Tm.sub, hc] at h
  | .app f a, c :: p, i, u, h => by
    by_cases hc : c = 102
    · subst hc
      simp only [Tm.sub, if_pos] at h
      obtain ⟨⟨j, u'⟩, e1, e2⟩ := Option.map_eq_some_iff.mp h
      cases e2
      have ih := Tm.rep_enc v f p e1
      have lt := Tm.sub_lt e1
      simp only [Tm.rep, if_pos, Tm.enc, ih, dueV]
      have e : j + 1 + u'.enc.length = j + u'.enc.length + 1 := by omega
      rw [e, List.take_succ_cons, List.drop_succ_cons, List.take_append_of_le_length (by omega), List.drop_append_of_le_length (by omega)]
      simp
    · by_cases hc2 : c = 97
      · subst hc2
        simp only [Tm.sub, if_pos] at h
        obtain ⟨⟨j, u'⟩, e1, e2⟩ := Option.map_eq_some_iff.mp h
        cases e2
        have ih := Tm.rep_enc v a p e1
        simp only [Tm.rep, Tm.enc, dueV]
        rw [if_neg (by decide), if_pos trivial]
        simp only [Tm.enc, ih, dueV]
        have e : j + (1 + f.enc.length) = (f.enc.length + j) + 1 := by omega
        have e3 : j + (1 + f.enc.length) + u'.enc.length = (f.enc.length + (j + u'.enc.length)) + 1 := by omega
        rw [e3, e, List.take_succ_cons, List.drop_succ_cons, List.take_length_add_append, List.drop_length_add_append]
        simp
      · simp [Tm.sub, hc, hc2] at h
  | .var _, c :: p, i, u, h => by simp [Tm.sub] at h
theorem Tm.rep_len {v t u : Tm} {p : List Nat} {i : Nat} (h : t.sub p = some (i, u)) : (Tm.rep v t p).enc.length + u.enc.length = t.enc.length + v.enc.length := by
  have lt := Tm.sub_lt h
  rw [Tm.rep_enc v t p h, dueV]
  simp only [List.length_append, List.length_take, List.length_drop]
  omega
def Tm.isLam : Tm → Bool
  | .lam _ => true
  | _ => false
/-- the redexes, in order; p: the place of the term itself -/
def Tm.reds : List Nat → Tm → List (List Nat)
  | _, .var _ => []
  | p, .lam b => b.reds (p ++ [98])
  | p, .app f a => (if f.isLam then [p] else []) ++ (f.reds (p ++ [102]) ++ a.reds (p ++ [97]))
/-- the same off the list of nodes and the list of places -/
def redL : List V → List (List Nat) → List (List Nat)
  | v :: xs, q :: qs => (if v = .str "app" ∧ xs[0]? = some (.str "lam") then [q] else []) ++ redL xs qs
  | _, _ => []
theorem str_ne1 : ¬ (("lam" : Str) = "app") := by decide +kernel
theorem str_ne2 : ¬ (("app" : Str) = "lam") := by decide +kernel
theorem Tm.head_lam (t : Tm) (post : List V) : ((t.enc ++ post)[0]? = some (.str "lam")) ↔ t.isLam = true := by
  cases t with
  | var n => simp [Tm.enc, Tm.isLam]
  | lam b => simp [Tm.enc, Tm.isLam]
  | app f a => simp [Tm.enc, Tm.isLam, str_ne2]
theorem redL_enc : ∀ (t : Tm) (p : List Nat) (post : List V) (qs : List (List Nat)), redL (t.enc ++ post) (t.pls p ++ qs) = t.reds p ++ redL post qs
  | .var n, p, post, qs => by simp [Tm.enc, Tm.pls, Tm.reds, redL]
  | .lam b, p, post, qs => by
    have ih := redL_enc b (p ++ [98]) post qs
    simp [Tm.enc, Tm.pls, Tm.reds, redL, ih, str_ne1]
  | .app f a, p, post, qs => by
    have h1 := redL_enc f (p ++ [102]) (a.enc ++ post) (a.pls (p ++ [97]) ++ qs)
    have h2 := redL_enc a (p ++ [97]) post qs
    have hl := Tm.head_lam f (a.enc ++ post)
    simp only [Tm.enc, Tm.pls, Tm.reds, List.cons_append, List.append_assoc, redL, h1, h2]
    by_cases hf : f.isLam = true
    · rw [if_pos ⟨trivial, hl.mpr hf⟩, if_pos hf]
    · rw [if_neg (fun z => hf (hl.mp z.2)), if_neg hf]
theorem redL_all (t : Tm) : redL t.enc (t.pls []) = t.reds [] := by
  have h := redL_enc t [] [] []
  simpa [redL] using h
/-- what has been found after i places -/
def redK (xs : List V) (qs : List (List Nat)) : Nat → List (List Nat)
  | 0 => []
  | i + 1 => redK xs qs i ++ (if xs[i]? = some (.str "app") ∧ xs[i + 1]? = some (.str "lam") then [qs.getD i []] else [])
theorem redK_drop {xs : List V} {qs : List (List Nat)} (h : qs.length = xs.length) : ∀ i, i ≤ xs.length → redK xs qs i ++ redL (xs.drop i) (qs.drop i) = redL xs qs
  | 0, _ => by simp [redK]
  | i + 1, hi => by
    have ih := redK_drop h i (by omega)
    have hx : i < xs.length := by omega
    have hq : i < qs.length := by omega
    rw [List.drop_eq_getElem_cons hx, List.drop_eq_getElem_cons hq] at ih
    rw [← ih]
    simp only [redK, redL]
    rw [List.append_assoc]
    congr 2
    have e1 : xs[i]? = some xs[i] := List.getElem?_eq_getElem hx
    have e2 : qs.getD i [] = qs[i] := by rw [List.getD_eq_getElem?_getD, List.getElem?_eq_getElem hq]; rfl
    have e3 : (xs.drop (i + 1))[0]? = xs[i + 1]? := by rw [List.getElem?_drop, Nat.add_zero]
    rw [e1, e2, e3]
    simp
theorem redK_all (t : Tm) : redK t.enc (t.pls []) t.enc.length = t.reds [] := by
  have h := redK_drop (Tm.pls_len t []) t.enc.length (Nat.le_refl _)
  rw [List.drop_length, redL_all] at h
  simpa [redL] using h
theorem redK_mem {xs : List V} {qs : List (List Nat)} {r : List Nat} : ∀ {i : Nat}, i ≤ qs.length → r ∈ redK xs qs i → r ∈ qs
  | 0, _, h => by simp [redK] at h
  | i + 1, hi, h => by
    rcases List.mem_append.mp h with h | h
    · exact redK_mem (by omega) h
    · split at h
      · rw [List.mem_singleton.mp h, List.getD_eq_getElem?_getD, List.getElem?_eq_getElem (by omega)]
        exact List.getElem_mem _
      · simp at h
/-- a redex's part -/
def Tm.Red (t : Tm) (p : List Nat) (i : Nat) (b u : Tm) : Prop := t.sub p = some (i, .app (.lam b) u)
theorem Tm.reds_sub : ∀ (t : Tm) (q : List Nat) {r : List Nat}, r ∈ t.reds q ↔ ∃ s i b u, r = q ++ s ∧ t.Red s i b u
  | .var n, q, r => by
    constructor
    · intro h
      simp [Tm.reds] at h
    · rintro ⟨s, i, b, u, _, h⟩
      cases s <;> simp [Tm.Red, Tm.sub] at h
  | .lam c, q, r => by
    have ih := Tm.reds_sub c (q ++ [98]) (r := r)
    constructor
    · intro h
      obtain ⟨s, i, b, u, e, hs⟩ := ih.mp h
      exact ⟨98 :: s, i + 1, b, u, by rw [e]; simp, by unfold Tm.Red at hs ⊢; simp [Tm.sub, hs]⟩
    · rintro ⟨s, i, b, u, e, hs⟩
      cases s with
      | nil => simp [Tm.Red, Tm.sub] at hs
      | cons c2 s =>
        unfold Tm.Red at hs
        simp only [Tm.sub] at hs
        by_cases hc : c2 = 98
        · subst hc
          simp only [if_pos] at hs
          obtain ⟨⟨j, u'⟩, e1, e2⟩ := Option.map_eq_some_iff.mp hs
          cases e2
          exact ih.mpr ⟨s, j, b, u, by rw [e]; simp, e1⟩
        · simp [hc] at hs
  | .app f a, q, r => by
    have i1 := Tm.reds_sub f (q ++ [102]) (r := r)
    have i2 := Tm.reds_sub a (q ++ [97]) (r := r)
    constructor
    · intro h
      rcases List.mem_append.mp h with h | h
      · cases f with
        | lam b =>
          simp [Tm.isLam] at h
          exact ⟨[], 0, b, a, by simp [h], Tm.sub_nil _⟩
        | var n => simp [Tm.isLam] at h
        | app f a => simp [Tm.isLam] at h
      · rcases List.mem_append.mp h with h | h
        · obtain ⟨s, i, b, u, e, hs⟩ := i1.mp h
          exact ⟨102 :: s, i + 1, b, u, by rw [e]; simp, by unfold Tm.Red at hs ⊢; simp [Tm.sub, hs]⟩
        · obtain ⟨s, i, b, u, e, hs⟩ := i2.mp h
          exact ⟨97 :: s, i + (1 + f.enc.length), b, u, by rw [e]; simp, by unfold Tm.Red at hs ⊢; simp [Tm.sub, hs]⟩
    · rintro ⟨s, i, b, u, e, hs⟩
      cases s with
      | nil =>
        unfold Tm.Red at hs
        rw [Tm.sub_nil] at hs
        cases hs
        refine List.mem_append_left _ ?_
        simp [Tm.isLam, e]
      | cons c2 s =>
        unfold Tm.Red at hs
        simp only [Tm.sub] at hs
        refine List.mem_append_right _ ?_
        by_cases hc : c2 = 102
        · subst hc
          simp only [if_pos] at hs
          obtain ⟨⟨j, u'⟩, e1, e2⟩ := Option.map_eq_some_iff.mp hs
          cases e2
          exact List.mem_append_left _ (i1.mpr ⟨s, j, b, u, by rw [e]; simp, e1⟩)
        · by_cases hc2 : c2 = 97
          · subst hc2
            simp only [if_pos] at hs
            rw [if_neg (by decide)] at hs
            obtain ⟨⟨j, u'⟩, e1, e2⟩ := Option.map_eq_some_iff.mp hs
            cases e2
            exact List.mem_append_right _ (i2.mpr ⟨s, j, b, u, by rw [e]; simp, e1⟩)
          · simp [hc, hc2] at hs
theorem Tm.red_mem {t : Tm} {p : List Nat} : p ∈ t.reds [] ↔ ∃ i b u, t.Red p i b u := by
  rw [Tm.reds_sub]
  constructor
  · rintro ⟨s, i, b, u, e, h⟩
    simp only [List.nil_append] at e
    rw [e]
    exact ⟨i, b, u, h⟩
  · rintro ⟨i, b, u, h⟩
    exact ⟨p, i, b, u, by simp, h⟩
/-- the step at p (the term itself where p is no redex) -/
def Tm.step (t : Tm) (p : List Nat) : Tm := match t.sub p with
  | some (_, .app (.lam b) u) => Tm.rep (Tm.put u 0 b) t p
  | _ => t
theorem Tm.step_red {t : Tm} {p : List Nat} {i : Nat} {b u : Tm} (h : t.Red p i b u) : t.step p = Tm.rep (Tm.put u 0 b) t p := by
  unfold Tm.step
  rw [h]
/-- how the nodes of a redex stand in the list -/
theorem Tm.red_at {t : Tm} {p : List Nat} {i : Nat} {b u : Tm} (h : t.Red p i b u) : ∃ post, t.enc.drop i = .str "app" :: .str "lam" :: (b.enc ++ (u.enc ++ post)) := by
  obtain ⟨⟨post, e⟩, _⟩ := Tm.sub_at t p [] h
  exact ⟨post, by rw [e]; simp [Tm.enc]⟩
theorem Tm.step_enc {t : Tm} {p : List Nat} {i : Nat} {b u : Tm} (h : t.Red p i b u) : (t.step p).enc = t.enc.take i ++ (Tm.put u 0 b).enc ++ t.enc.drop (i + 2 + b.enc.length + u.enc.length) := by
  rw [Tm.step_red h, Tm.rep_enc _ t p h, dueV]
  congr 2
  simp only [Tm.enc, List.length_cons, List.length_append]
  omega
theorem Tm.reds_pls (t : Tm) {r : List Nat} (h : r ∈ t.reds []) : r ∈ t.pls [] := by
  rw [← redK_all t] at h
  exact redK_mem (by rw [Tm.pls_len]; exact Nat.le_refl _) h
/-- the part that begins at the i-th node -/
theorem Tm.part_at (t : Tm) {i : Nat} (h : i < t.enc.length) : ∃ p u post, (t.pls [])[i]? = some p ∧ t.sub p = some (i, u) ∧ t.enc.drop i = u.enc ++ post := by
  have hl : i < (t.pls []).length := by rw [Tm.pls_len]; exact h
  have g := List.getElem?_eq_getElem hl
  obtain ⟨s, j, u, e, hs⟩ := Tm.sub_of t [] (List.mem_of_getElem? g)
  simp only [List.nil_append] at e
  obtain ⟨⟨post, hd⟩, hp⟩ := Tm.sub_at t s [] hs
  simp only [List.nil_append] at hp
  have ij : i = j := same_at (Tm.pls_order t []) (by rw [g, e]) hp
  subst ij
  exact ⟨s, u, post, hp, hs, hd⟩
theorem Tm.after_app (t : Tm) {i : Nat} (h : t.enc[i]? = some (.str "app")) : ∃ v, t.enc[i + 1]? = some v ∧ ((∃ n : Int, v = .int n) ∨ v = .str "lam" ∨ v = .str "app") := by
  have hi := (List.getElem?_eq_some_iff.mp h).1
  obtain ⟨p, u, post, _, _, hd⟩ := t.part_at hi
  have h0 : (t.enc.drop i)[0]? = some (.str "app") := by rw [List.getElem?_drop, Nat.add_zero]; exact h
  rw [hd] at h0
  cases u with
  | var n => simp [Tm.enc] at h0
  | lam b => simp [Tm.enc, str_ne1] at h0
  | app f a =>
    have h1 : (t.enc.drop i)[1]? = (f.enc ++ a.enc ++ post)[0]? := by rw [hd]; rfl
    rw [List.getElem?_drop] at h1
    obtain ⟨v, r, e⟩ := List.exists_cons_of_ne_nil f.enc_ne
    refine ⟨v, by rw [h1, e]; rfl, ?_⟩
    rcases Tm.int_nat (t := f) (v := v) (by rw [e]; exact List.mem_cons_self) with ⟨n, e2⟩ | e2 | e2
    · exact .inl ⟨_, e2⟩
    · exact .inr (.inl e2)
    · exact .inr (.inr e2)
theorem redK_len (xs : List V) (qs : List (List Nat)) : ∀ i, (redK xs qs i).length ≤ i
  | 0 => Nat.zero_le _
  | i + 1 => by
    have := redK_len xs qs i
    simp only [redK, List.length_append]
    split
    · simp only [List.length_singleton]; omega
    · simp only [List.length_nil]; omega
theorem redK_app {xs : List V} {qs : List (List Nat)} {i : Nat} {q : List Nat} (h : xs[i]? = some (.str "app")) (h2 : xs[i + 1]? = some (.str "lam")) (hq : qs[i]? = some q) : redK xs qs (i + 1) = redK xs qs i ++ [q] := by
  simp only [redK]
  rw [if_pos ⟨h, h2⟩, List.getD_eq_getElem?_getD, hq]
  rfl
theorem redK_no {xs : List V} {qs : List (List Nat)} {i : Nat} (h : ¬ (xs[i]? = some (.str "app") ∧ xs[i + 1]? = some (.str "lam"))) : redK xs qs (i + 1) = redK xs qs i := by
  simp only [redK]
  rw [if_neg h, List.append_nil]
def zeroes : Nat → Tm
  | 0 => .var 0
  | n + 1 => .app (zeroes n) (.var 0)
/-! readings of lists of places, of one-word tuples -/
theorem Tm.pls_small0 (t : Tm) : Small (t.pls []) := Tm.pls_small t [] (by simp)
theorem Tm.reds_small (t : Tm) : Small (t.reds []) := fun q hq => Tm.pls_small0 t q (Tm.reds_pls t hq)
theorem w_eqP {K : PySem.W.Frag} {H : Hp} {Q : VK} {a b : Addr} {qs : List (List Nat)} (h : H a = some (.lst (plcs qs))) (k : H b = some (.lst (plcs qs))) (o : Small qs) (q : Q (.bl true) H) : rEqD K (.ref a) (.ref b) H Q :=
  ⟨_, _, .lst (SqL.of h) (dp_pl qs), .lst (SqL.of k) (dp_pl qs), shaped_pl o, shaped_pl o, by rw [PyData.eqv, eqv_pl]; exact q⟩
def wordOk (x : Str) : Bool := SeqAt.shaped (.tuple [.str x]) && PyData.eqv (.tuple [.str x]) (.tuple [.str x])
theorem w_neW {K : PySem.W.Frag} {H : Hp} {Q : VK} {a b : Addr} {x : Str} (o : wordOk x = true) (h : SqT K H a [.str x]) (k : SqT K H b [.str x]) (q : Q (.bl false) H) : rNeD K (.ref a) (.ref b) H Q := by
  unfold wordOk at o
  rw [Bool.and_eq_true] at o
  refine ⟨_, _, .tup h (.cons (.str _) .nil), .tup k (.cons (.str _) .nil), o.1, o.1, ?_⟩
  rw [o.2]
  exact q
theorem w_ixSt {H : Hp} {Q : VK} {p : List Nat} {i : Int} {c : Nat} (z : p.length ≤ 1000000) (h : atI p i = some c) (q : Q (.str (pl [c])) H) : rIxS (.str (pl p)) (.int i) H Q :=
  ⟨pl p, i, c, rfl, rfl, by rw [pl_len]; exact ly_sz (by omega), h, q⟩
theorem pl_fab : ("fab" : Str) = pl [102, 97, 98] := by decide +kernel
/-- what is too great, as a list -/
theorem bigs_nil {xs : List V} : (xs.filter fun v => !okV v).length = 0 ↔ xs.all okV = true := by
  rw [List.length_eq_zero_iff, List.filter_eq_nil_iff, List.all_eq_true]
  constructor
  · intro h x hx
    have := h x hx
    simpa using this
  · intro h x hx
    simp [h x hx]
theorem Tm.pls_lens (t : Tm) {r : List Nat} (h : r ∈ t.pls []) : r.length < t.enc.length := by
  obtain ⟨s, e, l⟩ := Tm.pls_pre t h
  simp only [List.nil_append] at e
  rw [e]
  exact l
theorem Tm.pls_ne (t : Tm) : t.pls [] ≠ [] := by cases t <;> simp [Tm.pls]
theorem Tm.reds_len (t : Tm) : (t.reds []).length ≤ t.enc.length := by
  have h := redK_len t.enc (t.pls []) t.enc.length
  rw [redK_all] at h
  exact h
theorem filter_take {xs : List V} {i : Nat} {x : V} (h : xs[i]? = some x) : (xs.take (i + 1)).filter (fun v => !okV v) = (xs.take i).filter (fun v => !okV v) ++ (if okV x = true then [] else [x]) := by
  rw [List.take_add_one, h, List.filter_append]
  cases hx : okV x <;> simp [hx]
theorem fits_iff {xs : List V} (l : xs.length ≤ 1000) : fitsV xs = decide ((xs.filter fun v => !okV v).length = 0) := by
  unfold fitsV
  rw [decide_eq_true l, Bool.true_and]
  by_cases h : xs.all okV = true
  · rw [h, decide_eq_true (bigs_nil.mpr h)]
  · rw [decide_eq_false (fun z => h (bigs_nil.mp z))]
    simpa using h
theorem plcs_ref (qs : List (List Nat)) (h : Addr) (r : List V) : plcs qs ≠ V.ref h :: r := by cases qs <;> simp
theorem plcs_off {H : Hp} {s d : Addr} {m : Stm} {qs : List (List Nat)} (st : StAt H s m) (h : H d = some (.lst (plcs qs))) : d ≠ s := fun z => by
  rw [z, st.2.1] at h
  exact plcs_ref qs _ _ (HO.lst.inj (Option.some.inj h)).symm
end Ly
set_option Elab.async false
set_option linter.all false
set_option maxRecDepth 100000
set_option maxHeartbeats 2000000
/-! Ly: roads; lists of terms as data; slices of lists -/
namespace Ly
open PySem PySem.Spec PyProof.Rows L2 Evl
/-- what a road passes: the terms, or which error comes first -/
inductive Res where
  | ok (ts : List Tm)
  | none
  | large
def Res.cons (t : Tm) : Res → Res
  | .ok ts => .ok (t :: ts)
  | r => r
def Tm.isRed (t : Tm) (p : List Nat) : Bool := decide (p ∈ t.reds [])
def Tm.pass : Tm → List (List Nat) → Res
  | t, [] => .ok [t]
  | t, p :: r => if t.isRed p = false then .none else if fitsV (t.step p).enc = false then .large else Res.cons t (Tm.pass (t.step p) r)
theorem Tm.isRed_iff {t : Tm} {p : List Nat} : t.isRed p = true ↔ ∃ i b u, t.Red p i b u := by
  unfold Tm.isRed
  rw [decide_eq_true_iff]
  exact Tm.red_mem
/-- a road of redexes -/
inductive Road : Tm → List (List Nat) → Prop
  | nil {t : Tm} : Road t []
  | cons {t : Tm} {p : List Nat} {r : List (List Nat)} (h : t.isRed p = true) (hr : Road (t.step p) r) : Road t (p :: r)
/-- where a road leads (its places taken for redexes) -/
def Tm.along : Tm → List (List Nat) → Tm
  | t, [] => t
  | t, p :: r => (t.step p).along r
theorem Tm.along_app (t : Tm) : ∀ (r s : List (List Nat)), t.along (r ++ s) = (t.along r).along s
  | [], _ => rfl
  | p :: r, s => Tm.along_app (t.step p) r s
theorem Road.snoc {t : Tm} {r : List (List Nat)} {p : List Nat} (h : Road t r) (hp : (t.along r).isRed p = true) : Road t (r ++ [p]) := by
  induction h with
  | nil => exact .cons hp .nil
  | cons h _ ih => exact .cons h (ih hp)
/-! the terms passed, seen from behind: how a loop gathers them -/
inductive Pass (t : Tm) : List (List Nat) → List Tm → Tm → Prop
  | nil : Pass t [] [t] t
  | snoc {r : List (List Nat)} {ts : List Tm} {u : Tm} {p : List Nat} (h : Pass t r ts u) (hp : u.isRed p = true) (hf : fitsV (u.step p).enc = true) : Pass t (r ++ [p]) (ts ++ [u.step p]) (u.step p)
theorem pass_app {t u : Tm} {r : List (List Nat)} {ts : List Tm} (h : Pass t r ts u) : ∀ s, Tm.pass t (r ++ s) = match Tm.pass u s with
    | .ok us => .ok (ts.dropLast ++ us)
    | e => e := by
  induction h with
  | nil =>
    intro s
    show Tm.pass t s = _
    cases Tm.pass t s <;> rfl
  | @snoc r ts u p h hp hf ih =>
    intro s
    rw [List.append_assoc, List.singleton_append, ih]
    have e : Tm.pass u (p :: s) = Res.cons u (Tm.pass (u.step p) s) := by
      show (if u.isRed p = false then Res.none else if fitsV (u.step p).enc = false then Res.large else _) = _
      rw [if_neg (by rw [hp]; simp), if_neg (by rw [hf]; simp)]
    rw [e]
    have hl : ∃ ts0, ts = ts0 ++ [u] := by
      cases h with
      | nil => exact ⟨[], rfl⟩
      | snoc _ _ _ => exact ⟨_, rfl⟩
    obtain ⟨ts0, rfl⟩ := hl
    cases Tm.pass (u.step p) s <;> simp [Res.cons]
theorem Pass.done {t u : Tm} {r : List (List Nat)} {ts : List Tm} (h : Pass t r ts u) : Tm.pass t r = .ok ts := by
  have e := pass_app h []
  rw [List.append_nil] at e
  rw [e]
  have hl : ∃ ts0, ts = ts0 ++ [u] := by
    cases h with
    | nil => exact ⟨[], rfl⟩
    | snoc _ _ _ => exact ⟨_, rfl⟩
  obtain ⟨ts0, rfl⟩ := hl
  simp [Tm.pass]
theorem Pass.last {t u : Tm} {r : List (List Nat)} {ts : List Tm} (h : Pass t r ts u) : ∃ ts0, ts = ts0 ++ [u] := by
  cases h with
  | nil => exact ⟨[], rfl⟩
  | snoc _ _ _ => exact ⟨_, rfl⟩
theorem Pass.none {t u : Tm} {r s : List (List Nat)} {ts : List Tm} {p : List Nat} (h : Pass t r ts u) (hp : u.isRed p = false) : Tm.pass t (r ++ p :: s) = .none := by
  rw [pass_app h]
  have e : Tm.pass u (p :: s) = Res.none := if_pos hp
  rw [e]
theorem Pass.large {t u : Tm} {r s : List (List Nat)} {ts : List Tm} {p : List Nat} (h : Pass t r ts u) (hp : u.isRed p = true) (hf : fitsV (u.step p).enc = false) : Tm.pass t (r ++ p :: s) = .large := by
  rw [pass_app h]
  have e : Tm.pass u (p :: s) = Res.large := by
    show (if u.isRed p = false then Res.none else if fitsV (u.step p).enc = false then Res.large else _) = _
    rw [if_neg (by rw [hp]; simp), if_pos hf]
  rw [e]
theorem Pass.len {t u : Tm} {r : List (List Nat)} {ts : List Tm} (h : Pass t r ts u) : ts.length = r.length + 1 := by
  induction h with
  | nil => rfl
  | snoc _ _ _ ih => simp [ih]
theorem fits_len {xs : List V} (h : fitsV xs = true) : xs.length ≤ 1000 := by
  unfold fitsV at h
  rw [Bool.and_eq_true] at h
  exact of_decide_eq_true h.1
theorem Tm.step_le (t : Tm) (p : List Nat) : (t.step p).enc.length ≤ t.enc.length + t.enc.length * t.enc.length := by
  unfold Tm.step
  split
  · rename_i i b u hred
    have h1 := Tm.rep_len (v := Tm.put u 0 b) hred
    have h2 := Tm.put_len u b 0
    have h3 := Tm.sub_lt hred
    have h4 : (Tm.app (.lam b) u).enc.length = b.enc.length + u.enc.length + 2 := by
      simp only [Tm.enc, List.length_cons, List.length_append]
      omega
    have h5 : b.enc.length * u.enc.length ≤ t.enc.length * t.enc.length := Nat.mul_le_mul (by omega) (by omega)
    omega
  · omega
/-- how long a step's result can be -/
theorem Tm.step_big {t : Tm} {p : List Nat} (h : t.enc.length ≤ 3000) : (t.step p).enc.length ≤ 9006000 := by
  unfold Tm.step
  split
  · rename_i i b u hred
    have h1 := Tm.rep_len (v := Tm.put u 0 b) hred
    have h2 := Tm.put_len u b 0
    have h3 := Tm.sub_lt hred
    have h4 : (Tm.app (.lam b) u).enc.length = b.enc.length + u.enc.length + 2 := by
      simp only [Tm.enc, List.length_cons, List.length_append]
      omega
    have h5 : b.enc.length * u.enc.length ≤ 3000 * 3000 := Nat.mul_le_mul (by omega) (by omega)
    omega
  · omega
/-- a variable replaced by another -/
theorem Tm.var_set (t : Tm) {i : Nat} {n : Int} (c : Nat) (h : t.enc[i]? = some (.int n)) : ∃ t' : Tm, t'.enc = t.enc.take i ++ [.int (c : Int)] ++ t.enc.drop (i + 1) := by
  have hi := (List.getElem?_eq_some_iff.mp h).1
  obtain ⟨p, u, post, _, hs, hd⟩ := t.part_at hi
  have h0 : (t.enc.drop i)[0]? = some (.int n) := by rw [List.getElem?_drop, Nat.add_zero]; exact h
  rw [hd] at h0
  cases u with
  | lam b => simp [Tm.enc] at h0
  | app f a => simp [Tm.enc] at h0
  | var m => exact ⟨Tm.rep (.var c) t p, Tm.rep_enc (.var c) t p hs⟩
/-! ### lists of terms as data -/
inductive Ts (K : PySem.W.Frag) (H : Hp) : List Addr → List Tm → Prop
  | nil : Ts K H [] []
  | cons {a : Addr} {as : List Addr} {t : Tm} {ts : List Tm} (h : SqT K H a t.enc) (r : Ts K H as ts) : Ts K H (a :: as) (t :: ts)
section
variable {K : PySem.W.Frag} {H H' : Hp} {Q : VK}
theorem Ts.mono {as : List Addr} {ts : List Tm} (h : Ts K H as ts) (e : ∀ a xs, SqT K H a xs → SqT K H' a xs) : Ts K H' as ts := by
  induction h with
  | nil => exact .nil
  | cons h _ ih => exact .cons (e _ _ h) ih
theorem Ts.ex {as : List Addr} {ts : List Tm} (h : Ts K H as ts) (e : Ex H H') : Ts K H' as ts := h.mono fun a xs z => ex_t e z
theorem Ts.snoc {as : List Addr} {ts : List Tm} {a : Addr} {t : Tm} (h : Ts K H as ts) (ha : SqT K H a t.enc) : Ts K H (as ++ [a]) (ts ++ [t]) := by
  induction h with
  | nil => exact .cons ha .nil
  | cons h _ ih => exact .cons h ih
theorem Ts.len {as : List Addr} {ts : List Tm} (h : Ts K H as ts) : as.length = ts.length := by
  induction h with
  | nil => rfl
  | cons _ _ ih => simp [ih]
theorem Ts.at {as : List Addr} {ts : List Tm} (h : Ts K H as ts) {i : Nat} {a : Addr} (ha : as[i]? = some a) : ∃ t, ts[i]? = some t ∧ SqT K H a t.enc := by
  induction h generalizing i with
  | nil => simp at ha
  | cons h _ ih =>
    cases i with
    | zero =>
      simp at ha
      subst ha
      exact ⟨_, rfl, h⟩
    | succ i => exact ih (by simpa using ha)
abbrev refs (as : List Addr) : List V := as.map V.ref
def tmd (t : Tm) : PyData := .tuple (t.enc.map dv)
theorem Ts.dp {as : List Addr} {ts : List Tm} (h : Ts K H as ts) : DpAll K H (refs as) (ts.map tmd) := by
  induction h with
  | nil => exact .nil
  | cons h _ ih => exact .cons (.tup h (dp_nodes (Tm.nds _))) ih
theorem lay_tms : ∀ ts : List Tm, PyData.canLayAll0 (ts.map tmd) = true
  | [] => rfl
  | t :: ts => by
    have h1 : (tmd t).canLay0 = true := lay_nodes t.nds
    show ((tmd t).canLay0 && PyData.canLayAll0 (ts.map tmd)) = true
    rw [h1, lay_tms ts]
    rfl
theorem depth_tms : ∀ ts : List Tm, PyData.depthAll (ts.map tmd) ≤ 2
  | [] => by simp [PyData.depthAll]
  | t :: ts => by
    have h1 : (tmd t).depth ≤ 2 := depth_nodes
    have h2 := depth_tms ts
    simp only [List.map_cons, PyData.depthAll]
    omega
theorem shaped_tms (ts : List Tm) : SeqAt.shaped (.list (ts.map tmd)) = true := by
  have h1 : (PyData.list (ts.map tmd)).canLay0 = true := lay_tms ts
  have h2 : (PyData.list (ts.map tmd)).depth ≤ 3 := by
    have h := depth_tms ts
    simp only [PyData.depth]
    omega
  unfold SeqAt.shaped
  rw [h1, Bool.true_and]
  exact decide_eq_true (by omega)
theorem eqv_tms : ∀ ts : List Tm, PyData.eqvAll (ts.map tmd) (ts.map tmd) = true
  | [] => by simp [PyData.eqvAll]
  | t :: ts => by
    have ih := eqv_tms ts
    have h1 : PyData.eqv (tmd t) (tmd t) = true := by
      show PyData.eqv (.tuple (t.enc.map dv)) (.tuple (t.enc.map dv)) = true
      rw [PyData.eqv, eqv_nodes t.nds t.nds, decide_eq_true rfl]
    rw [List.map_cons, PyData.eqvAll, ih, h1]
    rfl
theorem w_eqTs {p q : Addr} {as bs : List Addr} {ts : List Tm} (h : H p = some (.lst (refs as))) (k : H q = some (.lst (refs bs))) (ht : Ts K H as ts) (kt : Ts K H bs ts) (qq : Q (.bl true) H) : rEqD K (.ref p) (.ref q) H Q :=
  ⟨_, _, .lst (SqL.of h) ht.dp, .lst (SqL.of k) kt.dp, shaped_tms ts, shaped_tms ts, by rw [PyData.eqv, eqv_tms]; exact qq⟩
theorem w_eqTZ {p : Addr} {as : List Addr} {ts : List Tm} {x : Str} (o : wordOk x = true) (z : SeqAt.shaped (.str x) = true) (h : H p = some (.lst (refs as))) (ht : Ts K H as ts) (qq : Q (.bl false) H) : rEqD K (.ref p) (.str x) H Q :=
  ⟨_, _, .lst (SqL.of h) ht.dp, .str x, shaped_tms ts, z, by rw [show PyData.eqv (.list (ts.map tmd)) (.str x) = false by simp [PyData.eqv]]; exact qq⟩
theorem w_eqZZ {x y : Str} (z : SeqAt.shaped (.str x) = true) (z2 : SeqAt.shaped (.str y) = true) {b : Bool} (e : PyData.eqv (.str x) (.str y) = b) (qq : Q (.bl b) H) : rEqD K (.str x) (.str y) H Q :=
  ⟨_, _, .str x, .str y, z, z2, by rw [e]; exact qq⟩
theorem w_eqW {a b : Addr} {x : Str} (o : wordOk x = true) (h : SqT K H a [.str x]) (k : SqT K H b [.str x]) (q : Q (.bl true) H) : rEqD K (.ref a) (.ref b) H Q := by
  unfold wordOk at o
  rw [Bool.and_eq_true] at o
  refine ⟨_, _, .tup h (.cons (.str _) .nil), .tup k (.cons (.str _) .nil), o.1, o.1, ?_⟩
  rw [o.2]
  exact q
/-! ### slices of lists -/
theorem w_slL {a : Addr} {xs : List V} {lo hi : Option Int} (h : SqL K H a xs) (q : ∀ p, H p = none → Q (.ref p) (upd H p (.lst (cutV xs lo hi)))) : rSlL K (.ref a) lo hi H Q := ⟨a, xs, rfl, h, q⟩
theorem plcs_take (qs : List (List Nat)) (i : Nat) : (plcs qs).take i = plcs (qs.take i) := List.map_take.symm
theorem plcs_drop (qs : List (List Nat)) (i : Nat) : (plcs qs).drop i = plcs (qs.drop i) := List.map_drop.symm
theorem plcs_app (qs rs : List (List Nat)) : plcs qs ++ plcs rs = plcs (qs ++ rs) := List.map_append.symm
end
theorem Small.app {qs rs : List (List Nat)} (h : Small qs) (k : Small rs) : Small (qs ++ rs) := fun q hq => (List.mem_append.mp hq).elim (h q) (k q)
theorem Small.take {qs : List (List Nat)} (h : Small qs) (i : Nat) : Small (qs.take i) := fun q hq => h q (List.mem_of_mem_take hq)
theorem Small.drop {qs : List (List Nat)} (h : Small qs) (i : Nat) : Small (qs.drop i) := fun q hq => h q (List.mem_of_mem_drop hq)
/-! ### redexes by their indexes; a step -/
def redB (xs : List V) (i : Nat) : Bool := decide (xs[i]? = some (.str "app")) && decide (xs[i + 1]? = some (.str "lam"))
theorem redB_iff {xs : List V} {i : Nat} : redB xs i = true ↔ xs[i]? = some (.str "app") ∧ xs[i + 1]? = some (.str "lam") := by simp [redB]
theorem redB_of {xs : List V} {i : Nat} {x : V} (h : xs[i]? = some x) (n : x ≠ .str "app") : redB xs i = false := by
  simp [redB, h, n]
theorem redB_app {xs : List V} {i : Nat} {y : V} (h : xs[i]? = some (.str "app")) (h2 : xs[i + 1]? = some y) : redB xs i = decide (y = .str "lam") := by
  simp [redB, h, h2]
def redI (xs : List V) : Nat → List Nat
  | 0 => []
  | i + 1 => redI xs i ++ (if redB xs i = true then [i] else [])
theorem redI_len (xs : List V) : ∀ i, (redI xs i).length ≤ i
  | 0 => Nat.zero_le _
  | i + 1 => by
    have := redI_len xs i
    simp only [redI, List.length_append]
    split
    · simp only [List.length_singleton]; omega
    · simp only [List.length_nil]; omega
theorem redI_mem {xs : List V} {j : Nat} : ∀ {n : Nat}, j ∈ redI xs n ↔ j < n ∧ redB xs j = true
  | 0 => by simp [redI]
  | n + 1 => by
    have ih := redI_mem (xs := xs) (j := j) (n := n)
    simp only [redI, List.mem_append, ih]
    constructor
    · rintro (⟨h1, h2⟩ | h)
      · exact ⟨by omega, h2⟩
      · split at h
        · rename_i hb
          rw [List.mem_singleton.mp h]
          exact ⟨by omega, hb⟩
        · simp at h
    · rintro ⟨h1, h2⟩
      by_cases e : j = n
      · subst e
        right
        rw [if_pos h2]
        exact List.mem_singleton.mpr rfl
      · exact .inl ⟨by omega, h2⟩
theorem redI_K (xs : List V) (qs : List (List Nat)) : ∀ n, (redI xs n).map (fun i => qs.getD i []) = redK xs qs n
  | 0 => rfl
  | n + 1 => by
    simp only [redI, redK, List.map_append, redI_K xs qs n]
    congr 1
    by_cases h : redB xs n = true
    · rw [if_pos h, if_pos (redB_iff.mp h)]
      rfl
    · rw [if_neg h, if_neg (fun z => h (redB_iff.mpr z))]
      rfl
theorem red_of {t v : Tm} {p : List Nat} {i : Nat} (h : t.sub p = some (i, v)) : redB t.enc i = true ↔ ∃ b u, v = .app (.lam b) u := by
  obtain ⟨⟨post, hd⟩, _⟩ := Tm.sub_at t p [] h
  have g : ∀ k, t.enc[i + k]? = (v.enc ++ post)[k]? := fun k => by rw [← hd, List.getElem?_drop]
  have g0 := g 0
  have g1 := g 1
  rw [Nat.add_zero] at g0
  rw [redB_iff, g0, g1]
  cases v with
  | var n => simp [Tm.enc]
  | lam b => simp [Tm.enc, str_ne1]
  | app f a =>
    have hl := Tm.head_lam f (a.enc ++ post)
    have e : ((Tm.app f a).enc ++ post)[1]? = (f.enc ++ (a.enc ++ post))[0]? := by simp [Tm.enc]
    rw [e, hl]
    cases f with
    | var n => simp [Tm.enc, Tm.isLam]
    | lam b => simp [Tm.enc, Tm.isLam]
    | app f a => simp [Tm.enc, Tm.isLam]
theorem red_sub {t v : Tm} {p : List Nat} {i : Nat} (h : t.sub p = some (i, v)) : (redB t.enc i = true ∧ ∃ b u, t.Red p i b u) ∨ (redB t.enc i = false ∧ ∀ j b u, ¬ t.Red p j b u) := by
  have e := red_of h
  cases hb : redB t.enc i with
  | true =>
    obtain ⟨b, u, rfl⟩ := e.mp hb
    exact .inl ⟨rfl, b, u, h⟩
  | false =>
    refine .inr ⟨rfl, fun j b u z => ?_⟩
    unfold Tm.Red at z
    rw [h] at z
    have z2 := (Prod.mk.inj (Option.some.inj z)).2
    rw [e.mpr ⟨b, u, z2⟩] at hb
    cases hb
theorem fits_mid {xs ys zs : List V} (h : fitsV ys = false) : fitsV (xs ++ ys ++ zs) = false := by
  cases e : fitsV (xs ++ ys ++ zs) with
  | false => rfl
  | true =>
    unfold fitsV at e h
    rw [Bool.and_eq_true] at e
    have h1 := of_decide_eq_true e.1
    have h2 := e.2
    rw [List.all_append, List.all_append, Bool.and_eq_true, Bool.and_eq_true] at h2
    simp only [List.length_append] at h1
    rw [h2.1.2, decide_eq_true (by omega)] at h
    cases h
theorem w_ninS {K : PySem.W.Frag} {H : Hp} {Q : VK} {p : Addr} {r : List Nat} {qs : List (List Nat)} (h : H p = some (.lst (plcs qs))) (q : Q (.bl (!decide (r ∈ qs))) H) : rIn K true (.str (pl r)) (.ref p) H Q :=
  ⟨p, _, rfl, .inl (SqL.of h), rfl, flat_pl qs, by rw [inV_pl]; exact q⟩
theorem road_cut {road : List (List Nat)} {i : Nat} {r : List Nat} (h : road[i]? = some r) : road = road.take i ++ r :: road.drop (i + 1) := by
  obtain ⟨hl, e⟩ := List.getElem?_eq_some_iff.mp h
  rw [← e, ← List.drop_eq_getElem_cons hl, List.take_append_drop]
theorem road_take {road : List (List Nat)} {i : Nat} {r : List Nat} (h : road[i]? = some r) : road.take (i + 1) = road.take i ++ [r] := by
  rw [List.take_add_one, h]
  rfl
theorem red_or (u : Tm) (r : List Nat) : (u.isRed r = true ∧ ∃ i b v, u.Red r i b v) ∨ (u.isRed r = false ∧ ∀ i b v, ¬ u.Red r i b v) := by
  cases h : u.isRed r with
  | true => exact .inl ⟨rfl, Tm.isRed_iff.mp h⟩
  | false => exact .inr ⟨rfl, fun i b v z => by rw [Tm.isRed_iff.mpr ⟨i, b, v, z⟩] at h; cases h⟩
/-- what a road comes to: all terms, or its first error -/
theorem pass_all (t : Tm) (road : List (List Nat)) : (∃ ts u, Pass t road ts u) ∨ Tm.pass t road = .large ∨ Tm.pass t road = .none := by
  suffices h : ∀ (s r : List (List Nat)) (ts : List Tm) (u : Tm), r ++ s = road → Pass t r ts u → (∃ ts u, Pass t road ts u) ∨ Tm.pass t road = .large ∨ Tm.pass t road = .none from h road [] [t] t rfl .nil
  intro s
  induction s with
  | nil =>
    intro r ts u e pa
    rw [List.append_nil] at e
    subst e
    exact .inl ⟨ts, u, pa⟩
  | cons p s ih =>
    intro r ts u e pa
    cases hi : u.isRed p with
    | false => exact .inr (.inr (by rw [← e]; exact pa.none hi))
    | true =>
      cases hf : fitsV (u.step p).enc with
      | false => exact .inr (.inl (by rw [← e]; exact pa.large hi hf))
      | true => exact ih (r ++ [p]) _ _ (by rw [← e]; simp) (pa.snoc hi hf)
end Ly
set_option Elab.async false
set_option linter.all false
set_option maxRecDepth 100000
set_option maxHeartbeats 2000000
/-! Ly: steps at the first redex -/
namespace Ly
open PySem PySem.Spec PyProof.Rows L2 Evl
theorem redI_nil {xs : List V} : ∀ {n : Nat}, (∀ j, j < n → redB xs j = false) → redI xs n = []
  | 0, _ => rfl
  | n + 1, h => by
    simp only [redI]
    rw [redI_nil fun j hj => h j (by omega), h n (by omega)]
    rfl
theorem redI_one {xs : List V} {i : Nat} (h : redB xs i = true) (h0 : ∀ j, j < i → redB xs j = false) : ∀ {n : Nat}, i < n → ∃ r, redI xs n = i :: r
  | 0, hn => absurd hn (Nat.not_lt_zero _)
  | n + 1, hn => by
    simp only [redI]
    by_cases e : i = n
    · subst e
      rw [redI_nil h0, h]
      exact ⟨[], rfl⟩
    · obtain ⟨r, hr⟩ := redI_one h h0 (n := n) (by omega)
      rw [hr]
      exact ⟨_, rfl⟩
/-- no index is a redex's: no redex -/
theorem Tm.no_reds {t : Tm} (h : ∀ j, j < t.enc.length → redB t.enc j = false) : t.reds [] = [] := by
  rw [← redK_all t, ← redI_K, redI_nil h]
  rfl
/-- the least index of a redex: the first redex -/
theorem Tm.first_red {t : Tm} {i : Nat} (hi : i < t.enc.length) (h : redB t.enc i = true) (h0 : ∀ j, j < i → redB t.enc j = false) : ∃ p r b u, (t.pls [])[i]? = some p ∧ t.reds [] = p :: r ∧ t.Red p i b u := by
  obtain ⟨p, u, post, hp, hs, hd⟩ := t.part_at hi
  rcases red_sub hs with ⟨_, b, v, hr⟩ | ⟨hb, _⟩
  · obtain ⟨r, he⟩ := redI_one h h0 hi
    refine ⟨p, r.map (fun i => (t.pls []).getD i []), b, v, hp, ?_, hr⟩
    rw [← redK_all t, ← redI_K, he, List.map_cons, List.getD_eq_getElem?_getD, hp]
    rfl
  · rw [h] at hb
    cases hb
/-- a step changes nothing in front of it -/
theorem Tm.step_low {t : Tm} {p : List Nat} {i : Nat} {b u : Tm} (h : t.Red p i b u) {j : Nat} (hj : j + 1 < i) : redB (t.step p).enc j = redB t.enc j := by
  have lt := Tm.sub_lt h
  have e := Tm.step_enc h
  have g : ∀ k, k < i → (t.step p).enc[k]? = t.enc[k]? := fun k hk => by
    rw [e, List.append_assoc, List.getElem?_append_left (by rw [List.length_take]; omega), List.getElem?_take_of_lt hk]
  unfold redB
  rw [g j (by omega), g (j + 1) hj]
/-- what steps at the first redex come to -/
inductive Wk where
  | done (u : Tm)
  | out
  | large
def Tm.nf : Nat → Tm → List (List Nat) × Wk
  | 0, t => ([], match t.reds [] with | [] => .done t | _ => .out)
  | k + 1, t => match t.reds [] with
    | [] => ([], .done t)
    | p :: _ => if fitsV (t.step p).enc = false then ([p], .large) else (p :: (Tm.nf k (t.step p)).1, (Tm.nf k (t.step p)).2)
def preW (r : List (List Nat)) (x : List (List Nat) × Wk) : List (List Nat) × Wk := (r ++ x.1, x.2)
theorem preW_nil (x : List (List Nat) × Wk) : preW [] x = x := rfl
theorem Tm.nf_none {t : Tm} (h : t.reds [] = []) : ∀ k, Tm.nf k t = ([], .done t)
  | 0 => by unfold Tm.nf; rw [h]
  | k + 1 => by unfold Tm.nf; rw [h]
theorem Tm.nf_zero {t : Tm} {p : List Nat} {r : List (List Nat)} (h : t.reds [] = p :: r) : Tm.nf 0 t = ([], .out) := by unfold Tm.nf; rw [h]
theorem Tm.nf_large {t : Tm} {p : List Nat} {r : List (List Nat)} (h : t.reds [] = p :: r) (hf : fitsV (t.step p).enc = false) (k : Nat) : Tm.nf (k + 1) t = ([p], .large) := by
  rw [Tm.nf, h]
  exact if_pos hf
theorem Tm.nf_step {t : Tm} {p : List Nat} {r : List (List Nat)} (h : t.reds [] = p :: r) (hf : fitsV (t.step p).enc = true) (k : Nat) : Tm.nf (k + 1) t = preW [p] (Tm.nf k (t.step p)) := by
  rw [Tm.nf, h]
  exact if_neg (by rw [hf]; simp)
theorem preW_app (r s : List (List Nat)) (x : List (List Nat) × Wk) : preW r (preW s x) = preW (r ++ s) x := by simp [preW]
/-! readings -/
section
variable {K : PySem.W.Frag} {H : Hp} {Q : VK}
theorem w_nnI {i : Int} {A B : Prop} (h : A) : if (!decide (V.int i = V.non)) = true then A else B := iteT h
theorem w_max {i j : Int} {A : Int → Prop} (q : A (if j > i then j else i)) : ∃ a b, [V.int i, V.int j] = [V.int a, V.int b] ∧ A (if b > a then b else a) := ⟨i, j, rfl, q⟩
theorem w_iR2 {σ : L2.St} {R : It → Hp → Prop} {tA : TA} (h : tA σ H fun vs H1 => ∃ i j : Int, vs = [.int i, .int j] ∧ (-(2 ^ 62) ≤ i ∧ i < 2 ^ 62 ∧ -(2 ^ 62) ≤ j ∧ j < 2 ^ 62) ∧ R (Itr i (j - i).toNat) H1) : iRng2 tA σ H R := h
theorem w_iR21 {i j : Int} {B : Int → Int → Prop} (h1 : -(2 ^ 62) ≤ i) (h2 : i < 2 ^ 62) (h3 : -(2 ^ 62) ≤ j) (h4 : j < 2 ^ 62) (q : B i j) : ∃ a b : Int, [V.int i, V.int j] = [V.int a, V.int b] ∧ (-(2 ^ 62) ≤ a ∧ a < 2 ^ 62 ∧ -(2 ^ 62) ≤ b ∧ b < 2 ^ 62) ∧ B a b := ⟨i, j, rfl, ⟨h1, h2, h3, h4⟩, q⟩
theorem w_break {D : Ends} {σ : L2.St} (h : D.bk σ H) : tBreak D σ H := h
theorem w_cont {D : Ends} {σ : L2.St} (h : D.ct σ H) : tCont D σ H := h
theorem kitOne_no {K : PySem.W.Frag} {t : Value} {C : Addr} (d : PySem.W.hasDictIn K C = true) (ty : PySem.W.typeIn K (.ref C) = some (.type "type")) (s : PySem.W.subIn K t (.ref C) = some false) (s2 : PySem.W.subIn K (.ref C) (.ref C) = some true) : PySem.W.kitOne K t (.ref C) = some false := by
  unfold PySem.W.kitOne
  split
  · rename_i h
    have e : t = .ref C := by simpa using h
    rw [e, s2] at s
    cases s
  · exact kcls_mk d ty s
/-- a term and a number -/
def pairD (t : Tm) (n : Int) : PyData := .tuple [tmd t, .int n]
theorem pair_dp {a : Addr} {t : Tm} {n : Int} (h : SqT K H a t.enc) : DpAll K H [V.ref a, V.int n] [tmd t, .int n] := .cons (.tup h (dp_nodes t.nds)) (.cons (.int n) .nil)
theorem pair_shaped (t : Tm) (n : Int) : SeqAt.shaped (pairD t n) = true := by
  have h1 : (pairD t n).canLay0 = true := by
    show PyData.canLayAll0 [tmd t, .int n] = true
    have h : (tmd t).canLay0 = true := lay_nodes t.nds
    show ((tmd t).canLay0 && PyData.canLayAll0 [.int n]) = true
    rw [h]
    rfl
  have h2 : (pairD t n).depth ≤ 4 := by
    have h : (tmd t).depth ≤ 2 := depth_nodes
    have h0 : (PyData.int n).depth ≤ 1 := by simp [PyData.depth]
    simp only [pairD, PyData.depth, PyData.depthAll]
    simp only [PyData.depth] at h0
    omega
  unfold SeqAt.shaped
  rw [h1, Bool.true_and]
  exact decide_eq_true (by omega)
theorem pair_eqv (t : Tm) (n : Int) : PyData.eqv (pairD t n) (pairD t n) = true := by
  have h1 : PyData.eqv (tmd t) (tmd t) = true := by
    show PyData.eqv (.tuple (t.enc.map dv)) (.tuple (t.enc.map dv)) = true
    rw [PyData.eqv, eqv_nodes t.nds t.nds, decide_eq_true rfl]
  show PyData.eqv (.tuple [tmd t, .int n]) (.tuple [tmd t, .int n]) = true
  rw [PyData.eqv, PyData.eqvAll, h1, PyData.eqvAll, PyData.eqvAll]
  simp [PyData.eqv]
theorem w_nePair {p q x y : Addr} {t : Tm} {n : Int} (h : SqT K H p [.ref x, .int n]) (k : SqT K H q [.ref y, .int n]) (hx : SqT K H x t.enc) (hy : SqT K H y t.enc) (qq : Q (.bl false) H) : rNeD K (.ref p) (.ref q) H Q :=
  ⟨_, _, .tup h (pair_dp hx), .tup k (pair_dp hy), pair_shaped t n, pair_shaped t n, by
    have := pair_eqv t n
    unfold pairD at this
    rw [this]
    exact qq⟩
theorem w_eqPairZ {p x : Addr} {t : Tm} {n : Int} {z : Str} (zs : SeqAt.shaped (.str z) = true) (h : SqT K H p [.ref x, .int n]) (hx : SqT K H x t.enc) (qq : Q (.bl false) H) : rEqD K (.ref p) (.str z) H Q :=
  ⟨_, _, .tup h (pair_dp hx), .str z, pair_shaped t n, zs, by rw [show PyData.eqv (.tuple [tmd t, .int n]) (.str z) = false by simp [PyData.eqv]]; exact qq⟩
theorem w_neZZ {x y : Str} (z : SeqAt.shaped (.str x) = true) (z2 : SeqAt.shaped (.str y) = true) {b : Bool} (e : PyData.eqv (.str x) (.str y) = b) (qq : Q (.bl (!b)) H) : rNeD K (.str x) (.str y) H Q :=
  ⟨_, _, .str x, .str y, z, z2, by rw [e]; exact qq⟩
end
end Ly
set_option Elab.async false
set_option linter.all false
set_option maxRecDepth 100000
set_option maxHeartbeats 2000000
/-! tuples, lists, comprehensions and all() while an exception is handled -/
namespace Ly
open PySem PySem.Spec PyProof.Rows L2 HotX L2H
section
variable {prog : Program} {w : World} {A : Around} {E : Value → Shared → Prop} {s : Shared}
/-- StopIteration comes up, while x1 is handled: what stood stays -/
theorem stopped_hot {α : Type} {x1 : Addr} {Q : α → Shared → Prop} {E' : Value → Shared → Prop} {a1 : Around} (hot : HotAt a1 x1 s.heap)
    (q : ∀ a h', (∀ b o, s.heap.get? b = some o → h'.get? b = some o) → (∃ o, h'.get? a = some o ∧ o.cls = .type "StopIteration") → E' (.ref a) { s with heap := h' }) :
    wpAny (model prog w) a1 (newExc (.type "StopIteration") [] >>= fun e => (raiseNew e : Sem α)) Q E' s := by
  obtain ⟨hh, o1, vs1, h1, d1, c1⟩ := hot
  refine wpAny_bind ?_
  simp only [newExc, newTuple]
  (refine wpAny_bind (wpAny_newObj_type ?_ (by size_fits)); refine wpAny_bind (m := firstArgMember _ _) (wpAny_of_eq (a := Value.none) (by first | rfl | (simp only [firstArgMember]; rfl)) ?_))
  refine wpAny_newObj_type ?_ (by size_fits)
  refine raiseNew_hot ⟨hh, o1, vs1, Heap.get?_push_of_some _ (Heap.get?_push_of_some _ h1), d1, c1⟩ (Nat.ne_of_lt (Heap.lt_size (Heap.get?_push_of_some _ h1))) (Heap.get?_push_size _ rfl) rfl (by first | (simp; done) | (simp; omega) | (simp only [Array.size_append]; simp; omega)) (q _ _ (fun b o e => ?_) ?_)
  · rw [Heap.get?_update_other _ _ (Nat.ne_of_gt (Heap.lt_size (Heap.get?_push_of_some _ e)))]
    exact Heap.get?_push_of_some _ (Heap.get?_push_of_some _ e)
  · exact ⟨_, Heap.get?_update_self _ (Heap.get?_push_size _ rfl) rfl, rfl⟩
/-- the end of a tuple's walk, of a list's walk, while x1 is handled -/
theorem tup_end_hot {it t x1 : Addr} {i : Nat} {items : Array Value} {Q : Option Value → Shared → Prop} (hot : HotAt A x1 s.heap) (hne : x1 ≠ it) (ki : s.heap.IsTupleIter it t i) (kt : s.heap.IsTuple t items) (off : items[i]? = none)
    (q : ∀ h', (∀ b o, b ≠ it → s.heap.get? b = some o → h'.get? b = some o) → Q none { s with heap := h' }) : wpAny (model prog w) A (pyNext (.ref it)) Q E s := by
  obtain ⟨o0, g0, c0, d0⟩ := id ki
  obtain ⟨o2, g2, _, n2, d2⟩ := kt
  unfold pyNext
  refine wpAny_bind (wpAny_attempt (wpAny_callSpecial?_slot (name := Str.ofString "__next__") ki.typeIs F.slot_tuple_iterator_next
    (wpAny_call_entry F.slot_tuple_iterator_next ki.typeIs F.entry_tuple_iterator_next ?_ (F.args_tuple_iterator_next_1 _))))
  show wpAny _ _ (field (.ref it) 0 >>= _) _ _ s
  refine wpAny_bind (wpAny_field g0 d0 (x := .ref t) rfl ?_)
  rw [show (Value.ref t == Value.none) = false from rfl]
  show wpAny _ _ (field (.ref it) 1 >>= _) _ _ s
  refine wpAny_bind (wpAny_field g0 d0 (x := .int i 0) rfl ?_)
  show wpAny _ _ (seqItems? (.ref t) >>= _) _ _ s
  refine wpAny_bind (wpAny_seqItems g2 d2 ?_)
  simp only [Int.toNat_natCast, off]
  refine wpAny_bind (wpAny_rule (wpAny_bind (wpAny_setField g0 d0 (by simp) ?_)))
  obtain ⟨hh, o1, vs1, h1, d1, c1⟩ := hot
  show wpAny _ _ (newExc (.type "StopIteration") [] >>= fun e => (raiseNew e : Sem _)) _ _ _
  refine stopped_hot (x1 := x1) ⟨hh, o1, vs1, (Heap.get?_update_other _ _ (Ne.symm hne)).trans h1, d1, c1⟩ fun a h' k ⟨o, eo, co⟩ => ?_
  refine wpAny_bind (wpAny_isInstance (T := "StopIteration") (b := true) ⟨o, eo, co⟩ isSubtype_stop ?_)
  refine wpAny_pure (q h' fun b u hb e => k b u ?_)
  rw [Heap.get?_update_other _ _ (Ne.symm hb)]
  exact e
theorem lst_end_hot {it l x1 : Addr} {i : Nat} {items : Array Value} {Q : Option Value → Shared → Prop} (hot : HotAt A x1 s.heap) (hne : x1 ≠ it) (ki : s.heap.IsListIter it l i) (kl : s.heap.IsList l items) (off : items[i]? = none)
    (q : ∀ h', (∀ b o, b ≠ it → s.heap.get? b = some o → h'.get? b = some o) → Q none { s with heap := h' }) : wpAny (model prog w) A (pyNext (.ref it)) Q E s := by
  obtain ⟨o0, g0, c0, d0⟩ := id ki
  obtain ⟨o2, g2, _, n2, d2⟩ := kl
  unfold pyNext
  refine wpAny_bind (wpAny_attempt (wpAny_callSpecial?_slot (name := Str.ofString "__next__") ki.typeIs slot_listiter_next
    (wpAny_call_entry slot_listiter_next ki.typeIs entry_listiter_next ?_ (args_listiter_next _))))
  show wpAny _ _ (field (.ref it) 0 >>= _) _ _ s
  refine wpAny_bind (wpAny_field g0 d0 (x := .ref l) rfl ?_)
  rw [show (Value.ref l == Value.none) = false from rfl]
  show wpAny _ _ (field (.ref it) 1 >>= _) _ _ s
  refine wpAny_bind (wpAny_field g0 d0 (x := .int i 0) rfl ?_)
  show wpAny _ _ (seqItems? (.ref l) >>= _) _ _ s
  refine wpAny_bind (wpAny_seqItems g2 d2 ?_)
  simp only [Int.toNat_natCast, off]
  refine wpAny_bind (wpAny_rule (wpAny_bind (wpAny_setField g0 d0 (by simp) ?_)))
  obtain ⟨hh, o1, vs1, h1, d1, c1⟩ := hot
  show wpAny _ _ (newExc (.type "StopIteration") [] >>= fun e => (raiseNew e : Sem _)) _ _ _
  refine stopped_hot (x1 := x1) ⟨hh, o1, vs1, (Heap.get?_update_other _ _ (Ne.symm hne)).trans h1, d1, c1⟩ fun a h' k ⟨o, eo, co⟩ => ?_
  refine wpAny_bind (wpAny_isInstance (T := "StopIteration") (b := true) ⟨o, eo, co⟩ isSubtype_stop ?_)
  refine wpAny_pure (q h' fun b u hb e => k b u ?_)
  rw [Heap.get?_update_other _ _ (Ne.symm hb)]
  exact e
/-- a list's walk, as all() and its like ask it -/
theorem walks_hot {x1 : Addr} {o1 : Obj} {vs1 : Array Value} (hh : A.handled = some (.ref x1)) (d1 : o1.data = .fields vs1) (c1 : vs1[2]? = some .none) (it l : Addr) (hne : l ≠ it) (h1n : x1 ≠ it) (items : Array Value) :
    Walks prog w A it [it, l, x1] [it] items.size (fun i v => items[i]? = some v) (fun i h => (h.IsListIter it l i ∧ h.IsList l items) ∧ h.get? x1 = some o1) where
  sub := fun b hb => List.mem_cons.mpr (.inl (List.mem_singleton.mp hb))
  frame := fun _ _ _ st k => ⟨⟨st.1.1.at fun o e => k it (by simp) o e, st.1.2.at fun o e => k l (by simp) o e⟩, k x1 (by simp) _ st.2⟩
  item := fun i s Q E hi st q => wpAny_pyNext_list_item st.1.1 st.1.2 (x := items[i]) (by simp [hi]) fun h' n1 n2 =>
    q _ h' s.toks (by simp [hi]) ⟨⟨n1, st.1.2.extBut n2.extBut hne⟩, n2.extBut x1 _ h1n st.2⟩ fun b o hb e => n2.extBut b o (fun z => hb (List.mem_singleton.mpr z)) e
  done := fun s Q E st q => lst_end_hot ⟨hh, o1, vs1, st.2, d1, c1⟩ h1n st.1.1 st.1.2 (by simp) fun h' k => q h' s.toks fun b o hb e => k b o (fun z => hb (List.mem_singleton.mpr z)) e
  self := fun _ _ _ _ st q => wpAny_pyIter_listiter st.1.1 q
end
section
variable {X : Cx}
theorem cr_allH (hc : HotC X) : CallR X (.builtin "all") (rAll X.K) := by
  intro pins s σ H vs us Q I r h
  obtain ⟨a, bs, rfl, hs, q⟩ := h
  obtain ⟨x1, hh, o1, vs1, g1, d1, c1⟩ := hc.at I
  obtain ⟨its, rv, hl, _⟩ := I.list hs
  rw [Vals.ref1 r]
  have eb := rv.bls
  refine call_all_walk (iter_any hl.isList fun s2 e2 st hne => ?_)
  subst e2
  have g2 := Heap.get?_push_of_some { cls := .type "list_iterator", data := .fields #[.ref a, .int 0 0] } g1
  refine ⟨_, _, _, _, _, _, _, rfl, walks_hot (A := X.A.in1) hh d1 c1 _ a hne (Nat.ne_of_lt (Heap.lt_size g1)) its.toArray, ⟨st, g2⟩, truth_bools eb, fun h' tk k => ?_⟩
  refine ⟨.bl _, H, I.kept fun b o e => k b o (fun z => ?_) (Heap.get?_push_of_some _ e), ?_, q⟩
  · rw [List.mem_singleton.mp z] at e
    exact Nat.lt_irrefl _ (Heap.lt_size e)
  · show Value.bool _ = Value.bool _
    rw [← L2.all_range, eb, List.size_toArray, List.length_map]
/-- [e for x in a tuple], while an exception is handled -/
theorem pe_lcH {elt tg iter : Expr} {ifs : List Expr} {scope : Scope} {own : List (Str × Nat)} {pos : Pos} {tl te : TE} {g : TG} {tt : TT} (hc : HotC X) (hN : X.N.Nodup) (hi : PE X iter tl) (ok : BlkOk X.N X.env.scope scope own)
    (kg : ∀ (s : Shared) (H : Hp) (C : Addr) (cl : List (Str × Addr)) (fp : List Addr), PG (X.blk s H scope (compEnvC scope cl C X.env) fp) tg g)
    (kt : ∀ (s : Shared) (H : Hp) (C : Addr) (cl : List (Str × Addr)) (fp : List Addr), PTs (X.blk s H scope (compEnvC scope cl C X.env) fp) ifs tt)
    (ke : ∀ (s : Shared) (H : Hp) (C : Addr) (cl : List (Str × Addr)) (fp : List Addr), PE (X.blk s H scope (compEnvC scope cl C X.env) fp) elt te)
    (ks : ∀ x, foldedSetIterable iter X.env x = pure x := by intro _; rfl) : PE X (.ListComp elt [⟨tg, iter, ifs, 0⟩] scope pos) (tLc (iTup X.K tl) g tt te (own.map (·.2))) := by
  refine ⟨fun pins s σ H Q I h => ?_⟩
  rw [eval_ListComp]
  have frees : ∀ y ∈ scope.names, y.2 = .free → ∃ c, X.env.cells.lookup y.1 = some c := fun y hy e => (ok.free y hy e).elim (fun k => I.ok.has _ (.inl k)) fun k => I.ok.has _ (.inr k)
  refine wpAny_comprehension_free rfl ks (closure_ok frees) ok.kind (fun y hy e => by rw [ok.uniq y hy, e]) (thn (hi.run pins s σ H _ I h) fun xv s1 ⟨x, H1, I1, r1, q1⟩ => ?_)
  obtain ⟨a, ex, ⟨xs0, hx0⟩, q⟩ := q1
  subst ex
  cases r1
  obtain ⟨its, rv, p0, hz⟩ := I1.tuple hx0
  refine wpAny_pyIter_tuple (show s1.heap.IsTuple a its.toArray from p0) ?_
  obtain ⟨p, hot, hp⟩ := hc
  -- the walker, the new list
  generalize eit : s1.heap.objs.size = it
  have P1 := I1.pin p (List.mem_append_left _ hp)
  have pit : p.1 ≠ it := by rw [← eit]; exact Nat.ne_of_lt (Heap.lt_size P1.1)
  have nit : H1 it = none := I1.hok.fresh (Nat.le_of_eq eit)
  have fit : FpOk X pins H1 it := by rw [← eit]; exact I1.fpOk (Nat.le_refl _) (I1.hok.fresh (Nat.le_refl _))
  generalize es2 : ({ s1 with heap := s1.heap.push { cls := .type "tuple_iterator", data := .fields #[.ref a, .int 0 0] } } : Shared) = s2
  have I2 : Inv X pins σ H1 s2 := by rw [← es2]; exact I1.kept (t' := s1.toks) fun b o e => Heap.get?_push_of_some _ e
  have st2 : s2.heap.IsTupleIter it a 0 := by rw [← es2, ← eit]; exact ⟨_, Heap.get?_push_size _ rfl, rfl, rfl⟩
  have lit : it < s2.heap.objs.size := let ⟨_, e, _⟩ := st2; Heap.lt_size e
  refine wpAny_newObj_type (newEnv_comp ?_) (by show 0 ≤ sizeLine; decide)
  generalize eD : s2.heap.objs.size = D
  have nD : H1 D = none := I2.hok.fresh (Nat.le_of_eq eD)
  have nDit : it ≠ D := by rw [← eD]; exact Nat.ne_of_lt lit
  obtain ⟨W, ⟨m0, w0⟩, turn⟩ := q D nD
  generalize es3 : ({ s2 with heap := s2.heap.push { cls := .type "list", data := .seq ([] : List Value).toArray } } : Shared) = s3
  have I3 : Inv X pins σ (upd H1 D (.lst [])) s3 := by
    rw [← es3]
    refine I2.laid (t' := s2.toks) (fun b o e => Heap.get?_push_of_some _ e) (Nat.le_of_eq eD) ⟨Nat.zero_le _, [], 0, .nil, ?_⟩
    rw [← eD]
    exact Heap.get?_push_size _ rfl
  have st3 : s3.heap.IsTupleIter it a 0 := by rw [← es3]; exact st2.at fun o e => Heap.get?_push_of_some _ e
  have lit3 : it < s3.heap.objs.size := let ⟨_, e, _⟩ := st3; Heap.lt_size e
  have f3 : FpOk X pins (upd H1 D (.lst [])) it := ⟨by rw [upd_ne nDit]; exact nit, fit.2⟩
  have P3 := I3.pin p (List.mem_append_left _ hp)
  have I4 := block_start (fp := [it]) I3 ok hN fun b hb => by rw [List.mem_singleton.mp hb]; exact ⟨f3, lit3⟩
  have pg := kg s3 (upd H1 D (.lst [])) s3.heap.objs.size (cellsFrom (s3.heap.objs.size + 1) scope.names (cloFrom X.env.cells scope.names [])) [it]
  have pt := kt s3 (upd H1 D (.lst [])) s3.heap.objs.size (cellsFrom (s3.heap.objs.size + 1) scope.names (cloFrom X.env.cells scope.names [])) [it]
  have pe := ke s3 (upd H1 D (.lst [])) s3.heap.objs.size (cellsFrom (s3.heap.objs.size + 1) scope.names (cloFrom X.env.cells scope.names [])) [it]
  show codeAny _ _ (.compStart (.ListComp elt [⟨tg, iter, ifs, 0⟩] scope pos) 0 (.ref it) (.ref D) (compEnvC scope (cellsFrom (s3.heap.objs.size + 1) scope.names (cloFrom X.env.cells scope.names [])) s3.heap.objs.size X.env)) (compPost (model X.prog X.w) X.A X.xe none _ (.ref D) s3.heap.objs.size) { s3 with heap := pushCells (s3.heap.push { cls := .type "dict", data := .dict #[] }) scope.names }
  generalize ece : compEnvC scope (cellsFrom (s3.heap.objs.size + 1) scope.names (cloFrom X.env.cells scope.names [])) s3.heap.objs.size X.env = ce at I4 pg pt pe ⊢
  have cL : ce.locals = s3.heap.objs.size := by subst ece; rfl
  generalize eH3 : upd H1 D (.lst []) = H3 at I3 I4 pg pt pe w0 f3 P3
  generalize es4 : ({ s3 with heap := pushCells (s3.heap.push { cls := .type "dict", data := .dict #[] }) scope.names } : Shared) = s4 at I4 ⊢
  have keep4 : ∀ b o, s3.heap.get? b = some o → s4.heap.get? b = some o := fun b o e => by rw [← es4]; exact pushCells_keeps _ _ _ _ (Heap.get?_push_of_some _ e)
  have st4 : s4.heap.IsTupleIter it a 0 := st3.at fun o e => keep4 _ _ e
  have I5 : Inv (X.blk s3 H3 scope ce [it]) [p] (wipe σ (own.map (·.2))) H3 s4 := I4.pins_of fun u hu => by
    rw [List.mem_singleton.mp hu]
    exact ⟨keep4 _ _ P3.1, P3.2.1, by show p.1 ≠ ce.locals; rw [cL]; exact Nat.ne_of_lt (Heap.lt_size P3.1), fun hm => (List.mem_cons.mp (I3.stkSub p.1 hm)).elim P3.2.2.1 P3.2.2.2.1, P3.2.2.2.2⟩
  have stat : ∀ {σ' : L2.St} {H' : Hp} {s' : Shared}, Inv (X.blk s3 H3 scope ce [it]) [p] σ' H' s' → H' it = none → FpOk (X.blk s3 H3 scope ce [it]) [p] H' it := fun {σ' H' s'} I' n' =>
    ⟨n', (I'.ok.exf it (by simp)).1, I'.ok.exfs it (by simp), .inl (by simp), fun x c e => (I'.ok.exf it (by simp)).2 x c e, fun u hu => by
      have eu : u = p := by simpa using (show u ∈ ([] : List (Addr × Obj)) ++ [p] from hu)
      rw [eu]
      exact pit⟩
  have loop : codeAny (model X.prog X.w) X.A (.compLoop (.ListComp elt [⟨tg, iter, ifs, 0⟩] scope pos) 0 (.ref it) (.ref D) ce) (compPost (model X.prog X.w) X.A X.xe none (fun u s' => ∃ v H', Inv X pins σ H' s' ∧ RelV v u ∧ Q v H') (.ref D) s3.heap.objs.size) s4 := by
    refine compLoop_any (fun n s' => ∃ i H', Inv (X.blk s3 H3 scope ce [it]) [p] (wipe σ (own.map (·.2))) H' s' ∧ s'.heap.IsTupleIter it a i ∧ H' it = none ∧ W i n H') ?_ m0 ⟨0, H3, I5, st4, f3.1, w0⟩
    rintro n s5 ⟨i, H5, J5, st5, n5, w5⟩
    obtain ⟨g0, g1, g2, g3, g4, g5⟩ := stat J5 n5
    rcases turn i n H5 w5 with ⟨⟨ys, hy, hlen⟩, qq⟩ | ⟨⟨ys, y, hy, hyi⟩, Nx, hNx, step⟩
    · obtain ⟨us, rv5, p5, _⟩ := J5.tuple hy
      have P5 := J5.pin p (by simp)
      obtain ⟨vs5, d5, c5⟩ := hot.2
      have lus := rv5.length
      refine tup_end_hot (A := X.A) (x1 := p.1) ⟨hot.1, p.2, vs5, P5.1, d5, c5⟩ pit st5 (show s5.heap.IsTuple a us.toArray from p5) (by simp; omega) fun h' k => ?_
      have J6 : Inv (X.blk s3 H3 scope ce [it]) [p] (wipe σ (own.map (·.2))) H5 { s5 with heap := h' } := J5.turned (t' := s5.toks) (fun b o hb e => k b o hb e) g0 g1 g3 g4 g5
      have I7 : Inv X pins σ H5 { s5 with heap := h' } := I3.call' (ch := [it]) J6.os J6.base J6.hok J6.bare fun b hb => by
        rw [List.mem_singleton.mp hb]
        exact ⟨f3.2.2.2.1, f3.2.1, f3.2.2.2.2.1, f3.2.2.2.2.2⟩
      have nC : H5 s3.heap.objs.size = none := by
        have z : H5 ce.locals = none := J6.free
        rwa [cL] at z
      obtain ⟨m, hn, _⟩ := J6.loc
      have hn : h'.Ns ce.locals m := hn
      rw [cL] at hn
      obtain ⟨e0, e1, e2, e3, e4, e5⟩ := I3.fpOk (Nat.le_refl _) nC
      exact ⟨m, hn, fun h2 sb => ⟨.ref D, H5, I7.turned (t' := s5.toks) (fun b o hb e => (sb.2 b hb).trans e) e0 e1 e3 e4 e5, rfl, qq⟩⟩
    · obtain ⟨us, rv5, p5, _⟩ := J5.tuple hy
      obtain ⟨u, hu, ru⟩ := rv5.get hyi
      refine wpAny_pyNext_tuple_item st5 (show s5.heap.IsTuple a us.toArray from p5) (x := u) (by simpa using hu) fun h' st7 sb => ?_
      have J7 : Inv (X.blk s3 H3 scope ce [it]) [p] (wipe σ (own.map (·.2))) H5 { s5 with heap := h' } := J5.turned (t' := s5.toks) (fun b o hb e => (sb.2 b hb).trans e) g0 g1 g3 g4 g5
      obtain ⟨o7, e7, c7, d7⟩ := id st7
      refine go_of (s := { s5 with heap := h' }) e7 c7 d7 (by decide) ?_
      have J8 := J7.pinned (fp := [it]) (fun b hb => by rw [List.mem_singleton.mp hb]; exact stat J7 n5) (fun b hb => by rw [List.mem_singleton.mp hb]; exact ⟨o7, e7, fun v z => by rw [d7] at z; cases z⟩)
      refine thnF (pg.run _ _ _ H5 y u _ J8 ru (step y H5 ⟨rfl, fun zs hz => by rw [J5.tuple_inj hz hy]; exact hyi⟩)) fun _ s8 ⟨σ8, H8, J9, hw8, q8⟩ => ?_
      refine thnF (pt.run _ s8 σ8 H8 _ J9 q8) fun b s9 ⟨H9, J10, q9⟩ => ?_
      have fin : ∀ {s' : Shared} {H' : Hp}, Inv (X.blk s3 H3 scope ce [it]) ([p] ++ pinsAt [it] h') σ8 H' s' → Nx H' → ∃ m, m < n ∧ ∃ i H', Inv (X.blk s3 H3 scope ce [it]) [p] (wipe σ (own.map (·.2))) H' s' ∧ s'.heap.IsTupleIter it a i ∧ H' it = none ∧ W i m H' := fun {s' H'} J' nx => by
        obtain ⟨m', hm, w'⟩ := hNx H' nx
        have pin' := J'.pin (it, o7) (List.mem_append_right _ (List.mem_append_right _ (mem_pinsAt (by simp) e7)))
        have hl : (wipe σ (own.map (·.2))).length = σ8.length := by rw [← hw8, wipe_length]
        refine ⟨m', hm, i + 1, H', J'.unpinned.weak hl (fun j v e => ?_), ⟨o7, pin'.1, c7, d7⟩, pin'.2.1, w'⟩
        rw [← hw8] at e
        exact (wipe_some e).1
      cases b with
      | false =>
        simp only [Bool.false_eq_true, if_false] at q9 ⊢
        exact fin J10 q9
      | true =>
        simp only [if_true] at q9 ⊢
        refine thnF (pe.run _ s9 σ8 H9 _ J10 q9) fun z s10 ⟨yv, H10, J11, r10, acc, gD, zD, nx⟩ => ?_
        exact app_ok (X := X.blk s3 H3 scope ce [it]) J11 gD zD r10 fun s11 J12 => fin J12 nx
  exact codeAny_compStart_list loop (wpAny_pyIter_tupleiter st4 loop)
end
/-! exceptions whose context is told (what is raised where nothing is handled) -/
section
variable {P : Program} {w : World} {K : PySem.W.Frag} {mg : Str → Option Value} {base : Heap}
theorem okXN {x qual : Str} {st : Stmt} {f : Addr} {fd : FuncData} {N ps : List Str} {k : Nat} {sp : Sp} (F : Fun K x qual st f fd) (S : FnScope N ps (defScope st)) (ln : ∀ vs H Q E, sp vs H Q E → vs.length = ps.length)
    (body : ∀ (cdv : Value) (A : Around) (outer : List Env) (s : Shared) (H : Hp) (vs : List V) (Q : VK) (E : XK), Room k (A.deeper (envOfC qual (defScope st) s.heap.objs.size f cdv)) → sp vs H Q E →
      ∃ t, PSs (cxOf (L2N.CX P w) P w K mg base N qual (defScope st) f cdv A outer s H E) (defBody st) t ∧ t { nx := fun _ H' => Q .non H', rt := Q } (L2.start N vs) H) : FnOk P w K mg base (L2N.CX P w) (k + 1) f fd ps sp := by
  obtain ⟨_, _, _, _, _, _, cv, _, _, rfl, lk, hcd⟩ := F.ex
  exact fn_of lk hcd S ln fun A outer s H vs Q E hr hsp => body cv A outer s H vs Q E hr hsp
/-- the same of a def that is called while an exception is handled -/
theorem okH {CX : CXT} {x qual : Str} {st : Stmt} {f : Addr} {fd : FuncData} {N ps : List Str} {k : Nat} {sp : Sp} (F : Fun K x qual st f fd) (S : FnScope N ps (defScope st)) (ln : ∀ vs H Q E, sp vs H Q E → vs.length = ps.length)
    (body : ∀ (cdv : Value) (A : Around) (outer : List Env) (s : Shared) (H : Hp) (vs : List V) (Q : VK) (E : XK) (p : Addr × Obj), HotC (cxH CX P w K mg base N qual (defScope st) f cdv A outer s H E p) → RoomH k (A.deeper (envOfC qual (defScope st) s.heap.objs.size f cdv)) → sp vs H Q E →
      ∃ t, PSs (cxH CX P w K mg base N qual (defScope st) f cdv A outer s H E p) (defBody st) t ∧ t { nx := fun _ H' => Q .non H', rt := Q } (L2.start N vs) H) : FnH P w K mg base CX (k + 1) f fd ps sp := by
  obtain ⟨_, _, _, _, _, _, cv, _, _, rfl, lk, hcd⟩ := F.ex
  exact fn_ofH lk hcd S ln fun A outer s H vs Q E p hot hr hsp => body cv A outer s H vs Q E p ⟨p, hot, List.mem_singleton.mpr rfl⟩ hr hsp
def DefH (P : Program) (w : World) (K : PySem.W.Frag) (mg : Str → Option Value) (base : Heap) (CX : CXT) (k : Nat) (x : Str) (ps : List Str) (sp : Sp) : Prop :=
  ∃ f fd, mg x = some (.ref f) ∧ PySem.W.keepIn K (.ref f) = true ∧ Binds K fd ps [] ∧ FnH P w K mg base CX k f fd ps sp
theorem DefH.of {CX : CXT} {k : Nat} {x : Str} {ps : List Str} {sp : Sp} {f : Addr} {fd : FuncData} (g : mg x = some (.ref f)) (kp : PySem.W.keepIn K (.ref f) = true) (b : Binds K fd ps []) (G : FnH P w K mg base CX k f fd ps sp) : DefH P w K mg base CX k x ps sp := ⟨f, fd, g, kp, b, G⟩
end
section
variable {X : Cx}
/-- X(e) -/
theorem pmk_own1N {C : Addr} {bs : List Value} {B newId initId : String} {x : Str} {e : Expr} {ta : TE} {p pos : Pos} (F : ExcBaseFacts B newId initId bs) (xi : PySem.W.excIn X.K C bs newId = true) (gC : X.mg x = some (.ref C)) (kC : PySem.W.keepIn X.K (.ref C) = true) (r : Raises X (.ref C)) (hg : Gl X x)
    (he : PE X e ta) (hs : starEach [e] X.env = (false, eval e X.env) :: starEach [] X.env := by rfl) (hdb : (x == ("__debug__" : Str)) = false := by decide) :
    L2N.PMk X (.Call (.Name x p) [e] [] pos) (fun σ H Q => ta σ H fun _ H1 => Q (.ref C) none H1) := by
  intro pins s σ H Q I h
  refine wpAny_Call_Name_kw (ld_glob I hg gC (PySem.W.callWith_K (h₀ := X.base) I.ok.mod.kin kC ?_ hs (by rfl)) hdb)
  rw [hs]
  show wpAny _ _ (spliced ((false, eval e X.env) :: backTo pos (starEach [] X.env))) _ _ s
  refine Calls.spliced_cons (thn (he.run pins s σ H _ I h) fun u s1 ⟨v, H1, J, r1, q1⟩ => Calls.spliced_nil ⟨J.kIn, ?_⟩)
  show wpAny _ _ (call (.ref C) [u]) _ _ _
  obtain ⟨_, _, _, _, _, _, _, _, _, _, _, _, _, _, _, _, _, hC, hN, hni, T⟩ := exc_obj J.kIn xi
  exact wpAny_call_exc_subT F T hC hN hni (fun h' e hm => L2N.mk_of J hm r q1 (J.hok.gone hm.new)) (by show 1 ≤ sizeLine; rw [sizeLine_eq]; omega)
end
theorem roomMark {k : Nat} {A : Around} {v : Option Value} (r : Room k A) : RoomH k (A.mark v) := ⟨r.dp, r.un⟩
theorem pass0H {X : Cx} (σ : L2.St) : PassesAt CX0 X σ E0 := fun _ _ _ _ _ _ h => h.elim
end Ly
set_option Elab.async false
set_option linter.all false
set_option maxRecDepth 100000
set_option maxHeartbeats 2000000
/-! a try with several clauses, each of which may name its exception -/
namespace Ly
open PySem PySem.Spec PyProof.Rows L2
/-- one clause: its class, the slot of its name if it has one, its suite -/
structure Cls1 where
  c : Value
  i : Option Nat
  ts : Addr → Value → Option Addr → TS
def putO (i : Option Nat) (v : Option V) (σ : L2.St) : L2.St := match i with
  | some i => σ.set i v
  | none => σ
def wAll (K : PySem.W.Frag) (Wout : WX) (D : Ends) : List Cls1 → WX
  | [] => Wout
  | k :: r => fun cls d σ H => ∃ b, PySem.W.exmOne K cls k.c = some b ∧
      (b = true → ∀ a, H a = none → k.ts a cls d { nx := fun σ' H' => D.nx (putO k.i none σ') H', rt := D.rt, bk := fun σ' H' => D.bk (putO k.i none σ') H', ct := fun σ' H' => D.ct (putO k.i none σ') H' } (putO k.i (some (.ref a)) σ) H) ∧ (b = false → wAll K Wout D r cls d σ H)
inductive HdsA (X : Cx) : List ExceptHandler → List Cls1 → Prop
  | nil : HdsA X [] []
  | bare {x : Str} {c : Value} {ts : Addr → Value → Option Addr → TS} {st : Stmt} {su : List Stmt} {np p2 : Pos} {hs : List ExceptHandler} {l : List Cls1} (hc : Names X x c)
      (hsu : ∀ (a : Addr) (oe : Obj) (cls : Value) (d : Option Addr) (pn : List (Addr × Obj)), Zc cls d oe → (∃ vs, oe.data = .fields vs) → PSs (X.suite a ((a, oe) :: pn)) (st :: su) (ts a cls d)) (r : HdsA X hs l) :
      HdsA X (.ExceptHandler (some (.Name x np)) none (st :: su) p2 :: hs) (⟨c, none, ts⟩ :: l)
  | named {x n : Str} {i : Nat} {c : Value} {ts : Addr → Value → Option Addr → TS} {st : Stmt} {su : List Stmt} {np p2 : Pos} {hs : List ExceptHandler} {l : List Cls1} (hi : X.N[i]? = some n) (hln : X.env.kindOf n = some .local) (hc : Names X x c)
      (hsu : ∀ (a : Addr) (oe : Obj) (cls : Value) (d : Option Addr) (pn : List (Addr × Obj)), Zc cls d oe → (∃ vs, oe.data = .fields vs) → PSs (X.suite a ((a, oe) :: pn)) (st :: su) (ts a cls d)) (r : HdsA X hs l) :
      HdsA X (.ExceptHandler (some (.Name x np)) (some n) (st :: su) p2 :: hs) (⟨c, some i, ts⟩ :: l)
section
variable {X : Cx}
/-- a clause's class is looked up -/
theorem names_look {x : Str} {c : Value} {np : Pos} {a : Addr} {oe : Obj} {pn : List (Addr × Obj)} {σ : L2.St} {H : Hp} {s : Shared} (S : Inv (X.suite a ((a, oe) :: pn)) [] σ H s) (hc : Names X x c) {Q : Value → Shared → Prop} {E : Value → Shared → Prop} (q : Q c s) :
    wpAny (model X.prog X.w) (X.A.mark (some (.ref a))) (eval (.Name x np) X.env) Q E s := by
  obtain ⟨hg, nd, hm | ⟨hm, hv, nn⟩⟩ := hc
  · exact ld_glob (X := X.suite a ((a, oe) :: pn)) S hg hm q nd
  · exact ld_blt (X := X.suite a ((a, oe) :: pn)) S hg hm hv q nn nd
theorem ps_try_all {body : List Stmt} {h0 : ExceptHandler} {hs : List ExceptHandler} {l : List Cls1} {pos : Pos} {tb : WX → TS} {Wout : WX} (st : X.stack = X.env :: X.outer) (fr : X.env.frame = some X.env.locals) (nd : X.N.Nodup) (tk : Takes X Wout)
    (hb : ∀ (W : WX) (pn : List (Addr × Obj)) (xe : Value → Shared → Prop), Takes (X.tr pn xe) W → PassesOwn (model X.prog X.w) X.A X.env xe → PSs (X.tr pn xe) body (tb W)) (hh : HdsA X (h0 :: hs) l) :
    PS X (.Try body (h0 :: hs) [] [] pos) (fun D σ H => tb (wAll X.K Wout D l) D σ H) := by
  refine ⟨fun pins s σ H D I h => wpAny_Try_except ?_⟩
  have ok := I.ok
  have frs1 : X.A.frames = some (X.env :: X.outer) := ok.frames.trans (congrArg some st)
  let air : Value → Shared → Prop := fun e s1 => wpAny (model X.prog X.w) X.A (noteFrame e X.env) (fun _ s2 => wpAny (model X.prog X.w) X.A (setFlight e none) (fun _ s3 => wpAny (model X.prog X.w) X.A (handleBy e X.env (h0 :: hs)) (SP X pins D) X.xe s3) X.xe s2) X.xe s1
  have caught : Takes (X.tr (X.pn ++ pins) air) (wAll X.K Wout D l) := by
    rintro u s2 ⟨a, B, sI, pins2, σ2, H2, cls, d, rfl, J2, nb, up, sky, na, os, ag, wish⟩
    have J : Inv X pins σ2 H2 sI := J2.ofTry ok
    have sky2 : Sky B (X.env :: X.outer) a (Zc cls d) X.env.locals s2.heap := by rw [← st]; exact sky
    refine Sky.land Zc.steady frs1 fr sky2 fun h3 fl up3 => ?_
    have J3 : Inv X pins σ2 H2 { s2 with heap := h3 } := J.landed nb fl.1 (up.trans up3) os ag
    obtain ⟨oe, vs, ho, hz, hd⟩ := fl.there
    have off : a ∉ L2.frs (X.env :: X.outer) := fun hm => by
      obtain ⟨_, o2, e2, nf⟩ := fl.2.2.1.mem hm
      rw [ho] at e2
      cases e2
      exact nf _ hd
    have nL : a ≠ X.env.locals := fun z => off (List.mem_filterMap.mpr ⟨X.env, List.mem_cons_self, by rw [fr, z]⟩)
    have nF : a ∉ X.fs := fun hm => by
      obtain ⟨e, he, q⟩ := List.mem_filterMap.mp hm
      exact off (List.mem_filterMap.mpr ⟨e, List.mem_cons_of_mem _ he, q⟩)
    have S3 := J3.suite ho hd na nL nF
    have LT : PySem.W.Looks (model X.prog X.w) h3 (typeOf (.ref a)) cls := fun A Q E s k q => wpAny_typeOf_ref (k _ _ ho) (by rw [hz.1]; exact q)
    -- a suite begins
    have enter : ∀ {h4 : Heap}, HandSPX.FlyingZ B (X.env :: X.outer) a (Zc cls d) h4 → h3.UpToSlots h4 → ∃ oe4, Zc cls d oe4 ∧ (∃ vs4, oe4.data = .fields vs4) ∧ Inv (X.suite a ((a, oe4) :: (X.pn ++ pins))) [] σ2 H2 { s2 with heap := h4 } := fun {h4} fl4 up4 => by
      obtain ⟨oe4, vs4, ho4, hz4, hd4⟩ := fl4.there
      have J4 : Inv X pins σ2 H2 { s2 with heap := h4 } := J.landed nb fl4.1 ((up.trans up3).trans up4) os ag
      exact ⟨oe4, hz4, ⟨vs4, hd4⟩, J4.suite ho4 hd4 na nL nF⟩
    have go : ∀ {hs2 : List ExceptHandler} {l2 : List Cls1}, HdsA X hs2 l2 → wAll X.K Wout D l2 cls d σ2 H2 → wpAny (model X.prog X.w) X.A (handleBy (.ref a) X.env hs2) (SP X pins D) X.xe { s2 with heap := h3 } := by
      intro hs2 l2 hk
      induction hk with
      | nil =>
        intro w
        refine wpAny_handleBy_nil ?_
        obtain ⟨_, _, _, o5, v5, T5, _, _, e5, _, d5, t5, _⟩ := id fl
        unfold PySem.passOn
        refine wpAny_bind (wpAny_field e5 d5 t5 ?_)
        rw [if_neg (show ¬ (Value.ref T5 == Value.none) = true from Bool.false_ne_true)]
        have out : wpAny (model X.prog X.w) X.A (setFlight (.ref a) X.env.frame) (fun _ s4 => wpAny (model X.prog X.w) X.A (throw (.ref a) : Sem Flow) (SP X pins D) X.xe s4) X.xe { s2 with heap := h3 } := by
          rw [fr]
          exact HandSPX.setFlight_upZ fl fun h4 hh4 up4 => wpAny_throw (tk _ _ ⟨a, B, sI, pins, σ2, H2, cls, d, rfl, J, nb, (up.trans up3).trans up4, .inr (.inr (by rw [st]; exact hh4)), na, os, ag, w⟩)
        first
          | exact wpAny_bind (wpAny_pure (wpAny_bind out))
          | exact wpAny_bind out
      | bare hc hsu r ih =>
        rintro ⟨b, hb1, yes, no⟩
        refine wpAny_handleBy_cons (codeAny_handlers_test (names_look S3 hc ((PySem.W.exm_one (M := model X.prog X.w) J3.kIn LT hb1).here ?_))) (fun q => by cases q)
        cases b with
        | false => exact ih (no rfl)
        | true =>
          refine codeAny_handlers_suite (HandSPX.lands_againZ fl fun h4 fl4 up4 => ?_)
          obtain ⟨oe4, hz4, hd4, S4⟩ := enter fl4 up4
          refine wpAny_mono ((hsu a oe4 cls d (X.pn ++ pins) hz4 hd4).run [] _ _ H2 _ S4 (yes rfl a na)) (fun f s6 sp => ?_) (fun _ _ z => z.elim)
          cases f with
          | ret u =>
            obtain ⟨v6, σ6, H6, S6, r6, q6⟩ := sp
            exact ⟨_, _, _, S6.unsuite ok, r6, q6⟩
          | _ =>
            obtain ⟨σ6, H6, S6, q6⟩ := sp
            exact ⟨_, _, S6.unsuite ok, q6⟩
      | @named x n i c ts st1 su np p2 hs3 l3 hi hln hc hsu r ih =>
        rintro ⟨b, hb1, yes, no⟩
        refine wpAny_handleBy_cons (codeAny_handlers_test (names_look S3 hc ((PySem.W.exm_one (M := model X.prog X.w) J3.kIn LT hb1).here ?_))) (fun q => by cases q)
        cases b with
        | false => exact ih (no rfl)
        | true =>
          refine codeAny_handlers_suite_as (HandSPX.lands_againZ fl fun h4 fl4 up4 => ?_)
          obtain ⟨oe4, hz4, hd4, S4⟩ := enter fl4 up4
          refine store_ok (X := X.suite a ((a, oe4) :: (X.pn ++ pins))) (v := .ref a) S4 nd hi (.inl hln) rfl (fun s5 S5 => ?_) (.inr hln)
          refine wpAny_mono ((hsu a oe4 cls d (X.pn ++ pins) hz4 hd4).run [] s5 _ H2 _ S5 (yes rfl a na)) (fun f s6 sp => ?_) (fun _ _ z => z.elim)
          have gone : ∀ {σ6 : L2.St} {H6 : Hp} {Q : Shared → Prop}, Inv (X.suite a ((a, oe4) :: (X.pn ++ pins))) [] σ6 H6 s6 → (∀ s7, Inv X pins (σ6.set i none) H6 s7 → Q s7) →
              wpAny (model X.prog X.w) X.A (do bindName X.env n .none; unbindBehindTheSuite X.env n p2) (fun _ s7 => Q s7) X.xe s6 := fun S6 k => gone_ok (S6.unsuite ok) nd hi hln k
          cases f with
          | ret u =>
            obtain ⟨v6, σ6, H6, S6, r6, q6⟩ := sp
            exact gone S6 fun s7 J7 => ⟨_, _, _, J7, r6, q6⟩
          | _ =>
            obtain ⟨σ6, H6, S6, q6⟩ := sp
            exact gone S6 fun s7 J7 => ⟨_, _, J7, q6⟩
    exact go hh wish
  refine wpAny_mono ((hb (wAll X.K Wout D l) (X.pn ++ pins) air caught PassesOwn.looking).run [] s σ H D (I.toTry _) h) (fun f s1 sp => ?_) (fun e s1 he => he)
  cases f with
  | next =>
    obtain ⟨σ2, H2, J, q⟩ := sp
    exact wpAny_execs_nil ⟨σ2, H2, J.ofTry ok, q⟩
  | ret u =>
    obtain ⟨v, σ2, H2, J, r, q⟩ := sp
    exact ⟨v, σ2, H2, J.ofTry ok, r, q⟩
  | _ =>
    obtain ⟨σ2, H2, J, q⟩ := sp
    exact ⟨σ2, H2, J.ofTry ok, q⟩
end
end Ly
set_option Elab.async false
set_option linter.all false
set_option maxRecDepth 100000
set_option maxHeartbeats 2000000
/-! an own exception of one argument, made to be raised «from None» where one is handled -/
namespace Ly
open PySem PySem.Spec PyProof.Rows L2
section
variable {X : Cx}
theorem pmk5 {C : Addr} {bs : List Value} {B newId initId : String} {x : Str} {e : Expr} {ta : TE} {p pos : Pos} (F : ExcBaseFacts B newId initId bs) (xi : PySem.W.excIn X.K C bs newId = true) (gC : X.mg x = some (.ref C)) (kC : PySem.W.keepIn X.K (.ref C) = true) (r : Raises X (.ref C)) (hg : Gl X x)
    (he : PE X e ta) (hs : starEach [e] X.env = (false, eval e X.env) :: starEach [] X.env := by rfl) (hdb : (x == ("__debug__" : Str)) = false := by decide) :
    L2H.PMk5 X (.Call (.Name x p) [e] [] pos) (fun σ H Q => ta σ H fun _ H1 => Q (.ref C) none H1) := by
  intro pins s σ H Q I h
  refine wpAny_Call_Name_kw (ld_glob I hg gC (PySem.W.callWith_K (h₀ := X.base) I.ok.mod.kin kC ?_ hs (by rfl)) hdb)
  rw [hs]
  show wpAny _ _ (spliced ((false, eval e X.env) :: backTo pos (starEach [] X.env))) _ _ s
  refine Calls.spliced_cons (thn (he.run pins s σ H _ I h) fun u s1 ⟨v, H1, J, r1, q1⟩ => Calls.spliced_nil ⟨J.kIn, ?_⟩)
  show wpAny _ _ (call (.ref C) [u]) _ _ _
  obtain ⟨_, _, _, _, _, _, _, _, _, _, _, _, _, _, _, _, _, hC, hN, hni, T⟩ := exc_obj J.kIn xi
  exact wpAny_call_exc_subT F T hC hN hni (fun h' e hm => L2H.mk_of5 J hm r q1 (J.hok.gone hm.new)) (by show 1 ≤ sizeLine; rw [sizeLine_eq]; omega)
end
end Ly
set_option Elab.async false
set_option linter.all false
set_option maxRecDepth 100000
set_option maxHeartbeats 2000000
/-! a list extended by a tuple -/
namespace Ly
open PySem PySem.Spec PyProof.Rows L2 Evl
theorem ext_tup (l : Addr) (its : Array Value) (n : Nat) (b : Addr) (more : Array Value) (m : Nat) (dd : Option Addr) (sl : Array (Option Value)) (ok : ¬(!its.isEmpty && Builtin.List.listTooLong (its.size + more.size)) = true) (z1 : its.size ≤ sizeLine) (z2 : its.size + more.size ≤ sizeLine + 1) :
    Meets (Builtin.«list.extend» ⟨[.ref l, .ref b], []⟩) (fun _ R s => s.heap.get? l = some { cls := .type "list", dict := none, data := .seq its n, slots := #[] } ∧ s.heap.get? b = some ⟨.type "tuple", dd, .seq more m, sl⟩ ∧
      R (.ok (.ret Value.none)) { s with heap := s.heap.update l (Obj.mapSeq fun x => x ++ more), toks := s.toks }) :=
  .of_wp fun prog w A R s h => by
    obtain ⟨hp, g, d, tk, os⟩ := s
    obtain ⟨hl, hb, h⟩ := h
    (have f1 := AutoSeq1.idx_int; have f2 := AutoSeq1.sub_tuple_tuple; have f3 := AutoSeq1.sub_list_list; have f4 := AutoSeq1.sub_tuple_list; have f5 := AutoSeq1.sub_list_tuple)
    have zz : (its ++ more).size ≤ sizeLine + 1 := by rw [Array.size_append]; exact z2
    wp_walk using (wpAny_updateSeq hl rfl (hz := z1) (_hz' := zz)), AutoSeq1.wpAny_loadPart' hl, AutoSeq1.wpAny_loadPart' hb
    exact ⟨_, rfl, h⟩
section
variable {X : Cx}
def rExtT (K : PySem.W.Frag) : V → List V → Hp → VK → Prop := fun x vs H Q => ∃ l b xs zs, x = .ref l ∧ vs = [.ref b] ∧ H l = some (.lst xs) ∧ SqT K H b zs ∧ xs.length + zs.length ≤ sizeLine ∧ Q .non (upd H l (.lst (xs ++ zs)))
theorem mt_extT : MtM X "list.extend" (rExtT X.K) := by
  intro pins s σ H x vs v us Q I rx rv h
  obtain ⟨l, b, xs, zs, rfl, rfl, hH, hB, hz, q⟩ := h
  cases rx
  obtain ⟨u, rfl, ru⟩ := rv.one
  cases ru
  obtain ⟨z, its, n, r, hl, e⟩ := I.lstM hH
  obtain ⟨its2, r2, ⟨⟨cls, dd, data, sl⟩, ho, hc, m, hd⟩, hl2⟩ := I.tuple hB
  simp only at hc hd
  subst hc hd
  have l2 := r2.length
  have sz : its.toArray.size + its2.toArray.size ≤ sizeLine := by rw [List.size_toArray, List.size_toArray]; omega
  have ok : ¬ (!its.toArray.isEmpty && Builtin.List.listTooLong (its.toArray.size + its2.toArray.size)) = true := by
    rw [notLongL sz, Bool.and_false]
    exact Bool.false_ne_true
  refine call_meets F.slot_list_extend ⟨_, e, rfl⟩ F.entry_list_extend (F.args_list_extend_2 _ _) (ext_tup l its.toArray n b its2.toArray m dd sl ok (by rw [List.size_toArray]; omega) (by omega)) ⟨e, ho, ?_⟩
  refine ⟨.non, _, I.lset (its' := its ++ its2) hH e (by simp) (r.append r2) (by rw [List.length_append]; omega), rfl, q⟩
end
theorem w_extT {K : PySem.W.Frag} {H : Hp} {Q : VK} {l b : Addr} {xs zs : List V} (h : H l = some (.lst xs)) (h2 : SqT K H b zs) (z : xs.length + zs.length ≤ sizeLine) (q : Q .non (upd H l (.lst (xs ++ zs)))) : rExtT K (.ref l) [.ref b] H Q := ⟨l, b, xs, zs, rfl, rfl, h, h2, z, q⟩
end Ly
set_option Elab.async false
set_option linter.all false
set_option maxRecDepth 100000
set_option maxHeartbeats 2000000
/-! Ly: dicts of the module, written out: NAME.get(k, x), k in NAME, NAME[k] -/
namespace Ly
open PySem PySem.Spec PyProof.Rows L2 Evl
def EntsAre : List DictEntry → List (Str × V) → Prop
  | [], [] => True
  | e :: r, (k, v) :: s => (∃ t, e.key = .str k t) ∧ RelV v e.val ∧ EntsAre r s
  | _, _ => False
/-- at d: a dict of the module with these pairs -/
def KD (K : PySem.W.Frag) (w : World) (d : Addr) (kvs : List (Str × V)) : Prop :=
  ∃ es n, K.lookup d = some ⟨.type "dict", none, .dict es n, #[]⟩ ∧ PySem.W.KeysLit w.params es.toList ∧ (d == sysModules) = false ∧ EntsAre es.toList kvs
theorem KD.mk {K : PySem.W.Frag} {w : World} {d : Addr} {kvs : List (Str × V)} {es : Array DictEntry} {n : Nat} (l : K.lookup d = some ⟨.type "dict", none, .dict es n, #[]⟩) (k : PySem.W.KeysLit w.params es.toList) (s : (d == sysModules) = false) (e : EntsAre es.toList kvs) : KD K w d kvs := ⟨es, n, l, k, s, e⟩
def getS (kvs : List (Str × V)) (y : V) : Option V := match y with
  | .str k => (kvs.find? fun kv => decide (kv.1 = k)).map (·.2)
  | _ => none
def OptR : Option V → Option Value → Prop
  | some v, some u => RelV v u
  | none, none => True
  | _, _ => False
theorem OptR.getD {o : Option V} {r : Option Value} (h : OptR o r) {z : V} {u : Value} (hz : RelV z u) : RelV (o.getD z) (r.getD u) := by
  cases o with
  | none =>
    cases r with
    | none => exact hz
    | some u => exact h.elim
  | some v =>
    cases r with
    | none => exact h.elim
    | some u => exact h
theorem OptR.isSome {o : Option V} {r : Option Value} (h : OptR o r) : r.isSome = o.isSome := by
  cases o with
  | none =>
    cases r with
    | none => rfl
    | some u => exact h.elim
  | some v =>
    cases r with
    | none => exact h.elim
    | some u => rfl
theorem ents_get (k : Key) : ∀ {es : List DictEntry} {kvs : List (Str × V)}, EntsAre es kvs → OptR (getS kvs (kV k)) ((es.find? fun e => keyIs k e.key).map (·.val))
  | [], [], _ => by cases k <;> exact True.intro
  | [], _ :: _, h => h.elim
  | _ :: _, [], h => h.elim
  | e :: r, (x, v) :: s, h => by
    obtain ⟨⟨t, ek⟩, hv, hr⟩ := h
    have ih := ents_get k hr
    cases k with
    | inl i =>
      have e0 : keyIs (.inl i) e.key = false := by rw [ek]; rfl
      rw [List.find?_cons, e0]
      exact ih
    | inr y =>
      have e0 : keyIs (.inr y) e.key = decide (x = y) := by
        rw [ek]
        show (x == y) = _
        by_cases c : x = y
        · rw [c]; simp
        · rw [decide_eq_false c]
          exact beq_eq_false_iff_ne.mpr c
      rw [List.find?_cons, e0]
      by_cases c : x = y
      · subst c
        rw [decide_eq_true rfl]
        show OptR (getS ((x, v) :: s) (.str x)) (some e.val)
        have : getS ((x, v) :: s) (.str x) = some v := by simp [getS]
        rw [this]
        exact hv
      · rw [decide_eq_false c]
        have : getS ((x, v) :: s) (kV (.inr y)) = getS s (kV (.inr y)) := by simp [getS, kV, c]
        rw [this]
        exact ih
theorem KD.mapOf {prog : Program} {w : World} {K : PySem.W.Frag} {h : Heap} {d : Addr} {kvs : List (Str × V)} (D : KD K w d kvs) (X : K.In h) :
    ∃ f, h.MapOf (mixKind prog w) d f ∧ ∀ k : Key, OptR (getS kvs (kV k)) (f k) := by
  obtain ⟨es, n, hl, hk, low, he⟩ := D
  refine ⟨fun k => findBy keyIs es k, ⟨_, es, n, X _ _ hl, ⟨rfl, rfl, rfl⟩, rfl, fun e he => ?_, fun _ => rfl⟩, fun k => ?_⟩
  · obtain ⟨x, t, e1, e2⟩ := hk.all e (Array.mem_toList_iff.mpr he)
    exact ⟨.inr x, by rw [e1]; exact mixKind_str prog w x t, e2⟩
  · have := ents_get k he
    show OptR (getS kvs (kV k)) (findBy keyIs es k)
    unfold findBy
    rw [← Array.find?_toList]
    exact this
theorem KD.low {K : PySem.W.Frag} {w : World} {d : Addr} {kvs : List (Str × V)} (D : KD K w d kvs) : (d == sysModules) = false := by
  obtain ⟨es, n, hl, hk, low, he⟩ := D
  exact low
/-- at a: a tuple of the module with these items -/
def KT (K : PySem.W.Frag) (a : Addr) (xs : List V) : Prop := ∃ (o : Obj) (its : Array Value) (n : Nat), K.lookup a = some o ∧ o.cls = .type "tuple" ∧ o.data = .seq its n ∧ its.size ≤ sizeLine ∧ Vals xs its.toList
theorem KT.mk {K : PySem.W.Frag} {a : Addr} {xs : List V} {o : Obj} {its : Array Value} {n : Nat} (l : K.lookup a = some o) (c : o.cls = .type "tuple") (d : o.data = .seq its n) (z : its.size ≤ sizeLine) (v : Vals xs its.toList) : KT K a xs := ⟨o, its, n, l, c, d, z, v⟩
theorem KT.sq {K : PySem.W.Frag} {a : Addr} {xs : List V} (h : KT K a xs) (H : Hp) : SqT K H a xs := .inr h
/-! NAME.get(k, x) -/
def tKGet2 (K : PySem.W.Frag) (w : World) (td ty tx : TE) : TE := fun σ H Q => td σ H fun x H1 => ∃ a kvs, x = .ref a ∧ KD K w a kvs ∧ ty σ H1 fun y H2 => tx σ H2 fun z H3 => (∃ k, y = kV k) ∧ Q ((getS kvs y).getD z) H3
section
variable {X : Cx} {o e f : Expr} {apos cpos : Pos} {td ty tx : TE}
theorem pe_kget2 (ho : PE X o td) (he : PE X e ty) (hf : PE X f tx) (m : M2 X o "get" apos e f cpos) : PE X (.Call (.Attribute o "get" apos) [e, f] [] cpos) (tKGet2 X.K X.w td ty tx) := by
  refine ⟨fun pins s σ H Q I h => ?_⟩
  refine wpAny_Call_method m.base m.few m.line PySem.F.plainAttrs_dict PySem.F.slot_dict_get PySem.F.type_dict_get (thn (ho.run pins s σ H _ I h) fun u s1 ⟨x, H1, I1, rx, a, kvs, ex, d, q1⟩ => ?_)
  subst ex
  obtain rfl : u = Value.ref a := rx
  obtain ⟨f0, hm0, _⟩ := d.mapOf (prog := X.prog) I1.kIn
  refine ⟨hm0.typeIs, hm0.noDict, ?_⟩
  rw [m.trees]
  refine Calls.callWith_builtin rfl (Calls.evalArgs_plain (Calls.spliced_cons (thn (he.run pins s1 σ H1 _ I1 q1) fun iv s2 ⟨y, H2, I2, ry, q2⟩ =>
    Calls.spliced_cons (thn (hf.run pins s2 σ H2 _ I2 q2) fun fv s3 ⟨z, H3, I3, rz, ⟨k, ek⟩, q3⟩ => Calls.spliced_nil ?_))))
  subst ek
  obtain ⟨f1, hm, hg⟩ := d.mapOf (prog := X.prog) I3.kIn
  exact call_meetsIn PySem.F.slot_dict_get hm.typeIs PySem.F.entry_dict_get (PySem.F.args_dict_get_3 _ _ _) (meets_dict_get_default (mixKind X.prog X.w) a (kV_is ry) d.low fv) ⟨_, hm, _, H3, I3.tok _, (hg k).getD rz, q3⟩
theorem op_inKD : OpR X (compareOp .In) (fun x y H Q => ∃ (a : Addr) (kvs : List (Str × V)) (k : Key), x = kV k ∧ y = .ref a ∧ KD X.K X.w a kvs ∧ Q (.bl (getS kvs x).isSome) H) := by
  intro pins s σ H x y v u Q I rx ry ⟨a, kvs, k, ex, ey, d, q⟩
  subst ex ey
  obtain rfl : u = Value.ref a := ry
  obtain ⟨f1, hm, hg⟩ := d.mapOf (prog := X.prog) I.kIn
  refine wpAny_in_of (kV_is rx) d.low hm ?_
  rw [(hg k).isSome]
  exact ⟨.bl _, H, I.tok _, rfl, q⟩
theorem op_notInKD : OpR X (compareOp .NotIn) (fun x y H Q => ∃ (a : Addr) (kvs : List (Str × V)) (k : Key), x = kV k ∧ y = .ref a ∧ KD X.K X.w a kvs ∧ Q (.bl (!(getS kvs x).isSome)) H) := by
  intro pins s σ H x y v u Q I rx ry ⟨a, kvs, k, ex, ey, d, q⟩
  subst ex ey
  obtain rfl : u = Value.ref a := ry
  obtain ⟨f1, hm, hg⟩ := d.mapOf (prog := X.prog) I.kIn
  refine wpAny_notIn_of (kV_is rx) d.low hm ?_
  rw [(hg k).isSome]
  exact ⟨.bl _, H, I.tok _, rfl, q⟩
def rIxKD (K : PySem.W.Frag) (w : World) : R2 := fun x y H Q => ∃ a kvs k v, x = .ref a ∧ y = kV k ∧ KD K w a kvs ∧ getS kvs y = some v ∧ Q v H
theorem ix_kd : IxR X (rIxKD X.K X.w) := by
  intro value slice pins s σ H x y v u Q I rx ry ⟨a, kvs, k, r, ex, ey, d, hget, q⟩ hs
  subst ex ey
  obtain rfl : v = Value.ref a := rx
  obtain ⟨f1, hm, hg⟩ := d.mapOf (prog := X.prog) I.kIn
  have hk := hg k
  rw [hget] at hk
  cases hf : f1 k with
  | none =>
    rw [hf] at hk
    exact hk.elim
  | some u0 =>
    rw [hf] at hk
    exact tail_any hm.typeIs slot_dict_getitem.lookup (wpAny_getItem_of (kV_is ry) hm hf ⟨r, H, I.tok _, hk, q⟩) hs
end
section
variable {K : PySem.W.Frag} {w : World} {σ : L2.St} {H : Hp} {Q : VK} {td ty tx : TE}
theorem w_kget2 (h : td σ H fun x H1 => ∃ a kvs, x = .ref a ∧ KD K w a kvs ∧ ty σ H1 fun y H2 => tx σ H2 fun z H3 => (∃ k, y = kV k) ∧ Q ((getS kvs y).getD z) H3) : tKGet2 K w td ty tx σ H Q := h
theorem w_kg {a : Addr} {kvs : List (Str × V)} {B : List (Str × V) → Prop} (D : KD K w a kvs) (q : B kvs) : ∃ a' kvs', V.ref a = .ref a' ∧ KD K w a' kvs' ∧ B kvs' := ⟨a, kvs, rfl, D, q⟩
end
theorem w_isRN {a : Addr} {A B : Prop} (h : B) : if decide (V.ref a = V.non) = true then A else B := iteF h
theorem w_isNN {A B : Prop} (h : A) : if decide (V.non = V.non) = true then A else B := iteT h
theorem w_isIN {i : Int} {A B : Prop} (h : B) : if decide (V.int i = V.non) = true then A else B := iteF h
theorem q_eq {Q : VK} {H : Hp} {v u : V} (q : Q u H) (e : v = u) : Q v H := by
  rw [e]
  exact q
theorem kV_int (i : Int) : ∃ k, V.int i = kV k := ⟨.inl i, rfl⟩
theorem kV_str (x : Str) : ∃ k, V.str x = kV k := ⟨.inr x, rfl⟩
end Ly
set_option Elab.async false
set_option linter.all false
set_option maxRecDepth 100000
set_option maxHeartbeats 2000000
/-! Ly: putting passes steps; free variables -/
namespace Ly
open PySem PySem.Spec PyProof.Rows L2 Evl
theorem Tm.lif_then2 (m k : Nat) : ∀ (v : Tm) (d c : Nat), d ≤ c → c ≤ d + m → (v.vmap (lif m) d).vmap (lif k) c = v.vmap (lif (m + k)) d
  | .var n, d, c, h1, h2 => by
    simp only [Tm.vmap, lif]
    congr 1
    split <;> split <;> omega
  | .lam b, d, c, h1, h2 => by
    simp only [Tm.vmap]
    rw [Tm.lif_then2 m k b (d + 1) (c + 1) (by omega) (by omega)]
  | .app f a, d, c, h1, h2 => by simp only [Tm.vmap, Tm.lif_then2 m k f d c h1 h2, Tm.lif_then2 m k a d c h1 h2]
theorem Tm.put_lif2 (w : Tm) (n : Nat) : ∀ (v : Tm) (c m : Nat), c ≤ m → m ≤ c + n → Tm.put w m (v.vmap (lif (n + 1)) c) = v.vmap (lif n) c
  | .var i, c, m, h1, h2 => by
    simp only [Tm.vmap, lif]
    by_cases h : c ≤ i
    · rw [if_pos h, if_pos h]
      simp only [Tm.put]
      rw [if_neg (by omega), if_neg (by omega)]
      congr 1
    · rw [if_neg h, if_neg h]
      simp only [Tm.put]
      rw [if_pos (by omega)]
  | .lam b, c, m, h1, h2 => by
    simp only [Tm.vmap, Tm.put]
    rw [Tm.put_lif2 w n b (c + 1) (m + 1) (by omega) (by omega)]
  | .app f a, c, m, h1, h2 => by simp only [Tm.vmap, Tm.put, Tm.put_lif2 w n f c m h1 h2, Tm.put_lif2 w n a c m h1 h2]
theorem Tm.put_up2 (v : Tm) (k : Nat) : ∀ (u : Tm) (c m : Nat), c ≤ m → Tm.put v (m + k) (u.vmap (lif k) c) = (Tm.put v m u).vmap (lif k) c
  | .var n, c, m, h => by
    simp only [Tm.vmap, lif]
    rcases Nat.lt_trichotomy n m with g | g | g
    · simp only [Tm.put]
      rw [if_pos g]
      simp only [Tm.vmap, lif]
      by_cases hc : c ≤ n
      · rw [if_pos hc, if_pos (by omega)]
      · rw [if_neg hc, if_pos (by omega)]
    · subst g
      rw [if_pos h]
      simp only [Tm.put]
      rw [if_neg (by omega), if_pos trivial, if_neg (by omega), if_pos trivial]
      exact (Tm.lif_then2 n k v 0 c (Nat.zero_le _) (by omega)).symm
    · rw [if_pos (by omega)]
      simp only [Tm.put]
      rw [if_neg (by omega), if_neg (by omega), if_neg (by omega), if_neg (by omega)]
      simp only [Tm.vmap, lif]
      rw [if_pos (by omega)]
      congr 1
      omega
  | .lam b, c, m, h => by
    have ih := Tm.put_up2 v k b (c + 1) (m + 1) (by omega)
    simp only [Tm.vmap, Tm.put]
    rw [show m + k + 1 = m + 1 + k by omega, ih]
  | .app f a, c, m, h => by simp only [Tm.vmap, Tm.put, Tm.put_up2 v k f c m h, Tm.put_up2 v k a c m h]
/-- putting at k beneath putting at j -/
theorem Tm.put_put2 (u v : Tm) (k : Nat) : ∀ (t : Tm) (j : Nat), Tm.put v (j + k) (Tm.put u j t) = Tm.put (Tm.put v k u) j (Tm.put v (j + k + 1) t)
  | .var n, j => by
    rcases Nat.lt_trichotomy n j with h | h | h
    · simp only [Tm.put]
      rw [if_pos h, if_pos (by omega)]
      simp only [Tm.put]
      rw [if_pos h, if_pos (by omega)]
    · subst h
      simp only [Tm.put]
      rw [if_neg (by omega), if_pos trivial, if_pos (by omega)]
      simp only [Tm.put]
      rw [if_neg (by omega), if_pos trivial]
      rw [Nat.add_comm]
      exact Tm.put_up2 v n u 0 k (Nat.zero_le _)
    · rcases Nat.lt_trichotomy n (j + k + 1) with g | g | g
      · simp only [Tm.put]
        rw [if_neg (by omega), if_neg (by omega), if_pos g]
        simp only [Tm.put]
        rw [if_pos (by omega), if_neg (by omega), if_neg (by omega)]
      · subst g
        simp only [Tm.put]
        rw [if_neg (by omega), if_neg (by omega), if_neg (by omega), if_pos trivial]
        simp only [Tm.put]
        rw [if_neg (by omega), if_pos (by omega)]
        exact (Tm.put_lif2 _ (j + k) v 0 j (Nat.zero_le _) (by omega)).symm
      · simp only [Tm.put]
        rw [if_neg (by omega), if_neg (by omega), if_neg (by omega), if_neg (by omega)]
        simp only [Tm.put]
        rw [if_neg (by omega), if_neg (by omega), if_neg (by omega), if_neg (by omega)]
  | .lam b, j => by
    have ih := Tm.put_put2 u v k b (j + 1)
    simp only [Tm.put]
    rw [show j + k + 1 = j + 1 + k by omega, ih]
  | .app f a, j => by simp only [Tm.put, Tm.put_put2 u v k f, Tm.put_put2 u v k a]
/-- how deep a place is -/
def pdep : List Nat → Nat
  | [] => 0
  | c :: p => (if c = 98 then 1 else 0) + pdep p
theorem Tm.sub_put (v : Tm) : ∀ (t : Tm) (p : List Nat) (d : Nat) {i : Nat} {x : Tm}, t.sub p = some (i, x) → ∃ j, (Tm.put v d t).sub p = some (j, Tm.put v (d + pdep p) x)
  | t, [], d, i, x, h => by
    rw [Tm.sub_nil] at h
    cases h
    exact ⟨0, Tm.sub_nil _⟩
  | .lam b, c :: p, d, i, x, h => by
    by_cases hc : c = 98
    · subst hc
      simp only [Tm.sub, if_pos] at h
      obtain ⟨⟨j, u'⟩, e1, e2⟩ := Option.map_eq_some_iff.mp h
      cases e2
      obtain ⟨j2, h2⟩ := Tm.sub_put v b p (d + 1) e1
      refine ⟨j2 + 1, ?_⟩
      simp only [Tm.put, Tm.sub, if_pos, h2, pdep]
      rw [show d + (1 + pdep p) = d + 1 + pdep p by omega]
      rfl
    · simp [Tm.sub, hc] at h
  | .app f a, c :: p, d, i, x, h => by
    by_cases hc : c = 102
    · subst hc
      simp only [Tm.sub, if_pos] at h
      obtain ⟨⟨j, u'⟩, e1, e2⟩ := Option.map_eq_some_iff.mp h
      cases e2
      obtain ⟨j2, h2⟩ := Tm.sub_put v f p d e1
      refine ⟨j2 + 1, ?_⟩
      simp only [Tm.put, Tm.sub, if_pos, h2, pdep]
      rw [if_neg (by decide), Nat.zero_add]
      rfl
    · by_cases hc2 : c = 97
      · subst hc2
        simp only [Tm.sub, if_pos] at h
        rw [if_neg (by decide)] at h
        obtain ⟨⟨j, u'⟩, e1, e2⟩ := Option.map_eq_some_iff.mp h
        cases e2
        obtain ⟨j2, h2⟩ := Tm.sub_put v a p d e1
        refine ⟨j2 + (1 + (Tm.put v d f).enc.length), ?_⟩
        simp only [Tm.put, Tm.sub, if_pos, h2, pdep]
        rw [if_neg (by decide), if_neg (by decide), Nat.zero_add]
        rfl
      · simp [Tm.sub, hc, hc2] at h
  | .var _, c :: p, d, i, x, h => by simp [Tm.sub] at h
theorem Tm.rep_put (v x : Tm) : ∀ (t : Tm) (p : List Nat) (d : Nat) {i : Nat} {w : Tm}, t.sub p = some (i, w) → Tm.put v d (Tm.rep x t p) = Tm.rep (Tm.put v (d + pdep p) x) (Tm.put v d t) p
  | t, [], d, i, w, h => by rw [Tm.rep_nil, Tm.rep_nil]; rfl
  | .lam b, c :: p, d, i, w, h => by
    by_cases hc : c = 98
    · subst hc
      simp only [Tm.sub, if_pos] at h
      obtain ⟨⟨j, u'⟩, e1, e2⟩ := Option.map_eq_some_iff.mp h
      have ih := Tm.rep_put v x b p (d + 1) e1
      simp only [Tm.rep, Tm.put, if_pos, pdep]
      rw [ih, show d + (1 + pdep p) = d + 1 + pdep p by omega]
    · simp [Tm.sub, hc] at h
  | .app f a, c :: p, d, i, w, h => by
    by_cases hc : c = 102
    · subst hc
      simp only [Tm.sub, if_pos] at h
      obtain ⟨⟨j, u'⟩, e1, e2⟩ := Option.map_eq_some_iff.mp h
      have ih := Tm.rep_put v x f p d e1
      simp only [Tm.rep, Tm.put, if_pos, pdep]
      rw [ih, if_neg (by decide), Nat.zero_add]
    · by_cases hc2 : c = 97
      · subst hc2
        simp only [Tm.sub, if_pos] at h
        rw [if_neg (by decide)] at h
        obtain ⟨⟨j, u'⟩, e1, e2⟩ := Option.map_eq_some_iff.mp h
        have ih := Tm.rep_put v x a p d e1
        simp only [Tm.rep, pdep]
        rw [if_neg (by decide), if_pos trivial]
        simp only [Tm.put, Tm.rep]
        rw [ih, if_neg (by decide), if_pos trivial, if_neg (by decide), Nat.zero_add]
      · simp [Tm.sub, hc, hc2] at h
  | .var _, c :: p, d, i, w, h => by simp [Tm.sub] at h
/-- a step goes together with putting -/
theorem Tm.step_put {t : Tm} {p : List Nat} {i : Nat} {b u : Tm} (v : Tm) (h : t.Red p i b u) : (∃ j b' u', (Tm.put v 0 t).Red p j b' u') ∧ (Tm.put v 0 t).step p = Tm.put v 0 (t.step p) := by
  obtain ⟨j, hj⟩ := Tm.sub_put v t p 0 h
  have hj2 : (Tm.put v 0 t).Red p j (Tm.put v (0 + pdep p + 1) b) (Tm.put v (0 + pdep p) u) := hj
  refine ⟨⟨_, _, _, hj2⟩, ?_⟩
  rw [Tm.step_red hj2, Tm.step_red h, Tm.rep_put v _ t p 0 h]
  congr 1
  have e := Tm.put_put2 u v (0 + pdep p) b 0
  rw [Nat.zero_add] at e
  rw [e]
/-! ### free variables -/
def Tm.fr : Nat → Tm → Nat → Prop
  | d, .var n, j => n = d + j
  | d, .lam b, j => b.fr (d + 1) j
  | d, .app f a, j => f.fr d j ∨ a.fr d j
theorem Tm.fr_lif (d e j : Nat) : ∀ (u : Tm) (c : Nat), (u.vmap (lif e) c).fr (c + d + e) j ↔ u.fr (c + d) j
  | .var n, c => by
    simp only [Tm.vmap, lif, Tm.fr]
    split <;> omega
  | .lam b, c => by
    have ih := Tm.fr_lif d e j b (c + 1)
    simp only [Tm.vmap, Tm.fr]
    rw [show c + d + e + 1 = c + 1 + d + e by omega, show c + d + 1 = c + 1 + d by omega]
    exact ih
  | .app f a, c => by simp only [Tm.vmap, Tm.fr, Tm.fr_lif d e j f c, Tm.fr_lif d e j a c]
theorem Tm.fr_put (u : Tm) (d j : Nat) : ∀ (b : Tm) (e : Nat), (Tm.put u e b).fr (d + e) j → b.fr (d + 1 + e) j ∨ u.fr d j
  | .var n, e, h => by
    simp only [Tm.put] at h
    split at h
    · simp only [Tm.fr] at h
      omega
    · split at h
      · right
        have := (Tm.fr_lif d e j u 0).mp (by rw [Nat.zero_add]; exact h)
        rwa [Nat.zero_add] at this
      · left
        simp only [Tm.fr] at h ⊢
        omega
  | .lam b, e, h => by
    simp only [Tm.put, Tm.fr] at h
    have := Tm.fr_put u d j b (e + 1) (by rw [show d + (e + 1) = d + e + 1 by omega]; exact h)
    rcases this with g | g
    · left
      simp only [Tm.fr]
      rw [show d + 1 + e + 1 = d + 1 + (e + 1) by omega]
      exact g
    · exact .inr g
  | .app f a, e, h => by
    simp only [Tm.put, Tm.fr] at h ⊢
    rcases h with h | h
    · rcases Tm.fr_put u d j f e h with g | g
      · exact .inl (.inl g)
      · exact .inr g
    · rcases Tm.fr_put u d j a e h with g | g
      · exact .inl (.inr g)
      · exact .inr g
theorem Tm.fr_rep {x w : Tm} (hx : ∀ d j, x.fr d j → w.fr d j) : ∀ (t : Tm) (p : List Nat) (d : Nat) {i j : Nat}, t.sub p = some (i, w) → (Tm.rep x t p).fr d j → t.fr d j
  | t, [], d, i, j, h, hr => by
    rw [Tm.sub_nil] at h
    cases h
    rw [Tm.rep_nil] at hr
    exact hx d j hr
  | .lam b, c :: p, d, i, j, h, hr => by
    by_cases hc : c = 98
    · subst hc
      simp only [Tm.sub, if_pos] at h
      obtain ⟨⟨k, u'⟩, e1, e2⟩ := Option.map_eq_some_iff.mp h
      cases e2
      simp only [Tm.rep, if_pos, Tm.fr] at hr
      exact Tm.fr_rep hx b p (d + 1) e1 hr
    · simp [Tm.sub, hc] at h
  | .app f a, c :: p, d, i, j, h, hr => by
    by_cases hc : c = 102
    · subst hc
      simp only [Tm.sub, if_pos] at h
      obtain ⟨⟨k, u'⟩, e1, e2⟩ := Option.map_eq_some_iff.mp h
      cases e2
      simp only [Tm.rep, if_pos, Tm.fr] at hr
      rcases hr with hr | hr
      · exact .inl (Tm.fr_rep hx f p d e1 hr)
      · exact .inr hr
    · by_cases hc2 : c = 97
      · subst hc2
        simp only [Tm.sub, if_pos] at h
        rw [if_neg (by decide)] at h
        obtain ⟨⟨k, u'⟩, e1, e2⟩ := Option.map_eq_some_iff.mp h
        cases e2
        simp only [Tm.rep] at hr
        rw [if_neg (by decide), if_pos trivial] at hr
        simp only [Tm.fr] at hr
        rcases hr with hr | hr
        · exact .inl hr
        · exact .inr (Tm.fr_rep hx a p d e1 hr)
      · simp [Tm.sub, hc, hc2] at h
  | .var _, c :: p, d, i, j, h, hr => by simp [Tm.sub] at h
theorem Tm.fr_step {t : Tm} {p : List Nat} {i : Nat} {b u : Tm} (h : t.Red p i b u) {j : Nat} (hj : (t.step p).fr 0 j) : t.fr 0 j := by
  rw [Tm.step_red h] at hj
  refine Tm.fr_rep (fun d j hx => ?_) t p 0 h hj
  exact Tm.fr_put u d j b 0 hx
theorem Tm.fr_wf : ∀ {t : Tm} {d M j : Nat}, t.wf (d + M) → t.fr d j → j < M
  | .var n, d, M, j, h, hj => by
    have h : n < d + M := h
    have hj : n = d + j := hj
    omega
  | .lam b, d, M, j, h, hj => Tm.fr_wf (t := b) (d := d + 1) (by rw [show d + 1 + M = d + M + 1 by omega]; exact h) hj
  | .app f a, d, M, j, h, hj => by
    rcases hj with hj | hj
    · exact Tm.fr_wf (t := f) h.1 hj
    · exact Tm.fr_wf (t := a) h.2 hj
theorem Tm.frs_fr : ∀ (t : Tm) (d : Nat) (z : Int), z ∈ (List.zipWith frv t.enc (t.deps d)).flatten ↔ ∃ j : Nat, z = j ∧ t.fr d j
  | .var n, d, z => by
    simp only [Tm.enc, Tm.deps, List.zipWith_cons_cons, List.zipWith_nil_right, List.flatten_cons, List.flatten_nil, List.append_nil, frv, Tm.fr]
    split
    · constructor
      · intro h
        have e := List.mem_singleton.mp h
        exact ⟨n - d, by omega, by omega⟩
      · rintro ⟨j, e, h⟩
        exact List.mem_singleton.mpr (by omega)
    · constructor
      · intro h
        simp at h
      · rintro ⟨j, e, h⟩
        omega
  | .lam b, d, z => by
    have ih := Tm.frs_fr b (d + 1) z
    simp only [Tm.enc, Tm.deps, List.zipWith_cons_cons, List.flatten_cons, List.mem_append, Tm.fr, ← ih]
    simp [frv]
  | .app f a, d, z => by
    have h1 := Tm.frs_fr f d z
    have h2 := Tm.frs_fr a d z
    have hl : f.enc.length = (f.deps d).length := (Tm.deps_len f d).symm
    simp only [Tm.enc, Tm.deps, List.zipWith_cons_cons, List.flatten_cons, List.mem_append, List.zipWith_append hl, List.flatten_append, h1, h2, Tm.fr]
    constructor
    · rintro (h | ⟨j, e, h⟩ | ⟨j, e, h⟩)
      · simp [frv] at h
      · exact ⟨j, e, .inl h⟩
      · exact ⟨j, e, .inr h⟩
    · rintro ⟨j, e, h | h⟩
      · exact .inr (.inl ⟨j, e, h⟩)
      · exact .inr (.inr ⟨j, e, h⟩)
/-- so many different numbers below M: at most M -/
theorem nodup_le : ∀ (M : Nat) {ks : List Int}, ks.Nodup → (∀ k ∈ ks, 0 ≤ k ∧ k < M) → ks.length ≤ M
  | 0, ks, _, h => by
    cases ks with
    | nil => exact Nat.le_refl _
    | cons k r =>
      have := h k List.mem_cons_self
      omega
  | M + 1, ks, nd, h => by
    have e : (ks.filter (fun k => decide (k ≠ (M : Int)))).length ≤ M := nodup_le M (nd.filter _) fun k hk => by
      obtain ⟨h1, h2⟩ := List.mem_filter.mp hk
      have := h k h1
      have h3 : k ≠ (M : Int) := of_decide_eq_true h2
      omega
    have e2 : ks.length ≤ (ks.filter (fun k => decide (k ≠ (M : Int)))).length + 1 := by
      have : ∀ {ks : List Int}, ks.Nodup → ks.length ≤ (ks.filter (fun k => decide (k ≠ (M : Int)))).length + 1 := by
        intro ks nd
        induction ks with
        | nil => simp
        | cons k r ih =>
          obtain ⟨n1, n2⟩ := List.nodup_cons.mp nd
          by_cases c : k = (M : Int)
          · have : r.filter (fun k => decide (k ≠ (M : Int))) = r := List.filter_eq_self.mpr fun x hx => decide_eq_true fun z => n1 (by rw [c, ← z]; exact hx)
            rw [List.filter_cons_of_neg (by simp [c]), this]
            simp
          · rw [List.filter_cons_of_pos (by simp [c])]
            have := ih n2
            simp only [List.length_cons]
            omega
      exact this nd
    omega
end Ly
set_option Elab.async false
set_option linter.all false
set_option maxRecDepth 100000
set_option maxHeartbeats 2000000
/-! Ly: terms whose abstractions bear marks; where the nodes behind a step come from -/
namespace Ly
open PySem PySem.Spec PyProof.Rows L2 Evl
def LamV (K : PySem.W.Frag) (H : Hp) (v : V) : Prop := v = .str "lam" ∨ ∃ (a : Addr) (k : Int), v = .ref a ∧ SqT K H a [.str "m", .int k]
def Lk (K : PySem.W.Frag) (H : Hp) (w v : V) : Prop := (w ≠ .str "lam" ∧ v = w) ∨ (w = .str "lam" ∧ LamV K H v)
inductive DcL (K : PySem.W.Frag) (H : Hp) : List V → List V → Prop
  | nil : DcL K H [] []
  | cons {w v : V} {ws vs : List V} (h : Lk K H w v) (r : DcL K H ws vs) : DcL K H (w :: ws) (v :: vs)
section
variable {K : PySem.W.Frag} {H H' : Hp} {zs xs zs2 xs2 : List V}
theorem LamV.ex {v : V} (h : LamV K H v) (e : Ex H H') : LamV K H' v := by
  rcases h with h | ⟨a, k, h, hs⟩
  · exact .inl h
  · exact .inr ⟨a, k, h, ex_t e hs⟩
theorem Lk.ex {w v : V} (h : Lk K H w v) (e : Ex H H') : Lk K H' w v := by
  rcases h with h | ⟨h, hv⟩
  · exact .inl h
  · exact .inr ⟨h, hv.ex e⟩
theorem DcL.ex (h : DcL K H zs xs) (e : Ex H H') : DcL K H' zs xs := by
  induction h with
  | nil => exact .nil
  | cons h _ ih => exact .cons (h.ex e) ih
theorem Lk.self (w : V) : Lk K H w w := by
  by_cases h : w = .str "lam"
  · exact .inr ⟨h, .inl h⟩
  · exact .inl ⟨h, rfl⟩
theorem DcL.self : ∀ zs : List V, DcL K H zs zs
  | [] => .nil
  | w :: ws => .cons (Lk.self w) (DcL.self ws)
theorem DcL.len (h : DcL K H zs xs) : xs.length = zs.length := by
  induction h with
  | nil => rfl
  | cons _ _ ih => simp [ih]
theorem DcL.app (h : DcL K H zs xs) (k : DcL K H zs2 xs2) : DcL K H (zs ++ zs2) (xs ++ xs2) := by
  induction h with
  | nil => exact k
  | cons h _ ih => exact .cons h ih
theorem DcL.drop (h : DcL K H zs xs) : ∀ i, DcL K H (zs.drop i) (xs.drop i) := by
  induction h with
  | nil => intro i; simp; exact .nil
  | cons h r ih =>
    intro i
    cases i with
    | zero => exact .cons h r
    | succ i => exact ih i
theorem DcL.take (h : DcL K H zs xs) : ∀ i, DcL K H (zs.take i) (xs.take i) := by
  induction h with
  | nil => intro i; simp; exact .nil
  | cons h r ih =>
    intro i
    cases i with
    | zero => exact .nil
    | succ i => exact .cons h (ih i)
theorem DcL.get (h : DcL K H zs xs) : ∀ {i : Nat} {w : V}, zs[i]? = some w → ∃ v, xs[i]? = some v ∧ Lk K H w v := by
  induction h with
  | nil => intro i w hw; simp at hw
  | cons h r ih =>
    intro i w hw
    cases i with
    | zero =>
      simp at hw
      subst hw
      exact ⟨_, rfl, h⟩
    | succ i => exact ih (by simpa using hw)
theorem DcL.at (h : DcL K H zs xs) {i : Nat} {v : V} (hv : xs[i]? = some v) : ∃ w, zs[i]? = some w ∧ Lk K H w v := by
  have hl := (List.getElem?_eq_some_iff.mp hv).1
  rw [h.len] at hl
  obtain ⟨v2, h2, lk⟩ := h.get (List.getElem?_eq_getElem hl)
  rw [hv] at h2
  cases h2
  exact ⟨_, List.getElem?_eq_getElem hl, lk⟩
theorem sqt_keep {l a : Addr} {ys zs2 ws : List V} (h : H l = some (.lst ys)) (hs : SqT K H a ws) : SqT K (upd H l (.lst zs2)) a ws := by
  rcases hs with (g | ⟨ob, g⟩) | g
  · exact .inl (.inl (by rw [upd_ne (fun z => by rw [z, h] at g; cases g)]; exact g))
  · exact .inl (.inr ⟨ob, by rw [upd_ne (fun z => by rw [z, h] at g; cases g)]; exact g⟩)
  · exact .inr g
/-- a node of a marked term -/
theorem Lk.cases {w v : V} (h : Lk K H w v) (n : (∃ m : Nat, w = .int m) ∨ w = .str "lam" ∨ w = .str "app") :
    (∃ m : Nat, w = .int m ∧ v = .int m) ∨ (w = .str "app" ∧ v = .str "app") ∨ (w = .str "lam" ∧ v = .str "lam") ∨ (w = .str "lam" ∧ ∃ (a : Addr) (k : Int), v = .ref a ∧ SqT K H a [.str "m", .int k]) := by
  rcases n with ⟨m, rfl⟩ | rfl | rfl
  · rcases h with ⟨_, rfl⟩ | ⟨h, _⟩
    · exact .inl ⟨m, rfl, rfl⟩
    · cases h
  · rcases h with ⟨h, _⟩ | ⟨_, h | ⟨a, k, h, hs⟩⟩
    · exact absurd rfl h
    · exact .inr (.inr (.inl ⟨rfl, h⟩))
    · exact .inr (.inr (.inr ⟨rfl, a, k, h, hs⟩))
  · rcases h with ⟨_, rfl⟩ | ⟨h, _⟩
    · exact .inr (.inl ⟨rfl, rfl⟩)
    · exact absurd h (by simp [str_ne2])
/-! deep comparison of a node with a word -/
def markD (k : Int) : PyData := .tuple [.str "m", .int k]
theorem mark_shaped (k : Int) : SeqAt.shaped (markD k) = true := by
  have h1 : (markD k).canLay0 = true := by
    show PyData.canLayAll0 [.str "m", .int k] = true
    have : (PyData.str "m").canLay0 = true := by decide +kernel
    show ((PyData.str "m").canLay0 && PyData.canLayAll0 [.int k]) = true
    rw [this]
    rfl
  have h2 : (markD k).depth ≤ 3 := by
    simp [markD, PyData.depth, PyData.depthAll]
  unfold SeqAt.shaped
  rw [h1, Bool.true_and]
  exact decide_eq_true (by omega)
theorem mark_dp {k : Int} : DpAll K H [V.str "m", V.int k] [.str "m", .int k] := .cons (.str _) (.cons (.int k) .nil)
theorem w_eqDi {Q : VK} {n : Int} {x : Str} (z : SeqAt.shaped (.str x) = true) (q : Q (.bl false) H) : rEqD K (.int n) (.str x) H Q :=
  ⟨_, _, .int n, .str x, rfl, z, by rw [show PyData.eqv (.int n) (.str x) = false by simp [PyData.eqv]]; exact q⟩
theorem w_eqDs {Q : VK} {x y : Str} {b : Bool} (z : SeqAt.shaped (.str x) = true) (z2 : SeqAt.shaped (.str y) = true) (e : PyData.eqv (.str x) (.str y) = b) (q : Q (.bl b) H) : rEqD K (.str x) (.str y) H Q :=
  ⟨_, _, .str x, .str y, z, z2, by rw [e]; exact q⟩
theorem w_eqDm {Q : VK} {a : Addr} {k : Int} {x : Str} (h : SqT K H a [.str "m", .int k]) (z : SeqAt.shaped (.str x) = true) (q : Q (.bl false) H) : rEqD K (.ref a) (.str x) H Q :=
  ⟨_, _, .tup h mark_dp, .str x, mark_shaped k, z, by rw [show PyData.eqv (.tuple [.str "m", .int k]) (.str x) = false by simp [PyData.eqv]]; exact q⟩
theorem w_eqDmm {Q : VK} {a b : Addr} {k j : Int} (h : SqT K H a [.str "m", .int k]) (h2 : SqT K H b [.str "m", .int j]) (q : Q (.bl (decide (k = j))) H) : rEqD K (.ref a) (.ref b) H Q :=
  ⟨_, _, .tup h mark_dp, .tup h2 mark_dp, mark_shaped k, mark_shaped j, by
    have e1 : PyData.eqv (.str "m") (.str "m") = true := by decide +kernel
    have e2 : PyData.eqv (.int k) (.int j) = decide (k = j) := by
      simp only [PyData.eqv]
      by_cases h : k = j
      · simp [h]
      · simp [h]
    have : PyData.eqv (.tuple [.str "m", .int k]) (.tuple [.str "m", .int j]) = decide (k = j) := by
      rw [PyData.eqv, PyData.eqvAll, e1, PyData.eqvAll, e2, PyData.eqvAll]
      simp
    rw [this]
    exact q⟩
end
theorem lam_shaped : SeqAt.shaped (.str "lam") = true := by decide +kernel
theorem app_shaped : SeqAt.shaped (.str "app") = true := by decide +kernel
theorem eqv_la : PyData.eqv (.str "lam") (.str "app") = false := by decide +kernel
theorem eqv_al : PyData.eqv (.str "app") (.str "lam") = false := by decide +kernel
theorem eqv_ll : PyData.eqv (.str "lam") (.str "lam") = true := by decide +kernel
theorem eqv_aa : PyData.eqv (.str "app") (.str "app") = true := by decide +kernel
/-! ### putting, node by node, of a marked term -/
def segs (u : Tm) (ys : List V) (v : V) (d : Nat) : List V := match v with
  | .int n => if n < d then [.int n] else if n = d then List.zipWith (vm (lif d)) ys (u.deps 0) else [.int (n - 1)]
  | v => [v]
theorem segs_len {u : Tm} {ys : List V} (h : ys.length = u.enc.length) (v : V) (d : Nat) : (segs u ys v d).length ≤ u.enc.length := by
  have pos := List.length_pos_iff.mpr u.enc_ne
  unfold segs
  split
  · split
    · exact pos
    · split
      · rw [List.length_zipWith, h, Tm.deps_len]
        omega
      · exact pos
  · exact pos
theorem segs_mem {u : Tm} {ys : List V} (h : ys.length = u.enc.length) : ∀ {xs : List V} {ds : List Nat}, ∀ x ∈ List.zipWith (segs u ys) xs ds, x.length ≤ u.enc.length
  | [], _, x, hx => by simp at hx
  | _ :: _, [], x, hx => by simp at hx
  | a :: xs, d :: ds, x, hx => by
    rw [List.zipWith_cons_cons] at hx
    rcases List.mem_cons.mp hx with e | hx
    · rw [e]
      exact segs_len h a d
    · exact segs_mem h x hx
theorem segs_pre {u : Tm} {ys xs : List V} {ds : List Nat} (h : ys.length = u.enc.length) (i : Nat) : ((List.zipWith (segs u ys) xs ds).take i).flatten.length ≤ i * u.enc.length := by
  refine Nat.le_trans (flat_len fun x hx => segs_mem h x (List.mem_of_mem_take hx)) (Nat.mul_le_mul_right _ ?_)
  rw [List.length_take]
  omega
theorem vm_dc {K : PySem.W.Frag} {H : Hp} (c : Nat) {zs xs : List V} (h : DcL K H zs xs) (n : ∀ w ∈ zs, (∃ m : Nat, w = .int m) ∨ w = .str "lam" ∨ w = .str "app") : ∀ ds : List Nat, DcL K H (List.zipWith (vm (lif c)) zs ds) (List.zipWith (vm (lif c)) xs ds) := by
  induction h with
  | nil => intro ds; simp; exact .nil
  | cons h r ih =>
    intro ds
    cases ds with
    | nil => simp; exact .nil
    | cons d ds =>
      rw [List.zipWith_cons_cons, List.zipWith_cons_cons]
      refine .cons ?_ (ih (fun w hw => n w (List.mem_cons_of_mem _ hw)) ds)
      rcases h.cases (n _ List.mem_cons_self) with ⟨m, rfl, rfl⟩ | ⟨rfl, rfl⟩ | ⟨rfl, rfl⟩ | ⟨rfl, a, k, rfl, hs⟩
      · exact Lk.self _
      · exact Lk.self _
      · exact Lk.self _
      · exact .inr ⟨rfl, .inr ⟨a, k, rfl, hs⟩⟩
theorem put_dc {K : PySem.W.Frag} {H : Hp} {u : Tm} {ys zs xs : List V} (hy : DcL K H u.enc ys) (h : DcL K H zs xs) (n : ∀ w ∈ zs, (∃ m : Nat, w = .int m) ∨ w = .str "lam" ∨ w = .str "app") : ∀ ds : List Nat, DcL K H (List.zipWith (pvs u) zs ds).flatten (List.zipWith (segs u ys) xs ds).flatten := by
  induction h with
  | nil => intro ds; simp; exact .nil
  | cons h r ih =>
    intro ds
    cases ds with
    | nil => simp; exact .nil
    | cons d ds =>
      rw [List.zipWith_cons_cons, List.zipWith_cons_cons, List.flatten_cons, List.flatten_cons]
      refine DcL.app ?_ (ih (fun w hw => n w (List.mem_cons_of_mem _ hw)) ds)
      rcases h.cases (n _ List.mem_cons_self) with ⟨m, rfl, rfl⟩ | ⟨rfl, rfl⟩ | ⟨rfl, rfl⟩ | ⟨rfl, a, k, rfl, hs⟩
      · rcases Nat.lt_trichotomy m d with g | g | g
        · rw [pvs_low g]
          simp only [segs]
          rw [if_pos (by omega)]
          exact DcL.self _
        · subst g
          rw [pvs_at]
          simp only [segs]
          rw [if_neg (by omega), if_pos trivial, Tm.enc_vmap]
          exact vm_dc m hy (fun w hw => Tm.int_nat hw) _
        · rw [pvs_high g]
          simp only [segs]
          rw [if_neg (by omega), if_neg (by omega)]
          exact DcL.self _
      · exact DcL.self _
      · exact DcL.self _
      · exact .cons (.inr ⟨rfl, .inr ⟨a, k, rfl, hs⟩⟩) .nil
/-- a marked term behind a step -/
def stepM (t : Tm) (xs : List V) (i : Nat) (b u : Tm) : List V :=
  xs.take i ++ (List.zipWith (segs u ((xs.drop (i + 2 + b.enc.length)).take u.enc.length)) ((xs.drop (i + 2)).take b.enc.length) (b.deps 0)).flatten ++ xs.drop (i + 2 + b.enc.length + u.enc.length)
theorem cut_midX {xs : List V} {i n : Nat} (h : i + n ≤ xs.length) : cutV xs (some (i : Int)) (some ((i + n : Nat) : Int)) = (xs.drop i).take n := by
  unfold cutV
  rw [HT.sIx_nat, HT.sIx_nat, Nat.min_eq_left (by omega), Nat.min_eq_left (by omega)]
  congr 1
  omega
theorem step_dc {K : PySem.W.Frag} {H : Hp} {t : Tm} {xs : List V} {p : List Nat} {i : Nat} {b u : Tm} (hD : DcL K H t.enc xs) (hred : t.Red p i b u) : DcL K H (t.step p).enc (stepM t xs i b u) := by
  obtain ⟨post, hdr⟩ := Tm.red_at hred
  have d1 : t.enc.drop (i + 1) = (Tm.lam b).enc ++ (u.enc ++ post) := (at_drop hdr).2
  have d2 : t.enc.drop (i + 2) = b.enc ++ (u.enc ++ post) := (at_drop d1).2
  have d3 : t.enc.drop (i + 2 + b.enc.length) = u.enc ++ post := by
    rw [← List.drop_drop, d2, List.drop_left]
  rw [Tm.step_enc hred, Tm.enc_put]
  refine ((hD.take i).app ?_).app (hD.drop _)
  have hb : DcL K H b.enc ((xs.drop (i + 2)).take b.enc.length) := by
    have := (hD.drop (i + 2)).take b.enc.length
    rw [d2, List.take_left] at this
    exact this
  have hu : DcL K H u.enc ((xs.drop (i + 2 + b.enc.length)).take u.enc.length) := by
    have := (hD.drop (i + 2 + b.enc.length)).take u.enc.length
    rw [d3, List.take_left] at this
    exact this
  exact put_dc hu hb (fun w hw => Tm.int_nat hw) _
theorem dc_fits {K : PySem.W.Frag} {H : Hp} {zs xs : List V} (h : DcL K H zs xs) (n : ∀ w ∈ zs, (∃ m : Nat, w = .int m) ∨ w = .str "lam" ∨ w = .str "app") : fitsV xs = fitsV zs := by
  have hl := h.len
  have ha : xs.all okV = zs.all okV := by
    clear hl
    induction h with
    | nil => rfl
    | cons h r ih =>
      rw [List.all_cons, List.all_cons, ih fun w hw => n w (List.mem_cons_of_mem _ hw)]
      rcases h.cases (n _ List.mem_cons_self) with ⟨m, rfl, rfl⟩ | ⟨rfl, rfl⟩ | ⟨rfl, rfl⟩ | ⟨rfl, a, k, rfl, hs⟩ <;> rfl
  unfold fitsV
  rw [hl, ha]
end Ly
set_option Elab.async false
set_option linter.all false
set_option maxRecDepth 100000
/-! Ly: what is written with some words, parts behind their nodes -/
namespace Ly
open PySem PySem.Spec PyProof.Rows L2 Evl
def pcD (v : V) : Int := if v = .str "app" then 2 else if v = .str "to" then 2 else if v = .str "lam" then 1 else 0
def numV (m : Int) : V → Bool
  | .int i => decide (0 ≤ i) && decide (i ≤ m)
  | _ => false
def nodeW (ws : List Str) : V → Bool
  | .str x => decide (x ∈ ws)
  | v => numV 1000000 v
def scanW (ws : List Str) : Int → List V → Bool
  | m, [] => decide (m = 0)
  | m, v :: r => if m = 0 ∨ nodeW ws v = false then false else scanW ws (m + (pcD v - 1)) r
def isW (ws : List Str) (xs : List V) : Bool := decide (xs.length ≤ 1000) && scanW ws 1 xs
theorem nodeW_key {ws : List Str} {v : V} (h : nodeW ws v = true) : ∃ k, v = kV k := by
  cases v with
  | int i => exact kV_int i
  | str x => exact kV_str x
  | _ => cases h
theorem nodeV_W (v : V) : isNodeV v = nodeW ["lam", "app"] v := by
  cases v with
  | int i => rfl
  | str x =>
    show (decide (x = "lam") || decide (x = "app")) = decide (x ∈ _)
    simp
  | _ => rfl
theorem scanV_W : ∀ (xs : List V) (m : Int), scanV m xs = scanW ["lam", "app"] m xs
  | [], m => rfl
  | v :: r, m => by
    rw [scanV, scanW, nodeV_W]
    by_cases c : m = 0 ∨ nodeW ["lam", "app"] v = false
    · rw [if_pos c, if_pos c]
    · rw [if_neg c, if_neg c]
      have hn : nodeW ["lam", "app"] v = true := by
        cases h : nodeW ["lam", "app"] v with
        | true => rfl
        | false => exact absurd (.inr h) c
      have e : pcV v = pcD v := by
        cases v with
        | int i => rfl
        | str x =>
          have h2 : x = "lam" ∨ x = "app" := by simpa [nodeW] using hn
          rcases h2 with rfl | rfl <;> decide +kernel
        | _ => rfl
      rw [e]
      exact scanV_W r _
theorem isV_W (xs : List V) : isTermV xs = isW ["lam", "app"] xs := by rw [isTermV, isW, scanV_W]
theorem pcD_get {v : V} (h : ∃ k, v = kV k) : (getS [("lam", .int 1), ("app", .int 2), ("to", .int 2)] v).getD (.int 0) = .int (pcD v) := by
  obtain ⟨k, rfl⟩ := h
  cases k with
  | inl i => rfl
  | inr x =>
    by_cases h1 : x = "lam"
    · subst h1
      decide +kernel
    · by_cases h2 : x = "app"
      · subst h2
        decide +kernel
      · by_cases h3 : x = "to"
        · subst h3
          decide +kernel
        · have e1 : decide (("lam" : Str) = x) = false := decide_eq_false (Ne.symm h1)
          have e2 : decide (("app" : Str) = x) = false := decide_eq_false (Ne.symm h2)
          have e3 : decide (("to" : Str) = x) = false := decide_eq_false (Ne.symm h3)
          have e0 : pcD (.str x) = 0 := by
            unfold pcD
            rw [if_neg (fun z => h2 (V.str.inj z)), if_neg (fun z => h3 (V.str.inj z)), if_neg (fun z => h1 (V.str.inj z))]
          show (getS _ (V.str x)).getD _ = V.int (pcD (.str x))
          rw [e0]
          simp only [getS, List.find?_cons, e1, e2, e3, List.find?_nil, Option.map_none, Option.getD_none]
theorem inV_strs (x : Str) (ws : List Str) : inV (.str x) (ws.map V.str) = decide (x ∈ ws) := by
  induction ws with
  | nil => rfl
  | cons w r ih =>
    have e : inV (.str x) ((w :: r).map V.str) = ((w == x) || inV (.str x) (r.map V.str)) := rfl
    rw [e, ih]
    by_cases c : x = w
    · subst c
      simp
    · have c2 : (w == x) = false := beq_eq_false_iff_ne.mpr (Ne.symm c)
      rw [c2]
      simp [c]
theorem w_inW {K : PySem.W.Frag} {H : Hp} {Q : VK} {p : Addr} {x : Str} {ws : List Str} (h : SqT K H p (ws.map V.str)) (q : Q (.bl (decide (x ∈ ws))) H) : rIn K false (.str x) (.ref p) H Q :=
  ⟨p, ws.map V.str, rfl, .inr h, rfl, by simp [flatV], by
    show Q (.bl (inV (.str x) (ws.map V.str))) H
    rw [inV_strs]
    exact q⟩
theorem w_ninW {K : PySem.W.Frag} {H : Hp} {Q : VK} {p : Addr} {x : Str} {ws : List Str} (h : SqT K H p (ws.map V.str)) (q : Q (.bl (!decide (x ∈ ws))) H) : rIn K true (.str x) (.ref p) H Q :=
  ⟨p, ws.map V.str, rfl, .inr h, rfl, by simp [flatV], by
    show Q (.bl (!inV (.str x) (ws.map V.str))) H
    rw [inV_strs]
    exact q⟩
theorem w_br2 {c A B : Prop} [Decidable c] (h1 : ¬ c → A) (h2 : c → B) : if (!decide c) = true then A else B := by
  by_cases e : c
  · rw [decide_eq_true e]
    exact iteF (h2 e)
  · rw [decide_eq_false e]
    exact iteT (h1 e)
theorem cutV_mem {xs : List V} {lo hi : Option Int} {x : V} (h : x ∈ cutV xs lo hi) : x ∈ xs := List.mem_of_mem_drop (List.mem_of_mem_take h)
theorem cutV_len (xs : List V) (lo hi : Option Int) : (cutV xs lo hi).length ≤ xs.length := by
  unfold cutV
  rw [List.length_take, List.length_drop]
  omega
end Ly
set_option Elab.async false
set_option linter.all false
/-! membership within a comprehension -/
namespace Ly
open PySem PySem.Spec PyProof.Rows L2 Evl
section
variable {X : Cx} {K : PySem.W.Frag}
theorem op_in_seqK (e : X.K = K) : OpR X (compareOp .In) (rIn K false) := by
  rw [← e]
  exact op_in_seq
theorem op_notIn_seqK (e : X.K = K) : OpR X (compareOp .NotIn) (rIn K true) := by
  rw [← e]
  exact op_notIn_seq
theorem op_eqDK (e : X.K = K) (hu : X.A.units + 64 < cLine) : OpR X (compareOp .Eq) (rEqD K) := by
  rw [← e]
  exact op_eqD hu
theorem op_neDK (e : X.K = K) (hu : X.A.units + 64 < cLine) : OpR X (compareOp .NotEq) (rNeD K) := by
  rw [← e]
  exact op_neD hu
end
end Ly
set_option Elab.async false
set_option linter.all false
set_option maxRecDepth 100000
/-! Ly: x not in (a, b, ..): data in a written-out tuple -/
namespace Ly
open PySem PySem.Spec PyProof.Rows L2 Evl
def rNotInDT (K : PySem.W.Frag) : R2 := fun x y H Q => ∃ d ds, Dp K H x d ∧ Dp K H y (.tuple ds) ∧ SeqAt.shaped d = true ∧ SeqAt.shaped (.tuple ds) = true ∧ Q (.bl (!ds.any fun z => PyData.eqv z d)) H
theorem op_notInDT {X : Cx} (hu : X.A.units + 65 < cLine) : OpR X (compareOp .NotIn) (rNotInDT X.K) := by
  intro pins s σ H x y v u Q I rx ry h
  obtain ⟨d, ds, hd, he, sd, se, q⟩ := h
  obtain ⟨as, r1⟩ := Dp.reads I d x v hd rx
  obtain ⟨bs, r2⟩ := Dp.reads I (.tuple ds) y u he ry
  exact SeqAt.notIn_tuple_reads r2 r1 (SeqAt.canLay_of_shaped se) (SeqAt.canLay_of_shaped sd) (room_in_shaped sd hu) ⟨.bl _, H, I, rfl, q⟩
end Ly
set_option Elab.async false
set_option linter.all false
set_option maxRecDepth 100000
/-! Ly: terms applied to the terms of a list; abstractions around -/
namespace Ly
open PySem PySem.Spec PyProof.Rows L2 Evl
def Tm.apps : Tm → List Tm → Tm
  | h, [] => h
  | h, t :: ts => Tm.apps (.app h t) ts
theorem rep_snoc {α : Type} (n : Nat) (x : α) (r : List α) : List.replicate n x ++ x :: r = List.replicate (n + 1) x ++ r := by
  induction n with
  | zero => rfl
  | succ n ih =>
    rw [List.replicate_succ, List.cons_append, ih]
    simp [List.replicate_succ]
theorem Tm.apps_enc : ∀ (ts : List Tm) (h : Tm), (Tm.apps h ts).enc = List.replicate ts.length (V.str "app") ++ (h.enc ++ encs ts)
  | [], h => by simp [Tm.apps, encs]
  | t :: ts, h => by
    show (Tm.apps (.app h t) ts).enc = _
    rw [Tm.apps_enc ts, encs_cons]
    show List.replicate ts.length (V.str "app") ++ (V.str "app" :: (h.enc ++ t.enc) ++ encs ts) = _
    rw [List.cons_append, rep_snoc]
    simp
theorem Tm.apps_snoc : ∀ (ts : List Tm) (h t : Tm), Tm.apps h (ts ++ [t]) = .app (Tm.apps h ts) t
  | [], h, t => rfl
  | x :: ts, h, t => Tm.apps_snoc ts (.app h x) t
theorem rep_flat {x : V} : ∀ n : Nat, (List.replicate n [x]).flatten = List.replicate n x
  | 0 => rfl
  | n + 1 => by rw [List.replicate_succ, List.flatten_cons, rep_flat n, List.replicate_succ]; rfl
theorem Tm.lam_enc (n : Nat) (t : Tm) : (Tm.lamN n t).enc = List.replicate n (V.str "lam") ++ t.enc := by rw [Tm.enc_lamN, rep_flat]
theorem encs_app (ts us : List Tm) : encs (ts ++ us) = encs ts ++ encs us := by simp [encs]
theorem encs_one (t : Tm) : encs [t] = t.enc := by simp [encs]
theorem encs_take {ts : List Tm} {i : Nat} {t : Tm} (h : ts[i]? = some t) : encs (ts.take (i + 1)) = encs (ts.take i) ++ t.enc := by
  rw [List.take_add_one, h]
  simp [encs]
theorem encs_pos : ∀ ts : List Tm, ts.length ≤ (encs ts).length
  | [] => by simp
  | t :: ts => by
    have h1 := encs_pos ts
    have h2 := List.length_pos_iff.mpr t.enc_ne
    rw [encs_cons, List.length_append, List.length_cons]
    omega
theorem encs_take_le (ts : List Tm) (i : Nat) : (encs (ts.take i)).length ≤ (encs ts).length := by
  have : encs ts = encs (ts.take i) ++ encs (ts.drop i) := by rw [← encs_app, List.take_append_drop]
  rw [this, List.length_append]
  omega
theorem encs_vars (f : Nat → Nat) (c : Nat) : encs ((List.range c).map fun k => Tm.var (f k)) = (List.range c).map fun k => V.int ((f k : Nat) : Int) := by
  unfold encs
  rw [List.map_map]
  induction c with
  | zero => rfl
  | succ c ih =>
    rw [List.range_succ, List.map_append, List.flatten_append, ih, List.map_append]
    simp [Tm.enc]
theorem w_neAt0 {K : PySem.W.Frag} {H : Hp} {Q : VK} (q : Q (.bl false) H) : rNeD K .non .non H Q := ⟨.none, .none, .non, .non, by decide, by decide, q⟩
theorem w_eqAt0 {K : PySem.W.Frag} {H : Hp} {Q : VK} (q : Q (.bl true) H) : rEqD K .non .non H Q := ⟨.none, .none, .non, .non, by decide, by decide, q⟩
section
variable {K : PySem.W.Frag} {H : Hp} {Q : VK} {l : Addr} {xs : List V}
theorem w_repL {k : Int} (h : H l = some (.lst xs)) (h1 : -(2 ^ 63) ≤ k) (h2 : k < 2 ^ 63) (z : xs.length * k.toNat ≤ sizeLine) (q : ∀ p, H p = none → Q (.ref p) (upd H p (.lst (List.replicate k.toNat xs).flatten))) : rRep (.ref l) (.int k) H Q := ⟨l, k, xs, rfl, rfl, h, h1, h2, z, q⟩
theorem sq_upd {a : Addr} {ys zs : List V} (h : H l = some (.lst ys)) (s : SqT K H a xs) : SqT K (upd H l (.lst zs)) a xs := by
  rcases s with (s | ⟨ob, s⟩) | s
  · exact .inl (.inl (by rw [upd_ne (fun z => by rw [z, h] at s; cases s)]; exact s))
  · exact .inl (.inr ⟨ob, by rw [upd_ne (fun z => by rw [z, h] at s; cases s)]; exact s⟩)
  · exact .inr s
theorem w_allB {bs : List Bool} (h : SqL K H l (bs.map V.bl)) (q : Q (.bl (bs.all id)) H) : rAll K [.ref l] H Q := ⟨l, bs, rfl, h, q⟩
end
end Ly
set_option Elab.async false
set_option linter.all false
set_option maxRecDepth 100000
/-! Ly: heads of terms -/
namespace Ly
open PySem PySem.Spec PyProof.Rows L2 Evl
/-- n abstractions around the head h applied to the terms as -/
def SpineOf (t : Tm) (n : Nat) (h : Tm) (as : List Tm) : Prop := t = Tm.lamN n (Tm.apps h as) ∧ (∀ f a, h ≠ .app f a) ∧ (as = [] → ∀ b, h ≠ .lam b)
theorem apps_ex : ∀ t : Tm, ∃ h as, t = Tm.apps h as ∧ ∀ f a, h ≠ .app f a
  | .var n => ⟨.var n, [], rfl, (fun _ _ z => nomatch z)⟩
  | .lam b => ⟨.lam b, [], rfl, (fun _ _ z => nomatch z)⟩
  | .app f a => by
    obtain ⟨h, as, e, hh⟩ := apps_ex f
    exact ⟨h, as ++ [a], by rw [Tm.apps_snoc, ← e], hh⟩
theorem spine_ex : ∀ t : Tm, ∃ n h as, SpineOf t n h as
  | .var n => ⟨0, .var n, [], rfl, (fun _ _ z => nomatch z), (fun _ _ z => nomatch z)⟩
  | .lam b => by
    obtain ⟨n, h, as, e, h1, h2⟩ := spine_ex b
    exact ⟨n + 1, h, as, by rw [e]; rfl, h1, h2⟩
  | .app f a => by
    obtain ⟨h, as, e, h1⟩ := apps_ex (.app f a)
    refine ⟨0, h, as, e, h1, fun z b => ?_⟩
    subst z
    exact fun y => by
      rw [y] at e
      cases e
section
variable {t h : Tm} {n : Nat} {as : List Tm}
theorem SpineOf.enc (s : SpineOf t n h as) : t.enc = List.replicate n (V.str "lam") ++ (List.replicate as.length (V.str "app") ++ (h.enc ++ encs as)) := by
  rw [s.1, Tm.lam_enc, Tm.apps_enc]
theorem SpineOf.len (s : SpineOf t n h as) : t.enc.length = n + as.length + h.enc.length + (encs as).length := by
  rw [s.enc]
  simp
  omega
theorem SpineOf.at1 (s : SpineOf t n h as) {j : Nat} (hj : j < n) : t.enc[j]? = some (.str "lam") := by
  rw [s.enc, List.getElem?_append_left (by simpa using hj), List.getElem?_replicate, if_pos hj]
theorem SpineOf.at2 (s : SpineOf t n h as) {j : Nat} (h1 : n ≤ j) (h2 : j < n + as.length) : t.enc[j]? = some (.str "app") := by
  rw [s.enc, List.getElem?_append_right (by simpa using h1), List.length_replicate, List.getElem?_append_left (by simp; omega), List.getElem?_replicate, if_pos (by omega)]
theorem SpineOf.drop (s : SpineOf t n h as) : t.enc.drop (n + as.length) = h.enc ++ encs as := by
  rw [s.enc, ← List.append_assoc]
  have e : n + as.length = (List.replicate n (V.str "lam") ++ List.replicate as.length (V.str "app")).length := by simp
  rw [e, List.drop_left]
/-- what stands at the head -/
theorem SpineOf.at3 (s : SpineOf t n h as) : ∃ v, t.enc[n + as.length]? = some v ∧ ((∃ m, h = .var m ∧ v = .int (m : Int)) ∨ (∃ b, h = .lam b ∧ v = .str "lam" ∧ as ≠ [])) := by
  have hd := s.drop
  cases h with
  | var m =>
    have g := drop_get (i := n + as.length) (v := .int (m : Int)) (r := encs as) (by rw [hd]; rfl)
    exact ⟨_, g.1, .inl ⟨m, rfl, rfl⟩⟩
  | lam b =>
    have g := drop_get (i := n + as.length) (v := .str "lam") (r := b.enc ++ encs as) (by rw [hd]; rfl)
    exact ⟨_, g.1, .inr ⟨b, rfl, rfl, fun z => s.2.2 z b rfl⟩⟩
  | app f a => exact absurd rfl (s.2.1 f a)
theorem SpineOf.at0 (s : SpineOf t n h as) : ∃ v, t.enc[n]? = some v ∧ (v = .str "app" ∨ ∃ m : Nat, v = .int (m : Int)) := by
  by_cases c : as = []
  · obtain ⟨v, h1, h2⟩ := s.at3
    rw [c] at h1
    refine ⟨v, h1, ?_⟩
    rcases h2 with ⟨m, _, e⟩ | ⟨b, _, _, z⟩
    · exact .inr ⟨m, e⟩
    · exact absurd c z
  · exact ⟨_, s.at2 (Nat.le_refl _) (by have := List.length_pos_iff.mpr c; omega), .inl rfl⟩
theorem SpineOf.arg (s : SpineOf t n h as) {m i : Nat} (hm : h = .var m) {u : Tm} (hu : as[i]? = some u) : t.enc.drop (n + as.length + 1 + (encs (as.take i)).length) = u.enc ++ encs (as.drop (i + 1)) := by
  have hd := s.drop
  rw [hm] at hd
  rw [Nat.add_assoc (n + as.length), ← List.drop_drop, hd]
  show ((V.int (m : Int)) :: encs as).drop (1 + (encs (as.take i)).length) = _
  rw [Nat.add_comm, List.drop_succ_cons]
  have e : encs as = encs (as.take i) ++ (u.enc ++ encs (as.drop (i + 1))) := by
    have e1 : as = as.take i ++ u :: as.drop (i + 1) := by
      rw [← drop_at hu, List.take_append_drop]
    conv => lhs; rw [e1]
    rw [encs_app, encs_cons]
  rw [e, List.drop_left]
theorem SpineOf.argG (s : SpineOf t n h as) {i : Nat} {u : Tm} (hu : as[i]? = some u) : t.enc.drop (n + as.length + h.enc.length + (encs (as.take i)).length) = u.enc ++ encs (as.drop (i + 1)) := by
  have hd := s.drop
  rw [Nat.add_assoc (n + as.length), ← List.drop_drop, hd, ← List.drop_drop, List.drop_left]
  have e : encs as = encs (as.take i) ++ (u.enc ++ encs (as.drop (i + 1))) := by
    have e1 : as = as.take i ++ u :: as.drop (i + 1) := by
      rw [← drop_at hu, List.take_append_drop]
    conv => lhs; rw [e1]
    rw [encs_app, encs_cons]
  rw [e, List.drop_left]
end
/-- a head as data: two numbers and a list of terms -/
def headD (n v : Int) (as : List Tm) : PyData := .tuple [.int n, .int v, .list (as.map tmd)]
theorem headD_shaped (n v : Int) (as : List Tm) : SeqAt.shaped (headD n v as) = true := by
  have h1 : (headD n v as).canLay0 = true := by
    show (true && (true && (PyData.canLayAll0 (as.map tmd) && true))) = true
    rw [lay_tms]
    rfl
  have h2 : (headD n v as).depth ≤ 4 := by
    have h := depth_tms as
    simp only [headD, PyData.depth, PyData.depthAll]
    omega
  unfold SeqAt.shaped
  rw [h1, Bool.true_and]
  exact decide_eq_true (by omega)
theorem headD_eqv (n v : Int) (as : List Tm) : PyData.eqv (headD n v as) (headD n v as) = true := by
  have h := eqv_tms as
  simp [headD, PyData.eqv, PyData.eqvAll, h]
section
variable {K : PySem.W.Frag} {H : Hp} {Q : VK} {p q l m : Addr} {n v : Int} {bs cs : List Addr} {as : List Tm}
theorem headD_dp (h : SqT K H p [.int n, .int v, .ref l]) (hl : H l = some (.lst (refs bs))) (ht : Ts K H bs as) : Dp K H (.ref p) (headD n v as) := .tup h (.cons (.int n) (.cons (.int v) (.cons (.lst (SqL.of hl) ht.dp) .nil)))
theorem w_neHd (h : SqT K H p [.int n, .int v, .ref l]) (hl : H l = some (.lst (refs bs))) (ht : Ts K H bs as) (k : SqT K H q [.int n, .int v, .ref m]) (kl : H m = some (.lst (refs cs))) (kt : Ts K H cs as) (qq : Q (.bl false) H) : rNeD K (.ref p) (.ref q) H Q :=
  ⟨_, _, headD_dp h hl ht, headD_dp k kl kt, headD_shaped _ _ _, headD_shaped _ _ _, by rw [headD_eqv]; exact qq⟩
theorem w_eqHd (h : SqT K H p [.int n, .int v, .ref l]) (hl : H l = some (.lst (refs bs))) (ht : Ts K H bs as) (k : SqT K H q [.int n, .int v, .ref m]) (kl : H m = some (.lst (refs cs))) (kt : Ts K H cs as) (qq : Q (.bl true) H) : rEqD K (.ref p) (.ref q) H Q :=
  ⟨_, _, headD_dp h hl ht, headD_dp k kl kt, headD_shaped _ _ _, headD_shaped _ _ _, by rw [headD_eqv]; exact qq⟩
theorem w_neTs (h : H p = some (.lst (refs bs))) (k : H q = some (.lst (refs cs))) (ht : Ts K H bs as) (kt : Ts K H cs as) (qq : Q (.bl false) H) : rNeD K (.ref p) (.ref q) H Q :=
  ⟨_, _, .lst (SqL.of h) ht.dp, .lst (SqL.of k) kt.dp, shaped_tms as, shaped_tms as, by rw [PyData.eqv, eqv_tms]; exact qq⟩
theorem w_sum {ns : List Int} (h : SqL K H p (ns.map V.int)) (q : Q (.int ns.sum) H) : rSum K [.ref p] H Q := ⟨p, ns, rfl, h, q⟩
end
theorem fits_part {xs ys post : List V} {i : Nat} (h : fitsV xs = true) (hd : xs.drop i = ys ++ post) : fitsV ys = true := by
  have hl := congrArg List.length hd
  rw [List.length_drop, List.length_append] at hl
  simp only [fitsV, Bool.and_eq_true, decide_eq_true_eq, List.all_eq_true] at h ⊢
  refine ⟨by omega, fun x hx => h.2 x ?_⟩
  exact List.mem_of_mem_drop (i := i) (by rw [hd]; exact List.mem_append_left _ hx)
end Ly
set_option Elab.async false
set_option linter.all false
set_option maxRecDepth 100000
set_option maxHeartbeats 2000000
/-! Ly: steps at the head redex; a letter so many times -/
namespace Ly
open PySem PySem.Spec PyProof.Rows L2 Evl
theorem fold_rep {α : Type} (c : α) : ∀ (k : Nat) (xs : List α), (List.replicate k #[c]).foldl (· ++ ·) xs.toArray = (xs ++ List.replicate k c).toArray
  | 0, xs => by simp
  | k + 1, xs => by
    rw [List.replicate_succ, List.foldl_cons]
    have e : xs.toArray ++ #[c] = (xs ++ [c]).toArray := by simp
    rw [e, fold_rep c k (xs ++ [c]), List.replicate_succ]
    simp
def rRepC : R2 := fun x y H Q => ∃ (c k : Nat), x = .str (pl [c]) ∧ y = .int (k : Int) ∧ k ≤ 3000000 ∧ Q (.str (pl (List.replicate k c))) H
theorem op_repC {X : Cx} : OpR X (binaryOp .Mult) rRepC := by
  intro pins s σ H x y v u Q I rx ry ⟨c, k, ex, ey, hk, q⟩
  subst ex ey
  obtain ⟨t1, e1⟩ := rx
  obtain ⟨t2, e2⟩ := ry
  subst e1 e2
  have sl := sizeLine_eq
  have hl1 : (pl [c]).length = 1 := by simp [pl, Str.length]
  refine PySem.P.mul_str (by simp; omega) (fun h1 _ => ?_) (fun h1 _ => ?_) ?_
  · rw [hl1]
    have h2 : (1 : Int) ≤ (2 ^ 63 - 1) / (k : Int) := (Int.le_ediv_iff_mul_le (by omega)).mpr (by omega)
    omega
  · rw [hl1]
    exact decide_eq_false (by omega)
  · by_cases h0 : (k : Int) < 1
    · rw [if_pos h0]
      have e : k = 0 := by omega
      subst e
      exact ⟨by simp [Str.empty, Str.length], .str (pl []), H, I.tok _, ⟨_, rfl⟩, q⟩
    · rw [if_neg h0]
      by_cases h1 : k = 1
      · subst h1
        rw [if_pos (by simp)]
        exact ⟨.str (pl [c]), H, I, ⟨_, rfl⟩, q⟩
      · rw [if_neg (by simp [pl, Str.length]; omega)]
        have e : (⟨(List.replicate (k : Int).toNat (pl [c]).cps).foldl (· ++ ·) #[]⟩ : Str) = pl (List.replicate k c) := by
          have := fold_rep c k []
          simp only [List.nil_append] at this
          unfold pl
          rw [Int.toNat_natCast]
          exact congrArg Str.mk this
        refine ⟨?_, .str (pl (List.replicate k c)), H, I.tok _, ⟨s.toks, ?_⟩, q⟩
        · rw [e, pl_len, List.length_replicate]
          omega
        · rw [e]
theorem w_repCb {H : Hp} {Q : VK} {k : Nat} (z : k ≤ 3000000) (q : Q (.str (pl (List.replicate k 98))) H) : rRepC (.str "b") (.int (k : Int)) H Q := ⟨98, k, by rw [pl_b], rfl, z, q⟩
theorem w_repCf {H : Hp} {Q : VK} {k : Nat} (z : k ≤ 3000000) (q : Q (.str (pl (List.replicate k 102))) H) : rRepC (.str "f") (.int (k : Int)) H Q := ⟨102, k, by rw [pl_f], rfl, z, q⟩
/-! ### the head redex -/
/-- the place of the head redex -/
def Tm.hd : Tm → Option (List Nat)
  | .var _ => none
  | .lam b => (Tm.hd b).map (98 :: ·)
  | .app f _ => if f.isLam = true then some [] else (Tm.hd f).map (102 :: ·)
theorem hd_apps : ∀ (ts : List Tm) (f a : Tm), Tm.hd (Tm.apps (.app f a) ts) = (Tm.hd (.app f a)).map (List.replicate ts.length 102 ++ ·)
  | [], f, a => by
    show Tm.hd (.app f a) = _
    cases Tm.hd (.app f a) <;> simp
  | t :: ts, f, a => by
    show Tm.hd (Tm.apps (.app (.app f a) t) ts) = _
    rw [hd_apps ts (.app f a) t]
    have e : Tm.hd (.app (.app f a) t) = (Tm.hd (.app f a)).map (102 :: ·) := by
      rw [Tm.hd, if_neg (by simp [Tm.isLam])]
    rw [e, Option.map_map]
    congr 1
    funext x
    show List.replicate ts.length 102 ++ 102 :: x = _
    rw [rep_snoc]
    rfl
theorem hd_lamN : ∀ (n : Nat) (t : Tm), Tm.hd (Tm.lamN n t) = (Tm.hd t).map (List.replicate n 98 ++ ·)
  | 0, t => by
    show Tm.hd t = _
    cases Tm.hd t <;> simp
  | n + 1, t => by
    show (Tm.hd (Tm.lamN n t)).map (98 :: ·) = _
    rw [hd_lamN n t, Option.map_map]
    rfl
theorem sub_apps : ∀ (ts : List Tm) (x : Tm) (p : List Nat) (i : Nat) (u : Tm), x.sub p = some (i, u) → (Tm.apps x ts).sub (List.replicate ts.length 102 ++ p) = some (ts.length + i, u)
  | [], x, p, i, u, h => by simpa [Tm.apps] using h
  | t :: ts, x, p, i, u, h => by
    have h1 : (Tm.app x t).sub (102 :: p) = some (i + 1, u) := by simp [Tm.sub, h]
    have h2 := sub_apps ts (.app x t) (102 :: p) (i + 1) u h1
    rw [rep_snoc] at h2
    show (Tm.apps (.app x t) ts).sub (List.replicate (ts.length + 1) 102 ++ p) = some (ts.length + 1 + i, u)
    rw [h2]
    simp only [Option.some.injEq, Prod.mk.injEq, and_true]
    omega
theorem sub_lamN : ∀ (n : Nat) (x : Tm) (p : List Nat) (i : Nat) (u : Tm), x.sub p = some (i, u) → (Tm.lamN n x).sub (List.replicate n 98 ++ p) = some (n + i, u)
  | 0, x, p, i, u, h => by simpa [Tm.lamN] using h
  | n + 1, x, p, i, u, h => by
    have h2 := sub_lamN n x p i u h
    show (Tm.lam (Tm.lamN n x)).sub (98 :: (List.replicate n 98 ++ p)) = some (n + 1 + i, u)
    simp only [Tm.sub, if_pos, h2, Option.map_some, Option.some.injEq, Prod.mk.injEq, and_true]
    omega
/-- the place of the head redex, in letters of a spine -/
def spPl (n : Nat) (as : List Tm) : List Nat := List.replicate n 98 ++ List.replicate (as.length - 1) 102
section
variable {t h : Tm} {n : Nat} {as : List Tm}
theorem SpineOf.noHd (s : SpineOf t n h as) {v : Nat} (e : h = .var v) : Tm.hd t = none := by
  rw [s.1, hd_lamN, e]
  cases as with
  | nil => rfl
  | cons a ts =>
    show ((Tm.apps (.app (.var v) a) ts).hd).map _ = none
    rw [hd_apps]
    rfl
theorem SpineOf.hasHd (s : SpineOf t n h as) {b : Tm} (e : h = .lam b) : ∃ a, Tm.hd t = some (spPl n as) ∧ t.Red (spPl n as) (n + (as.length - 1)) b a ∧ as ≠ [] := by
  cases as with
  | nil => exact absurd e (s.2.2 rfl b)
  | cons a ts =>
    refine ⟨a, ?_, ?_, by simp⟩
    · rw [s.1, hd_lamN, e]
      show ((Tm.apps (.app (.lam b) a) ts).hd).map _ = _
      rw [hd_apps]
      simp [Tm.hd, Tm.isLam, spPl]
    · have h1 := sub_apps ts (.app (.lam b) a) [] 0 _ (Tm.sub_nil _)
      have h2 := sub_lamN n _ _ _ _ h1
      unfold Tm.Red
      rw [s.1, e]
      show (Tm.lamN n (Tm.apps (.app (.lam b) a) ts)).sub (spPl n (a :: ts)) = _
      simp only [spPl, List.length_cons, Nat.add_sub_cancel]
      simpa using h2
end
/-- what steps at the head redex come to -/
def Tm.hf : Nat → Tm → Nat × Wk
  | 0, t => (0, match t.hd with | none => .done t | _ => .out)
  | k + 1, t => match t.hd with
    | none => (0, .done t)
    | some p => if fitsV (t.step p).enc = false then (1, .large) else ((Tm.hf k (t.step p)).1 + 1, (Tm.hf k (t.step p)).2)
def addW (n : Nat) (x : Nat × Wk) : Nat × Wk := (n + x.1, x.2)
theorem addW_zero (x : Nat × Wk) : addW 0 x = x := by simp [addW]
theorem addW_add (m n : Nat) (x : Nat × Wk) : addW m (addW n x) = addW (m + n) x := by simp [addW, Nat.add_assoc]
theorem Tm.hf_none {t : Tm} (h : t.hd = none) : ∀ k, Tm.hf k t = (0, .done t)
  | 0 => by unfold Tm.hf; rw [h]
  | k + 1 => by unfold Tm.hf; rw [h]
theorem Tm.hf_zero {t : Tm} {p : List Nat} (h : t.hd = some p) : Tm.hf 0 t = (0, .out) := by unfold Tm.hf; rw [h]
theorem Tm.hf_large {t : Tm} {p : List Nat} (h : t.hd = some p) (hf : fitsV (t.step p).enc = false) (k : Nat) : Tm.hf (k + 1) t = (1, .large) := by
  rw [Tm.hf, h]
  exact if_pos hf
theorem Tm.hf_step {t : Tm} {p : List Nat} (h : t.hd = some p) (hf : fitsV (t.step p).enc = true) (k : Nat) : Tm.hf (k + 1) t = addW 1 (Tm.hf k (t.step p)) := by
  rw [Tm.hf, h]
  refine (if_neg (by rw [hf]; simp)).trans ?_
  simp [addW, Nat.add_comm]
/-- the value that stands for the head redex -/
def Hst (u : Tm) (v : V) : Prop := (∃ (p : List Nat) (i : Nat) (b c : Tm), v = .int (i : Int) ∧ u.hd = some p ∧ u.Red p i b c) ∨ (v = .non ∧ u.hd = none)
end Ly
set_option Elab.async false
set_option linter.all false
set_option maxRecDepth 100000
/-! Ly: combinations -/
namespace Ly
open PySem PySem.Spec PyProof.Rows L2 Evl
inductive Cb where
  | S
  | K
  | I
  | var (n : Nat)
  | app (f a : Cb)
def Cb.enc : Cb → List V
  | .S => [.str "S"]
  | .K => [.str "K"]
  | .I => [.str "I"]
  | .var n => [.int n]
  | .app f a => .str "app" :: (f.enc ++ a.enc)
/-- its variables are below w -/
def Cb.lt (w : Nat) : Cb → Prop
  | .var n => n < w
  | .app f a => f.lt w ∧ a.lt w
  | _ => True
def cencs (ts : List Cb) : List V := (ts.map Cb.enc).flatten
theorem cencs_cons (t : Cb) (ts : List Cb) : cencs (t :: ts) = t.enc ++ cencs ts := by simp [cencs]
/-- whatever combinations stand for what is missing, the whole is one -/
def CComp (w : Nat) (nodes : List V) (m : Nat) : Prop := ∀ ts : List Cb, ts.length = m → (∀ t ∈ ts, t.lt w) → ∃ t : Cb, t.lt w ∧ t.enc = nodes ++ cencs ts
theorem CComp.start (w : Nat) : CComp w [] 1 := fun ts hl hw => by
  match ts, hl with
  | [t], _ => exact ⟨t, hw t (by simp), by simp [cencs]⟩
theorem CComp.done {w : Nat} {nodes : List V} (h : CComp w nodes 0) : ∃ t : Cb, t.lt w ∧ t.enc = nodes := by
  obtain ⟨t, h1, h2⟩ := h [] rfl (by simp)
  exact ⟨t, h1, by rw [h2]; simp [cencs]⟩
theorem CComp.leaf {w m : Nat} {nodes : List V} (h : CComp w nodes (m + 1)) (c : Cb) (hc : c.lt w) : CComp w (nodes ++ c.enc) m := fun ts hl hw => by
  obtain ⟨t, h1, h2⟩ := h (c :: ts) (by simp [hl]) (fun p hp => by
    rcases List.mem_cons.mp hp with e | e
    · rw [e]
      exact hc
    · exact hw p e)
  exact ⟨t, h1, by rw [h2, cencs_cons, List.append_assoc]⟩
theorem CComp.app {w m : Nat} {nodes : List V} (h : CComp w nodes (m + 1)) : CComp w (nodes ++ [.str "app"]) (m + 2) := fun ts hl hw => by
  match ts, hl with
  | f :: a :: r, hl =>
    obtain ⟨t, h1, h2⟩ := h (.app f a :: r) (by simpa using hl) (fun p hp => by
      rcases List.mem_cons.mp hp with e | e
      · rw [e]
        exact ⟨hw f (by simp), hw a (by simp)⟩
      · exact hw p (List.mem_cons_of_mem _ (List.mem_cons_of_mem _ e)))
    exact ⟨t, h1, by rw [h2, cencs_cons, cencs_cons, cencs_cons]; simp [Cb.enc]⟩
/-- the nodes of combinations -/
def NodeC (v : V) : Prop := (∃ n : Nat, v = .int n) ∨ v = .str "S" ∨ v = .str "K" ∨ v = .str "I" ∨ v = .str "app"
theorem Cb.nodes : ∀ (t : Cb), ∀ v ∈ t.enc, NodeC v
  | .S, v, h => .inr (.inl (List.mem_singleton.mp h))
  | .K, v, h => .inr (.inr (.inl (List.mem_singleton.mp h)))
  | .I, v, h => .inr (.inr (.inr (.inl (List.mem_singleton.mp h))))
  | .var n, v, h => .inl ⟨n, List.mem_singleton.mp h⟩
  | .app f a, v, h => by
    rcases List.mem_cons.mp h with e | e
    · exact .inr (.inr (.inr (.inr e)))
    · rcases List.mem_append.mp e with e | e
      · exact f.nodes v e
      · exact a.nodes v e
theorem NodeC.flat1 {v : V} (h : NodeC v) : (∃ i, v = .int i) ∨ ∃ s, v = .str s := by
  rcases h with ⟨n, rfl⟩ | rfl | rfl | rfl | rfl
  · exact .inl ⟨_, rfl⟩
  all_goals exact .inr ⟨_, rfl⟩
theorem Cb.flat (t : Cb) : Flat t.enc := fun v h => (t.nodes v h).flat1
theorem Cb.pos : ∀ t : Cb, 0 < t.enc.length
  | .S => by simp [Cb.enc]
  | .K => by simp [Cb.enc]
  | .I => by simp [Cb.enc]
  | .var _ => by simp [Cb.enc]
  | .app _ _ => by simp [Cb.enc]
theorem ixN_last {n : Nat} (h : 0 < n) : ixN n (-1) = some (n - 1) := by
  unfold ixN
  rw [if_neg (by omega), if_pos (by omega)]
  congr 1
  omega
theorem set_last (xs : List V) (y z : V) : (xs ++ [y]).set ((xs ++ [y]).length - 1) z = xs ++ [z] := by
  simp
theorem getS_hit {k : Str} {v : V} {r : List (Str × V)} : getS ((k, v) :: r) (.str k) = some v := by simp [getS]
theorem getS_miss {k z : Str} {v : V} {r : List (Str × V)} (h : decide (k = z) = false) : getS ((k, v) :: r) (.str z) = getS r (.str z) := by
  simp only [getS, List.find?_cons, h]
theorem getS_nil {v : V} : getS [] v = none := by cases v <;> rfl
theorem getS_int {r : List (Str × V)} {i : Int} : getS r (.int i) = none := rfl
theorem NodeC.key {v : V} (h : NodeC v) : ∃ k, v = kV k := by
  rcases h with ⟨n, rfl⟩ | rfl | rfl | rfl | rfl
  · exact kV_int _
  all_goals exact kV_str _
/-! nodes of any words, compared -/
def NdS (xs : List V) : Prop := ∀ x ∈ xs, (∃ i, x = .int i) ∨ ∃ s : Str, x = .str s ∧ PyData.strOk s = true
theorem NdS.flat {xs : List V} (h : NdS xs) : Flat xs := fun x hx => by
  rcases h x hx with e | ⟨s, e, _⟩
  · exact .inl e
  · exact .inr ⟨s, e⟩
theorem NdS.tail {x : V} {xs : List V} (h : NdS (x :: xs)) : NdS xs := fun y hy => h y (List.mem_cons_of_mem _ hy)
theorem NdS.app {xs ys : List V} (h : NdS xs) (k : NdS ys) : NdS (xs ++ ys) := fun x hx => by
  rcases List.mem_append.mp hx with e | e
  · exact h x e
  · exact k x e
theorem eqvS : ∀ {xs ys : List V}, NdS xs → NdS ys → PyData.eqvAll (xs.map dv) (ys.map dv) = decide (xs = ys)
  | [], [], _, _ => by simp [PyData.eqvAll]
  | [], _ :: _, _, _ => by simp [PyData.eqvAll]
  | _ :: _, [], _, _ => by simp [PyData.eqvAll]
  | x :: xs, y :: ys, h, k => by
    have ih := eqvS h.tail k.tail
    have hxy : PyData.eqv (dv x) (dv y) = decide (x = y) := by
      rcases h x List.mem_cons_self with ⟨i, rfl⟩ | ⟨s, rfl, _⟩ <;> rcases k y List.mem_cons_self with ⟨j, rfl⟩ | ⟨z, rfl, _⟩ <;> simp [dv, PyData.eqv] <;> (rw [Bool.eq_iff_iff]; simp)
    rw [List.map_cons, List.map_cons, PyData.eqvAll, ih, hxy]
    simp
theorem layS : ∀ {xs : List V}, NdS xs → PyData.canLayAll0 (xs.map dv) = true
  | [], _ => rfl
  | x :: xs, h => by
    have ih := layS h.tail
    have hx : (dv x).canLay0 = true := by
      rcases h x List.mem_cons_self with ⟨i, rfl⟩ | ⟨s, rfl, hs⟩
      · rfl
      · exact hs
    rw [List.map_cons, PyData.canLayAll0, hx, ih]
    rfl
theorem dpS {K : PySem.W.Frag} {H : Hp} : ∀ {xs : List V}, NdS xs → DpAll K H xs (xs.map dv)
  | [], _ => .nil
  | x :: xs, h => by
    refine .cons ?_ (dpS h.tail)
    rcases h x List.mem_cons_self with ⟨i, rfl⟩ | ⟨s, rfl, _⟩
    · exact .int i
    · exact .str _
theorem shapedS {xs : List V} (h : NdS xs) : SeqAt.shaped (.tuple (xs.map dv)) = true := by
  have h1 : (PyData.tuple (xs.map dv)).canLay0 = true := layS h
  have h2 := depth_nodes (xs := xs)
  unfold SeqAt.shaped
  rw [h1, Bool.true_and]
  exact decide_eq_true (by omega)
section
variable {K : PySem.W.Frag} {H : Hp} {Q : VK} {a b : Addr} {xs ys : List V}
theorem w_eqNS (h : SqT K H a xs) (k : SqT K H b ys) (n : NdS xs) (m : NdS ys) (q : Q (.bl (decide (xs = ys))) H) : rEqD K (.ref a) (.ref b) H Q :=
  ⟨_, _, .tup h (dpS n), .tup k (dpS m), shapedS n, shapedS m, by rw [PyData.eqv, eqvS n m]; exact q⟩
theorem w_neNS (h : SqT K H a xs) (k : SqT K H b ys) (n : NdS xs) (m : NdS ys) (q : Q (.bl (!decide (xs = ys))) H) : rNeD K (.ref a) (.ref b) H Q :=
  ⟨_, _, .tup h (dpS n), .tup k (dpS m), shapedS n, shapedS m, by rw [PyData.eqv, eqvS n m]; exact q⟩
theorem w_neTN (h : SqT K H a xs) (n : NdS xs) (q : Q (.bl true) H) : rNeD K (.ref a) .non H Q :=
  ⟨_, _, .tup h (dpS n), .non, shapedS n, by decide, q⟩
theorem w_neNN (q : Q (.bl false) H) : rNeD K .non .non H Q := ⟨_, _, .non, .non, by decide, by decide, q⟩
end
theorem NodeC.nds1 {v : V} (h : NodeC v) : (∃ i, v = .int i) ∨ ∃ s : Str, v = .str s ∧ PyData.strOk s = true := by
  rcases h with ⟨n, rfl⟩ | rfl | rfl | rfl | rfl
  · exact .inl ⟨_, rfl⟩
  all_goals exact .inr ⟨_, rfl, by decide +kernel⟩
theorem NdS.of {xs : List V} (h : ∀ x ∈ xs, NodeC x) : NdS xs := fun x hx => (h x hx).nds1
/-! the nodes of a combination's term; of one with a value put in -/
def tmN : V → List V
  | .str x => if x = "S" then [.str "lam", .str "lam", .str "lam", .str "app", .str "app", .int 2, .int 0, .str "app", .int 1, .int 0]
    else if x = "K" then [.str "lam", .str "lam", .int 1] else if x = "I" then [.str "lam", .int 0] else [.str x]
  | v => [v]
def vpN (ys : List V) : V → List V
  | .int i => if i = 0 then ys else [.int (i - 1)]
  | v => [v]
def dcN : V → V
  | .int i => .int (i - 1)
  | v => v
theorem vpN_z {ys : List V} {i : Int} (h : i = 0) : vpN ys (.int i) = ys := if_pos h
theorem vpN_p {ys : List V} {i : Int} (h : i ≠ 0) : vpN ys (.int i) = [.int (i - 1)] := if_neg h
theorem tmN_int (i : Int) : tmN (.int i) = [.int i] := rfl
theorem tmN_S : tmN (.str "S") = [.str "lam", .str "lam", .str "lam", .str "app", .str "app", .int 2, .int 0, .str "app", .int 1, .int 0] := by decide +kernel
theorem tmN_K : tmN (.str "K") = [.str "lam", .str "lam", .int 1] := by decide +kernel
theorem tmN_I : tmN (.str "I") = [.str "lam", .int 0] := by decide +kernel
theorem tmN_A : tmN (.str "app") = [.str "app"] := by decide +kernel
theorem fm_take {f : V → List V} {xs : List V} {i : Nat} {x : V} (h : xs[i]? = some x) : ((xs.take (i + 1)).map f).flatten = ((xs.take i).map f).flatten ++ f x := by
  rw [List.take_add_one, h]
  simp
theorem fm_len {f : V → List V} {n : Nat} : ∀ {xs : List V}, (∀ x ∈ xs, (f x).length ≤ n) → ((xs.map f).flatten).length ≤ n * xs.length
  | [], _ => by simp
  | x :: xs, h => by
    have ih := fm_len (f := f) (n := n) (xs := xs) fun y hy => h y (List.mem_cons_of_mem _ hy)
    have h1 := h x List.mem_cons_self
    rw [List.map_cons, List.flatten_cons, List.length_append, List.length_cons, Nat.mul_succ]
    omega
theorem Cb.small {w : Nat} : ∀ {t : Cb}, t.lt w → ∀ (i : Int), V.int i ∈ t.enc → i < w
  | .S, _, i, h => by cases List.mem_singleton.mp h
  | .K, _, i, h => by cases List.mem_singleton.mp h
  | .I, _, i, h => by cases List.mem_singleton.mp h
  | .var n, hl, i, h => by
    cases List.mem_singleton.mp h
    have : n < w := hl
    omega
  | .app f a, hl, i, h => by
    rcases List.mem_cons.mp h with e | e
    · cases e
    · rcases List.mem_append.mp e with e | e
      · exact Cb.small hl.1 i e
      · exact Cb.small hl.2 i e
theorem NodeC.ok {v : V} {w : Nat} (h : NodeC v) (hw : w ≤ 1000000) (hs : ∀ i, v = .int i → i < w) : okV v = true := by
  rcases h with ⟨n, rfl⟩ | rfl | rfl | rfl | rfl
  · have := hs _ rfl
    show decide _ = true
    exact decide_eq_true (by omega)
  all_goals rfl
theorem tmN_ok {t : Cb} {w : Nat} (h : t.lt w) (hw : w ≤ 1000000) : ((t.enc.map tmN).flatten).all okV = true := by
  refine List.all_eq_true.mpr fun y hy => ?_
  obtain ⟨l, h1, h2⟩ := List.mem_flatten.mp hy
  obtain ⟨x, hx, rfl⟩ := List.mem_map.mp h1
  rcases t.nodes x hx with ⟨n, rfl⟩ | rfl | rfl | rfl | rfl
  · rw [tmN_int] at h2
    rw [List.mem_singleton.mp h2]
    exact (t.nodes _ hx).ok hw fun i e => by cases e; exact Cb.small h _ hx
  · rw [tmN_S] at h2
    have : ∀ z ∈ ([V.str "lam", V.str "lam", V.str "lam", V.str "app", V.str "app", V.int 2, V.int 0, V.str "app", V.int 1, V.int 0] : List V), okV z = true := by decide +kernel
    exact this y h2
  · rw [tmN_K] at h2
    have : ∀ z ∈ ([V.str "lam", V.str "lam", V.int 1] : List V), okV z = true := by decide +kernel
    exact this y h2
  · rw [tmN_I] at h2
    have : ∀ z ∈ ([V.str "lam", V.int 0] : List V), okV z = true := by decide +kernel
    exact this y h2
  · rw [tmN_A] at h2
    rw [List.mem_singleton.mp h2]
    rfl
theorem vpN_ok {t u : Cb} {w z : Nat} (h : t.lt w) (hw : w ≤ 1000000) (k : u.lt z) (kz : z ≤ 1000000) : ((t.enc.map (vpN u.enc)).flatten).all okV = true := by
  refine List.all_eq_true.mpr fun y hy => ?_
  obtain ⟨l, h1, h2⟩ := List.mem_flatten.mp hy
  obtain ⟨x, hx, rfl⟩ := List.mem_map.mp h1
  rcases t.nodes x hx with ⟨n, rfl⟩ | rfl | rfl | rfl | rfl
  · by_cases c : (n : Int) = 0
    · rw [vpN_z c] at h2
      exact (u.nodes _ h2).ok kz fun i e => by subst e; exact Cb.small k _ h2
    · rw [vpN_p c] at h2
      rw [List.mem_singleton.mp h2]
      have := Cb.small h _ hx
      exact decide_eq_true (by omega)
  all_goals
    rw [List.mem_singleton.mp h2]
    rfl
theorem tmN_nds {xs : List V} (h : ∀ x ∈ xs, NodeC x) : NdS ((xs.map tmN).flatten) := fun y hy => by
  obtain ⟨l, h1, h2⟩ := List.mem_flatten.mp hy
  obtain ⟨x, hx, rfl⟩ := List.mem_map.mp h1
  rcases h x hx with ⟨n, rfl⟩ | rfl | rfl | rfl | rfl
  · rw [tmN_int] at h2
    exact .inl ⟨n, List.mem_singleton.mp h2⟩
  · rw [tmN_S] at h2
    simp only [List.mem_cons, List.not_mem_nil, or_false] at h2
    rcases h2 with rfl | rfl | rfl | rfl | rfl | rfl | rfl | rfl | rfl | rfl <;> first | exact .inl ⟨_, rfl⟩ | exact .inr ⟨_, rfl, by decide +kernel⟩
  · rw [tmN_K] at h2
    simp only [List.mem_cons, List.not_mem_nil, or_false] at h2
    rcases h2 with rfl | rfl | rfl <;> first | exact .inl ⟨_, rfl⟩ | exact .inr ⟨_, rfl, by decide +kernel⟩
  · rw [tmN_I] at h2
    simp only [List.mem_cons, List.not_mem_nil, or_false] at h2
    rcases h2 with rfl | rfl <;> first | exact .inl ⟨_, rfl⟩ | exact .inr ⟨_, rfl, by decide +kernel⟩
  · rw [tmN_A] at h2
    exact .inr ⟨_, List.mem_singleton.mp h2, by decide +kernel⟩
theorem vpN_nds {xs ys : List V} (h : ∀ x ∈ xs, NodeC x) (k : ∀ y ∈ ys, NodeC y) : NdS ((xs.map (vpN ys)).flatten) := fun y hy => by
  obtain ⟨l, h1, h2⟩ := List.mem_flatten.mp hy
  obtain ⟨x, hx, rfl⟩ := List.mem_map.mp h1
  have hn := h x hx
  rcases hn with ⟨n, rfl⟩ | rfl | rfl | rfl | rfl
  · by_cases c : (n : Int) = 0
    · rw [vpN_z c] at h2
      exact (k y h2).nds1
    · rw [vpN_p c] at h2
      exact .inl ⟨_, List.mem_singleton.mp h2⟩
  all_goals exact .inr ⟨_, List.mem_singleton.mp h2, by decide +kernel⟩
/-- what a def tells: the term, or None -/
def Ans (K : PySem.W.Frag) (H : Hp) (Y : List V) (v : V) : Prop := (fitsV Y = true ∧ ∃ p, v = .ref p ∧ SqT K H p Y) ∨ (fitsV Y = false ∧ v = .non)
theorem Ans.mono {K : PySem.W.Frag} {H H' : Hp} {Y : List V} {v : V} (h : Ans K H Y v) (e : Ex H H') : Ans K H' Y v := by
  rcases h with ⟨a, p, b, c⟩ | h
  · exact .inl ⟨a, p, b, ex_t e c⟩
  · exact .inr h
theorem tmN_len {x : V} (h : NodeC x) : (tmN x).length ≤ 10 := by
  rcases h with ⟨n, rfl⟩ | rfl | rfl | rfl | rfl
  · rw [tmN_int]; simp
  · rw [tmN_S]; simp
  · rw [tmN_K]; simp
  · rw [tmN_I]; simp
  · rw [tmN_A]; simp
end Ly
set_option Elab.async false
set_option linter.all false
set_option maxRecDepth 100000
set_option maxHeartbeats 2000000
/-! Ly: partial terms -/
namespace Ly
open PySem PySem.Spec PyProof.Rows L2 Evl
theorem snoc_rec {α : Type} {motive : List α → Prop} (nil : motive []) (snoc : ∀ as a, motive as → motive (as ++ [a])) (as : List α) : motive as := by
  have h : ∀ bs : List α, motive bs.reverse := fun bs => by
    induction bs with
    | nil => exact nil
    | cons b bs ih =>
      rw [List.reverse_cons]
      exact snoc _ _ ih
  have h2 := h as.reverse
  rwa [List.reverse_reverse] at h2
inductive PTm where
  | hole
  | var (n : Nat)
  | lam (b : PTm)
  | app (f a : PTm)
deriving DecidableEq
def PTm.enc : PTm → List V
  | .hole => [V.str "?"]
  | .var n => [V.int n]
  | .lam b => V.str "lam" :: b.enc
  | .app f a => V.str "app" :: (f.enc ++ a.enc)
def pencs (ps : List PTm) : List V := (ps.map PTm.enc).flatten
theorem pencs_cons (p : PTm) (ps : List PTm) : pencs (p :: ps) = p.enc ++ pencs ps := by simp [pencs]
theorem pencs_app (ps qs : List PTm) : pencs (ps ++ qs) = pencs ps ++ pencs qs := by simp [pencs]
theorem pencs_one (p : PTm) : pencs [p] = p.enc := by simp [pencs]
theorem PTm.enc_ne (p : PTm) : p.enc ≠ [] := by cases p <;> simp [PTm.enc]
theorem PTm.pos (p : PTm) : 1 ≤ p.enc.length := List.length_pos_iff.mpr p.enc_ne
theorem pencs_pos : ∀ ps : List PTm, ps.length ≤ (pencs ps).length
  | [] => Nat.zero_le _
  | p :: ps => by
    have h := pencs_pos ps
    have h2 := p.pos
    rw [pencs_cons, List.length_cons, List.length_append]
    omega
theorem pencs_nil {ps : List PTm} (h : pencs ps = []) : ps = [] := by
  have := pencs_pos ps
  rw [h] at this
  simpa using this
/-- the nodes of partial terms -/
def NodeP (x : V) : Prop := (∃ n : Nat, x = .int n) ∨ x = .str "?" ∨ x = .str "lam" ∨ x = .str "app"
theorem PTm.nodes : ∀ (p : PTm), ∀ x ∈ p.enc, NodeP x
  | .hole, x, h => .inr (.inl (by simpa [PTm.enc] using h))
  | .var n, x, h => .inl ⟨n, by simpa [PTm.enc] using h⟩
  | .lam b, x, h => by
    rcases List.mem_cons.mp h with h | h
    · exact .inr (.inr (.inl h))
    · exact PTm.nodes b x h
  | .app f a, x, h => by
    rcases List.mem_cons.mp h with h | h
    · exact .inr (.inr (.inr h))
    · rcases List.mem_append.mp h with h | h
      · exact PTm.nodes f x h
      · exact PTm.nodes a x h
theorem NodeP.nds {xs : List V} (h : ∀ x ∈ xs, NodeP x) : NdS xs := fun x hx => by
  rcases h x hx with ⟨n, rfl⟩ | rfl | rfl | rfl
  · exact .inl ⟨_, rfl⟩
  · exact .inr ⟨_, rfl, by decide +kernel⟩
  · exact .inr ⟨_, rfl, by decide +kernel⟩
  · exact .inr ⟨_, rfl, by decide +kernel⟩
theorem PTm.nds (p : PTm) : NdS p.enc := NodeP.nds p.nodes
theorem PTm.flat (p : PTm) : Flat p.enc := p.nds.flat
/-! ### a forest, node after node -/
/-- what the first node of a forest tells of it -/
inductive Hd1 : V → List PTm → List PTm → Prop
  | hole (ps) : Hd1 (.str "?") (.hole :: ps) ps
  | var (n : Nat) (ps) : Hd1 (.int n) (.var n :: ps) ps
  | lam (b) (ps) : Hd1 (.str "lam") (.lam b :: ps) (b :: ps)
  | app (f a) (ps) : Hd1 (.str "app") (.app f a :: ps) (f :: a :: ps)
theorem hd1_of (p : PTm) (ps : List PTm) : ∃ x qs, Hd1 x (p :: ps) qs ∧ pencs (p :: ps) = x :: pencs qs := by
  cases p with
  | hole => exact ⟨_, _, .hole ps, by simp [pencs, PTm.enc]⟩
  | var n => exact ⟨_, _, .var n ps, by simp [pencs, PTm.enc]⟩
  | lam b => exact ⟨_, _, .lam b ps, by simp [pencs, PTm.enc]⟩
  | app f a => exact ⟨_, _, .app f a ps, by simp [pencs, PTm.enc]⟩
/-- a forest begins at an index -/
def At (xs : List V) (i : Nat) (ps : List PTm) (post : List V) : Prop := xs.drop i = pencs ps ++ post
theorem At.hd {xs post : List V} {i : Nat} {p : PTm} {ps : List PTm} (h : At xs i (p :: ps) post) : ∃ x qs, Hd1 x (p :: ps) qs ∧ xs[i]? = some x ∧ At xs (i + 1) qs post := by
  obtain ⟨x, qs, h1, h2⟩ := hd1_of p ps
  unfold At at h
  rw [h2] at h
  have g := drop_get (i := i) (v := x) (r := pencs qs ++ post) (by rw [h]; rfl)
  exact ⟨x, qs, h1, g.1, g.2⟩
theorem At.skip {xs post : List V} {i : Nat} {p : PTm} {ps : List PTm} (h : At xs i (p :: ps) post) : At xs (i + p.enc.length) ps post := by
  unfold At at h ⊢
  rw [← List.drop_drop, h, pencs_cons, List.append_assoc, List.drop_left]
theorem At.len {xs post : List V} {i : Nat} {ps : List PTm} (h : At xs i ps post) : xs.length - i = (pencs ps).length + post.length := by
  have := congrArg List.length h
  simpa using this
/-! ### beginnings of partial terms -/
def PComp (k : Nat) (xs : List V) : Prop := ∀ ws : List PTm, ws.length = k → ∃ p : PTm, xs ++ pencs ws = p.enc
theorem PComp.start : PComp 1 [] := fun ws h => by
  match ws, h with
  | [w], _ => exact ⟨w, by simp [pencs]⟩
theorem PComp.done {xs : List V} (h : PComp 0 xs) : ∃ p : PTm, xs = p.enc := by
  obtain ⟨p, hp⟩ := h [] rfl
  exact ⟨p, by simpa [pencs] using hp⟩
theorem PComp.leaf {k : Nat} {xs : List V} (h : PComp (k + 1) xs) (p : PTm) : PComp k (xs ++ p.enc) := fun ws hw => by
  obtain ⟨q, hq⟩ := h (p :: ws) (by simp [hw])
  exact ⟨q, by rw [← hq, pencs_cons, List.append_assoc]⟩
theorem PComp.lam {k : Nat} {xs : List V} (h : PComp (k + 1) xs) : PComp (k + 1) (xs ++ [V.str "lam"]) := fun ws hw => by
  match ws, hw with
  | w :: ws, hw =>
    obtain ⟨q, hq⟩ := h (.lam w :: ws) (by simpa using hw)
    exact ⟨q, by rw [← hq]; simp [pencs, PTm.enc]⟩
theorem PComp.app {k : Nat} {xs : List V} (h : PComp (k + 1) xs) : PComp (k + 2) (xs ++ [V.str "app"]) := fun ws hw => by
  match ws, hw with
  | w :: v :: ws, hw =>
    obtain ⟨q, hq⟩ := h (.app w v :: ws) (by simpa using hw)
    exact ⟨q, by rw [← hq]; simp [pencs, PTm.enc]⟩
theorem PComp.node {x : V} {ps qs : List PTm} {xs : List V} (h : PComp ps.length xs) (d : Hd1 x ps qs) : PComp qs.length (xs ++ [x]) := by
  cases d with
  | hole => exact PComp.leaf h .hole
  | var n => exact PComp.leaf h (.var n)
  | lam b => exact PComp.lam h
  | app f a => exact PComp.app h
/-- the forest at an index of a partial term, and what stands before it -/
theorem PTm.cut (p : PTm) : ∀ i, i ≤ p.enc.length → ∃ ps, At p.enc i ps [] ∧ PComp ps.length (p.enc.take i)
  | 0, _ => ⟨[p], by simp [At, pencs], by simpa using PComp.start⟩
  | i + 1, h => by
    obtain ⟨ps, h1, h2⟩ := PTm.cut p i (by omega)
    cases ps with
    | nil =>
      have := h1.len
      simp [pencs] at this
      omega
    | cons q ps =>
      obtain ⟨x, qs, d, hx, h3⟩ := h1.hd
      refine ⟨qs, h3, ?_⟩
      rw [List.take_add_one, hx]
      exact h2.node d
/-! ### what is below -/
def PTm.le : PTm → PTm → Bool
  | .hole, _ => true
  | .var n, .var m => decide (n = m)
  | .lam b, .lam c => b.le c
  | .app f a, .app g x => f.le g && a.le x
  | _, _ => false
def belows : List PTm → List PTm → Bool
  | [], [] => true
  | p :: ps, q :: qs => p.le q && belows ps qs
  | _, _ => false
theorem belows_hole (q : PTm) (ps qs : List PTm) : belows (.hole :: ps) (q :: qs) = belows ps qs := by simp [belows, PTm.le]
/-- the first nodes of two forests -/
theorem belows_hd {x y : V} {p q : PTm} {ps qs ps' qs' : List PTm} (h1 : Hd1 x (p :: ps) ps') (h2 : Hd1 y (q :: qs) qs') (hl : ps.length = qs.length) (hx : x ≠ .str "?") :
    (x ≠ y → belows (p :: ps) (q :: qs) = false) ∧ (x = y → belows (p :: ps) (q :: qs) = belows ps' qs' ∧ ps'.length = qs'.length) := by
  cases h1 with
  | hole => exact absurd rfl hx
  | var n =>
    cases h2 with
    | hole => exact ⟨fun _ => by simp [belows, PTm.le], fun z => nomatch z⟩
    | var m =>
      refine ⟨fun h => ?_, fun h => ?_⟩
      · have : ¬ n = m := fun z => h (by rw [z])
        simp [belows, PTm.le, this]
      · have : n = m := by
          have := V.int.inj h
          omega
        exact ⟨by simp [belows, PTm.le, this], hl⟩
    | lam b => exact ⟨fun _ => by simp [belows, PTm.le], fun z => nomatch z⟩
    | app f a => exact ⟨fun _ => by simp [belows, PTm.le], fun z => nomatch z⟩
  | lam b =>
    cases h2 with
    | hole => exact ⟨fun _ => by simp [belows, PTm.le], fun z => absurd z (by decide +kernel)⟩
    | var m => exact ⟨fun _ => by simp [belows, PTm.le], fun z => nomatch z⟩
    | lam c => exact ⟨fun h => absurd rfl h, fun _ => ⟨by simp [belows, PTm.le], by simp [hl]⟩⟩
    | app f a => exact ⟨fun _ => by simp [belows, PTm.le], fun z => absurd z (by decide +kernel)⟩
  | app f a =>
    cases h2 with
    | hole => exact ⟨fun _ => by simp [belows, PTm.le], fun z => absurd z (by decide +kernel)⟩
    | var m => exact ⟨fun _ => by simp [belows, PTm.le], fun z => nomatch z⟩
    | lam c => exact ⟨fun _ => by simp [belows, PTm.le], fun z => absurd z (by decide +kernel)⟩
    | app g b => exact ⟨fun h => absurd rfl h, fun _ => ⟨by simp [belows, PTm.le, Bool.and_assoc], by simp [hl]⟩⟩
/-! ### what is known of a term -/
def PTm.lamN : Nat → PTm → PTm
  | 0, p => p
  | n + 1, p => .lam (PTm.lamN n p)
def PTm.apps (p : PTm) (ps : List PTm) : PTm := ps.foldl PTm.app p
def Tm.isL : Tm → Bool
  | .lam _ => true
  | _ => false
def Tm.kn : Tm → PTm
  | .var n => .var n
  | .lam b => match b.kn with
    | .hole => .hole
    | k => .lam k
  | .app f a => if f.isL = true then .hole else match f.kn with
    | .hole => .hole
    | k => .app k a.kn
theorem kn_lam {b : Tm} : (Tm.lam b).kn = if b.kn = .hole then .hole else .lam b.kn := by
  simp only [Tm.kn]
  split
  · rename_i h
    rw [h, if_pos rfl]
  · rename_i h
    rw [if_neg h]
theorem kn_app {f a : Tm} (h : f.isL = false) : (Tm.app f a).kn = if f.kn = .hole then .hole else .app f.kn a.kn := by
  simp only [Tm.kn]
  rw [if_neg (by rw [h]; simp)]
  split
  · rename_i h
    rw [h, if_pos rfl]
  · rename_i h
    rw [if_neg h]
theorem kn_lamN (t : Tm) : ∀ n, (Tm.lamN n t).kn = if t.kn = .hole then .hole else PTm.lamN n t.kn
  | 0 => by
    show t.kn = _
    split
    · assumption
    · rfl
  | n + 1 => by
    show (Tm.lam (Tm.lamN n t)).kn = _
    rw [kn_lam, kn_lamN t n]
    by_cases h : t.kn = .hole
    · simp [h]
    · rw [if_neg h, if_neg h]
      have h2 : PTm.lamN n t.kn ≠ .hole := by
        cases n with
        | zero => exact h
        | succ n => exact fun z => nomatch z
      rw [if_neg h2]
      rfl
theorem apps_isL {h : Tm} {as : List Tm} {a : Tm} : (Tm.apps h (as ++ [a])).isL = false := by
  rw [Tm.apps_snoc]
  rfl
theorem papps_snoc (p : PTm) (ps : List PTm) (q : PTm) : PTm.apps p (ps ++ [q]) = .app (PTm.apps p ps) q := by simp [PTm.apps]
theorem kn_apps_var (v : Nat) (as : List Tm) : (Tm.apps (.var v) as).kn = PTm.apps (.var v) (as.map Tm.kn) ∧ PTm.apps (.var v) (as.map Tm.kn) ≠ .hole := by
  induction as using snoc_rec with
  | nil => exact ⟨rfl, fun z => nomatch z⟩
  | snoc as a ih =>
    rw [Tm.apps_snoc, List.map_append, List.map_cons, List.map_nil, papps_snoc]
    have hl : (Tm.apps (.var v) as).isL = false := by
      cases as using snoc_rec with
      | nil => rfl
      | snoc as b => exact apps_isL
    rw [kn_app hl, ih.1, if_neg ih.2]
    exact ⟨rfl, fun z => nomatch z⟩
theorem kn_apps_lam (b : Tm) (as : List Tm) (h : as ≠ []) : (Tm.apps (.lam b) as).kn = .hole := by
  induction as using snoc_rec with
  | nil => exact absurd rfl h
  | snoc as a ih =>
    rw [Tm.apps_snoc]
    by_cases he : as = []
    · subst he
      rfl
    · have hl : (Tm.apps (.lam b) as).isL = false := by
        cases as using snoc_rec with
        | nil => exact absurd rfl he
        | snoc as b => exact apps_isL
      rw [kn_app hl, ih he, if_pos rfl]
section
variable {t h : Tm} {n : Nat} {as : List Tm}
theorem SpineOf.kn_var (s : SpineOf t n h as) {v : Nat} (e : h = .var v) : t.kn = PTm.lamN n (PTm.apps (.var v) (as.map Tm.kn)) := by
  subst e
  rw [s.1, kn_lamN, (kn_apps_var v as).1, if_neg (kn_apps_var v as).2]
theorem SpineOf.kn_lam (s : SpineOf t n h as) {b : Tm} (e : h = .lam b) (ha : as ≠ []) : t.kn = .hole := by
  subst e
  rw [s.1, kn_lamN, kn_apps_lam b as ha, if_pos rfl]
end
theorem plamN_enc (p : PTm) : ∀ n, (PTm.lamN n p).enc = List.replicate n (V.str "lam") ++ p.enc
  | 0 => rfl
  | n + 1 => by
    show V.str "lam" :: (PTm.lamN n p).enc = _
    rw [plamN_enc p n, List.replicate_succ]
    rfl
theorem papps_enc (p : PTm) (ps : List PTm) : (PTm.apps p ps).enc = List.replicate ps.length (V.str "app") ++ (p.enc ++ pencs ps) := by
  induction ps using snoc_rec with
  | nil => simp [PTm.apps, pencs]
  | snoc ps q ih =>
    rw [papps_snoc, PTm.enc, ih, pencs_app, pencs_one, List.length_append, List.length_singleton, List.replicate_succ]
    simp
theorem kn_len : ∀ t : Tm, t.kn.enc.length ≤ t.enc.length
  | .var n => Nat.le_refl _
  | .lam b => by
    have := kn_len b
    rw [kn_lam]
    split
    · simp [PTm.enc, Tm.enc]
    · simp only [PTm.enc, Tm.enc, List.length_cons]
      omega
  | .app f a => by
    have h1 := kn_len f
    have h2 := kn_len a
    cases hl : f.isL with
    | true =>
      simp only [Tm.kn]
      rw [if_pos hl]
      simp [PTm.enc, Tm.enc]
    | false =>
      rw [kn_app hl]
      split
      · simp [PTm.enc, Tm.enc]
      · simp only [PTm.enc, Tm.enc, List.length_cons, List.length_append]
        omega
theorem kn_ok : ∀ t : Tm, t.vars 1000000 → t.kn.enc.all okV = true
  | .var n, h => by
    have : n ≤ 1000000 := h
    simp only [Tm.kn, PTm.enc, List.all_cons, List.all_nil, Bool.and_true]
    exact decide_eq_true (by omega)
  | .lam b, h => by
    have ih := kn_ok b h
    rw [kn_lam]
    split
    · rfl
    · simp only [PTm.enc, List.all_cons, ih, Bool.and_true]
      rfl
  | .app f a, h => by
    have h1 := kn_ok f h.1
    have h2 := kn_ok a h.2
    cases hl : f.isL with
    | true =>
      simp only [Tm.kn]
      rw [if_pos hl]
      rfl
    | false =>
      rw [kn_app hl]
      split
      · rfl
      · simp only [PTm.enc, List.all_cons, List.all_append, h1, h2, Bool.and_true]
        rfl
def Tm.toP : Tm → PTm
  | .var n => .var n
  | .lam b => .lam b.toP
  | .app f a => .app f.toP a.toP
theorem toP_enc : ∀ t : Tm, t.toP.enc = t.enc
  | .var n => rfl
  | .lam b => by simp [Tm.toP, PTm.enc, Tm.enc, toP_enc b]
  | .app f a => by simp [Tm.toP, PTm.enc, Tm.enc, toP_enc f, toP_enc a]
end Ly
set_option Elab.async false
set_option linter.all false
set_option maxRecDepth 100000
set_option maxHeartbeats 2000000
/-! Ly: the least partial term above two -/
namespace Ly
open PySem PySem.Spec PyProof.Rows L2 Evl
def PTm.join : PTm → PTm → Option PTm
  | .hole, q => some q
  | .var n, .hole => some (.var n)
  | .var n, .var m => if n = m then some (.var n) else none
  | .var _, .lam _ => none
  | .var _, .app _ _ => none
  | .lam b, .hole => some (.lam b)
  | .lam _, .var _ => none
  | .lam b, .lam c => (b.join c).map PTm.lam
  | .lam _, .app _ _ => none
  | .app f a, .hole => some (.app f a)
  | .app _ _, .var _ => none
  | .app _ _, .lam _ => none
  | .app f a, .app g x => (f.join g).bind fun h => (a.join x).map fun y => .app h y
theorem join_hole (p : PTm) : p.join .hole = some p := by cases p <;> rfl
theorem join_comm : ∀ p q : PTm, p.join q = q.join p
  | .hole, q => by rw [join_hole]; rfl
  | .var n, .hole => rfl
  | .var n, .var m => by
    simp only [PTm.join]
    by_cases h : n = m
    · subst h; rfl
    · rw [if_neg h, if_neg fun z => h z.symm]
  | .var _, .lam _ => rfl
  | .var _, .app _ _ => rfl
  | .lam b, .hole => rfl
  | .lam _, .var _ => rfl
  | .lam b, .lam c => by simp only [PTm.join, join_comm b c]
  | .lam _, .app _ _ => rfl
  | .app f a, .hole => rfl
  | .app _ _, .var _ => rfl
  | .app _ _, .lam _ => rfl
  | .app f a, .app g x => by simp only [PTm.join, join_comm f g, join_comm a x]
theorem le_refl : ∀ p : PTm, p.le p = true
  | .hole => rfl
  | .var n => by simp [PTm.le]
  | .lam b => by simp only [PTm.le, le_refl b]
  | .app f a => by simp only [PTm.le, le_refl f, le_refl a, Bool.and_true]
theorem join_le : ∀ {p q r : PTm}, p.join q = some r → p.le r = true
  | .hole, q, r, h => by simp [PTm.le]
  | .var n, .hole, r, h => by cases h; exact le_refl _
  | .var n, .var m, r, h => by
    simp only [PTm.join] at h
    split at h
    · cases h; exact le_refl _
    · cases h
  | .var _, .lam _, r, h => by cases h
  | .var _, .app _ _, r, h => by cases h
  | .lam b, .hole, r, h => by cases h; exact le_refl _
  | .lam _, .var _, r, h => by cases h
  | .lam b, .lam c, r, h => by
    simp only [PTm.join] at h
    obtain ⟨s, h1, rfl⟩ := Option.map_eq_some_iff.mp h
    simp only [PTm.le]
    exact join_le h1
  | .lam _, .app _ _, r, h => by cases h
  | .app f a, .hole, r, h => by cases h; exact le_refl _
  | .app _ _, .var _, r, h => by cases h
  | .app _ _, .lam _, r, h => by cases h
  | .app f a, .app g x, r, h => by
    simp only [PTm.join] at h
    obtain ⟨s, h1, h2⟩ := Option.bind_eq_some_iff.mp h
    obtain ⟨y, h3, rfl⟩ := Option.map_eq_some_iff.mp h2
    simp only [PTm.le, join_le h1, join_le h3, Bool.and_true]
theorem join_le2 {p q r : PTm} (h : p.join q = some r) : q.le r = true := by
  rw [join_comm] at h
  exact join_le h
theorem join_least : ∀ {p q w : PTm}, p.le w = true → q.le w = true → ∃ r, p.join q = some r ∧ r.le w = true
  | .hole, q, w, _, h2 => ⟨q, rfl, h2⟩
  | .var n, .hole, w, h1, _ => ⟨_, rfl, h1⟩
  | .var n, .var m, w, h1, h2 => by
    cases w <;> simp only [PTm.le, Bool.false_eq_true, decide_eq_true_eq] at h1 h2
    subst h1
    subst h2
    exact ⟨.var m, if_pos rfl, decide_eq_true rfl⟩
  | .var _, .lam _, w, h1, h2 => by cases w <;> simp [PTm.le] at h1 h2
  | .var _, .app _ _, w, h1, h2 => by cases w <;> simp [PTm.le] at h1 h2
  | .lam b, .hole, w, h1, _ => ⟨_, rfl, h1⟩
  | .lam _, .var _, w, h1, h2 => by cases w <;> simp [PTm.le] at h1 h2
  | .lam b, .lam c, w, h1, h2 => by
    cases w with
    | lam d =>
      obtain ⟨r, h3, h4⟩ := join_least (p := b) (q := c) (w := d) h1 h2
      exact ⟨.lam r, by simp only [PTm.join, h3, Option.map_some], h4⟩
    | hole => simp [PTm.le] at h1
    | var m => simp [PTm.le] at h1
    | app f a => simp [PTm.le] at h1
  | .lam _, .app _ _, w, h1, h2 => by cases w <;> simp [PTm.le] at h1 h2
  | .app f a, .hole, w, h1, _ => ⟨_, rfl, h1⟩
  | .app _ _, .var _, w, h1, h2 => by cases w <;> simp [PTm.le] at h1 h2
  | .app _ _, .lam _, w, h1, h2 => by cases w <;> simp [PTm.le] at h1 h2
  | .app f a, .app g x, w, h1, h2 => by
    cases w with
    | app k y =>
      simp only [PTm.le, Bool.and_eq_true] at h1 h2
      obtain ⟨r, h3, h4⟩ := join_least h1.1 h2.1
      obtain ⟨s, h5, h6⟩ := join_least h1.2 h2.2
      exact ⟨.app r s, by simp only [PTm.join, h3, h5, Option.bind_some, Option.map_some], by simp only [PTm.le, h4, h6, Bool.and_true]⟩
    | hole => simp [PTm.le] at h1
    | var m => simp [PTm.le] at h1
    | lam b => simp [PTm.le] at h1
/-- the nodes of the least terms above the terms of two forests -/
def jn : List PTm → List PTm → Option (List V)
  | p :: ps, q :: qs => (p.join q).bind fun r => (jn ps qs).map fun xs => r.enc ++ xs
  | _, _ => some []
theorem jn_one (p q : PTm) : jn [p] [q] = (p.join q).map PTm.enc := by
  simp only [jn]
  cases p.join q <;> simp
theorem jn_holeL (q : PTm) (ps qs : List PTm) : jn (.hole :: ps) (q :: qs) = (jn ps qs).map fun xs => q.enc ++ xs := by
  simp only [jn, PTm.join, Option.bind_some]
theorem jn_holeR (p : PTm) (ps qs : List PTm) : jn (p :: ps) (.hole :: qs) = (jn ps qs).map fun xs => p.enc ++ xs := by
  simp only [jn, join_hole, Option.bind_some]
theorem jn_hd {x y : V} {p q : PTm} {ps qs ps' qs' : List PTm} (h1 : Hd1 x (p :: ps) ps') (h2 : Hd1 y (q :: qs) qs') (hl : ps.length = qs.length) (hx : x ≠ .str "?") (hy : y ≠ .str "?") :
    (x ≠ y → jn (p :: ps) (q :: qs) = none) ∧ (x = y → jn (p :: ps) (q :: qs) = (jn ps' qs').map (fun xs => x :: xs) ∧ ps'.length = qs'.length) := by
  cases h1 with
  | hole => exact absurd rfl hx
  | var n =>
    cases h2 with
    | hole => exact absurd rfl hy
    | var m =>
      refine ⟨fun h => ?_, fun h => ?_⟩
      · have : ¬ n = m := fun z => h (by rw [z])
        simp [jn, PTm.join, this]
      · have : n = m := by
          have := V.int.inj h
          omega
        exact ⟨by simp [jn, PTm.join, this, PTm.enc], hl⟩
    | lam b => exact ⟨fun _ => by simp [jn, PTm.join], fun z => nomatch z⟩
    | app f a => exact ⟨fun _ => by simp [jn, PTm.join], fun z => nomatch z⟩
  | lam b =>
    cases h2 with
    | hole => exact absurd rfl hy
    | var m => exact ⟨fun _ => by simp [jn, PTm.join], fun z => nomatch z⟩
    | lam c =>
      refine ⟨fun h => absurd rfl h, fun _ => ⟨?_, by simp [hl]⟩⟩
      simp only [jn, PTm.join]
      cases b.join c with
      | none => simp
      | some r => cases jn ps qs <;> simp [PTm.enc]
    | app f a => exact ⟨fun _ => by simp [jn, PTm.join], fun z => absurd z (by decide +kernel)⟩
  | app f a =>
    cases h2 with
    | hole => exact absurd rfl hy
    | var m => exact ⟨fun _ => by simp [jn, PTm.join], fun z => nomatch z⟩
    | lam c => exact ⟨fun _ => by simp [jn, PTm.join], fun z => absurd z (by decide +kernel)⟩
    | app g b =>
      refine ⟨fun h => absurd rfl h, fun _ => ⟨?_, by simp [hl]⟩⟩
      simp only [jn, PTm.join]
      cases f.join g with
      | none => simp
      | some r =>
        cases a.join b with
        | none => simp
        | some s => cases jn ps qs <;> simp [PTm.enc]
theorem join_len : ∀ {p q r : PTm}, p.join q = some r → r.enc.length ≤ p.enc.length + q.enc.length
  | .hole, q, r, h => by cases h; omega
  | .var n, .hole, r, h => by cases h; omega
  | .var n, .var m, r, h => by
    simp only [PTm.join] at h
    split at h
    · cases h; omega
    · cases h
  | .var _, .lam _, r, h => by cases h
  | .var _, .app _ _, r, h => by cases h
  | .lam b, .hole, r, h => by cases h; omega
  | .lam _, .var _, r, h => by cases h
  | .lam b, .lam c, r, h => by
    simp only [PTm.join] at h
    obtain ⟨s, h1, rfl⟩ := Option.map_eq_some_iff.mp h
    have := join_len h1
    simp only [PTm.enc, List.length_cons]
    omega
  | .lam _, .app _ _, r, h => by cases h
  | .app f a, .hole, r, h => by cases h; omega
  | .app _ _, .var _, r, h => by cases h
  | .app _ _, .lam _, r, h => by cases h
  | .app f a, .app g x, r, h => by
    simp only [PTm.join] at h
    obtain ⟨s, h1, h2⟩ := Option.bind_eq_some_iff.mp h
    obtain ⟨y, h3, rfl⟩ := Option.map_eq_some_iff.mp h2
    have i1 := join_len h1
    have i2 := join_len h3
    simp only [PTm.enc, List.length_cons, List.length_append]
    omega
theorem jn_len : ∀ (ps qs : List PTm) (xs : List V), jn ps qs = some xs → xs.length ≤ (pencs ps).length + (pencs qs).length
  | [], qs, xs, h => by
    have h2 : ([] : List V) = xs := Option.some.inj h
    rw [← h2]
    exact Nat.zero_le _
  | p :: ps, [], xs, h => by
    have h2 : ([] : List V) = xs := Option.some.inj h
    rw [← h2]
    exact Nat.zero_le _
  | p :: ps, q :: qs, xs, h => by
    simp only [jn] at h
    obtain ⟨r, h1, h2⟩ := Option.bind_eq_some_iff.mp h
    obtain ⟨ys, h3, rfl⟩ := Option.map_eq_some_iff.mp h2
    have i1 := jn_len ps qs ys h3
    have i2 := join_len h1
    rw [pencs_cons, pencs_cons, List.length_append, List.length_append, List.length_append]
    omega
theorem join_ok : ∀ {p q r : PTm}, p.join q = some r → p.enc.all okV = true → q.enc.all okV = true → r.enc.all okV = true
  | .hole, q, r, h, _, h2 => by cases h; exact h2
  | .var n, .hole, r, h, h1, _ => by cases h; exact h1
  | .var n, .var m, r, h, h1, _ => by
    simp only [PTm.join] at h
    split at h
    · cases h; exact h1
    · cases h
  | .var _, .lam _, r, h, _, _ => by cases h
  | .var _, .app _ _, r, h, _, _ => by cases h
  | .lam b, .hole, r, h, h1, _ => by cases h; exact h1
  | .lam _, .var _, r, h, _, _ => by cases h
  | .lam b, .lam c, r, h, h1, h2 => by
    simp only [PTm.join] at h
    obtain ⟨s, h3, rfl⟩ := Option.map_eq_some_iff.mp h
    simp only [PTm.enc, List.all_cons, Bool.and_eq_true] at h1 h2 ⊢
    exact ⟨h1.1, join_ok h3 h1.2 h2.2⟩
  | .lam _, .app _ _, r, h, _, _ => by cases h
  | .app f a, .hole, r, h, h1, _ => by cases h; exact h1
  | .app _ _, .var _, r, h, _, _ => by cases h
  | .app _ _, .lam _, r, h, _, _ => by cases h
  | .app f a, .app g x, r, h, h1, h2 => by
    simp only [PTm.join] at h
    obtain ⟨s, h3, h4⟩ := Option.bind_eq_some_iff.mp h
    obtain ⟨y, h5, rfl⟩ := Option.map_eq_some_iff.mp h4
    simp only [PTm.enc, List.all_cons, List.all_append, Bool.and_eq_true] at h1 h2 ⊢
    exact ⟨h1.1, join_ok h3 h1.2.1 h2.2.1, join_ok h5 h1.2.2 h2.2.2⟩
end Ly
set_option Elab.async false
set_option linter.all false
set_option maxRecDepth 100000
set_option maxHeartbeats 2000000
/-! Ly: roads meet: steps side by side; what is known grows -/
namespace Ly
open PySem PySem.Spec PyProof.Rows L2 Evl
theorem Tm.lif_swap2 (e c : Nat) : ∀ (u : Tm) (j d : Nat), (u.vmap (lif e) j).vmap (lif c) (j + e + d) = (u.vmap (lif c) (j + d)).vmap (lif e) j
  | .var n, j, d => by
    simp only [Tm.vmap, lif]
    congr 1
    split <;> split <;> (try split) <;> (try split) <;> omega
  | .lam b, j, d => by
    have ih := Tm.lif_swap2 e c b (j + 1) d
    simp only [Tm.vmap]
    rw [show j + e + d + 1 = j + 1 + e + d by omega, show j + d + 1 = j + 1 + d by omega, ih]
  | .app f a, j, d => by simp only [Tm.vmap, Tm.lif_swap2 e c f j d, Tm.lif_swap2 e c a j d]
theorem Tm.lif_put (u : Tm) (c d : Nat) : ∀ (b : Tm) (e : Nat), (Tm.put u e b).vmap (lif c) (e + d) = Tm.put (u.vmap (lif c) d) e (b.vmap (lif c) (e + d + 1))
  | .var n, e => by
    by_cases h1 : n < e
    · have h2 : ¬ e + d + 1 ≤ n := by omega
      have h3 : ¬ e + d ≤ n := by omega
      simp only [Tm.put, Tm.vmap, lif, if_pos h1, if_neg h2, if_neg h3]
    · by_cases h2 : n = e
      · subst h2
        have h3 : ¬ n + d + 1 ≤ n := by omega
        simp only [Tm.put, Tm.vmap, if_neg h1, if_true]
        rw [show lif c (n + d + 1) n = n by simp only [lif, if_neg h3], if_neg h1, if_pos rfl]
        have := Tm.lif_swap2 n c u 0 d
        rw [show 0 + n + d = n + d by omega, show 0 + d = d by omega] at this
        exact this
      · simp only [Tm.put, if_neg h1, if_neg h2, Tm.vmap, lif]
        by_cases h3 : e + d ≤ n - 1
        · have h4 : e + d + 1 ≤ n := by omega
          have h5 : ¬ n + c < e := by omega
          have h6 : ¬ n + c = e := by omega
          rw [if_pos h3, if_pos h4, if_neg h5, if_neg h6]
          congr 1
          omega
        · have h4 : ¬ e + d + 1 ≤ n := by omega
          rw [if_neg h3, if_neg h4, if_neg h1, if_neg h2]
  | .lam b, e => by
    have ih := Tm.lif_put u c d b (e + 1)
    simp only [Tm.put, Tm.vmap]
    rw [show e + d + 1 = e + 1 + d by omega, ih]
  | .app f a, e => by simp only [Tm.put, Tm.vmap, Tm.lif_put u c d f e, Tm.lif_put u c d a e]
/-- steps side by side -/
inductive Par : Tm → Tm → Prop
  | var (n : Nat) : Par (.var n) (.var n)
  | lam {b b' : Tm} (h : Par b b') : Par (.lam b) (.lam b')
  | app {f f' a a' : Tm} (h : Par f f') (k : Par a a') : Par (.app f a) (.app f' a')
  | beta {b b' u u' : Tm} (h : Par b b') (k : Par u u') : Par (.app (.lam b) u) (Tm.put u' 0 b')
theorem Par.refl : ∀ t : Tm, Par t t
  | .var n => .var n
  | .lam b => .lam (Par.refl b)
  | .app f a => .app (Par.refl f) (Par.refl a)
theorem Par.lift {t t' : Tm} (h : Par t t') (c : Nat) : ∀ d, Par (t.vmap (lif c) d) (t'.vmap (lif c) d) := by
  induction h with
  | var n => exact fun d => Par.refl _
  | lam _ ih => exact fun d => .lam (ih (d + 1))
  | app _ _ i1 i2 => exact fun d => .app (i1 d) (i2 d)
  | @beta b b' u u' _ _ i1 i2 =>
    intro d
    have e := Tm.lif_put u' c d b' 0
    rw [show 0 + d = d by omega] at e
    rw [e]
    exact .beta (i1 (d + 1)) (i2 d)
theorem Par.put {t t' u u' : Tm} (h : Par t t') (k : Par u u') : ∀ d, Par (Tm.put u d t) (Tm.put u' d t') := by
  induction h with
  | var n =>
    intro d
    simp only [Tm.put]
    split
    · exact .var _
    · split
      · exact k.lift d 0
      · exact .var _
  | lam _ ih => exact fun d => .lam (ih (d + 1))
  | app _ _ i1 i2 => exact fun d => .app (i1 d) (i2 d)
  | @beta b b' v v' _ _ i1 i2 =>
    intro d
    have e := Tm.put_put2 v' u' d b' 0
    rw [show 0 + d = d by omega] at e
    rw [e]
    exact .beta (i1 (d + 1)) (i2 d)
def Tm.dev : Tm → Tm
  | .var n => .var n
  | .lam b => .lam b.dev
  | .app (.lam b) a => Tm.put a.dev 0 b.dev
  | .app f a => .app f.dev a.dev
theorem Par.inv_lam {b t : Tm} (h : Par (.lam b) t) : ∃ b', t = .lam b' ∧ Par b b' := by
  cases h with
  | lam h => exact ⟨_, rfl, h⟩
theorem Par.tri {t t' : Tm} (h : Par t t') : Par t' t.dev := by
  induction h with
  | var n => exact .var n
  | lam _ ih => exact .lam ih
  | @app f f' a a' h _ i1 i2 =>
    cases f with
    | var n => exact .app i1 i2
    | app g x => exact .app i1 i2
    | lam b =>
      obtain ⟨b', rfl, _⟩ := h.inv_lam
      obtain ⟨c, hc, h2⟩ := i1.inv_lam
      have h3 : b.dev = c := Tm.lam.inj hc
      rw [← h3] at h2
      exact .beta h2 i2
  | beta _ _ i1 i2 => exact i1.put i2 0
inductive Star (t : Tm) : Tm → Prop
  | refl : Star t t
  | tail {a b : Tm} (h : Star t a) (p : Par a b) : Star t b
theorem Star.trans {t a b : Tm} (h : Star t a) (k : Star a b) : Star t b := by
  induction k with
  | refl => exact h
  | tail _ p ih => exact .tail ih p
theorem strip {t a b : Tm} (p : Par t a) (h : Star t b) : ∃ c, Star a c ∧ Par b c := by
  induction h with
  | refl => exact ⟨a, .refl, p⟩
  | @tail x y _ q ih =>
    obtain ⟨c, h1, h2⟩ := ih
    exact ⟨x.dev, .tail h1 h2.tri, q.tri⟩
theorem meets {t a b : Tm} (h : Star t a) (k : Star t b) : ∃ c, Star a c ∧ Star b c := by
  induction h with
  | refl => exact ⟨b, k, .refl⟩
  | tail _ p ih =>
    obtain ⟨c, h1, h2⟩ := ih
    obtain ⟨d, h3, h4⟩ := strip p h1
    exact ⟨d, h3, .tail h2 h4⟩
theorem par_rep {x w : Tm} (h : Par w x) : ∀ (t : Tm) (p : List Nat) {i : Nat}, t.sub p = some (i, w) → Par t (Tm.rep x t p)
  | t, [], i, e => by
    rw [Tm.sub_nil] at e
    cases e
    rw [Tm.rep_nil]
    exact h
  | .lam b, c :: p, i, e => by
    by_cases hc : c = 98
    · subst hc
      simp only [Tm.sub, if_pos] at e
      obtain ⟨⟨j, u'⟩, e1, e2⟩ := Option.map_eq_some_iff.mp e
      cases e2
      simp only [Tm.rep, if_pos]
      exact .lam (par_rep h b p e1)
    · simp [Tm.sub, hc] at e
  | .app f a, c :: p, i, e => by
    by_cases hc : c = 102
    · subst hc
      simp only [Tm.sub, if_pos] at e
      obtain ⟨⟨j, u'⟩, e1, e2⟩ := Option.map_eq_some_iff.mp e
      cases e2
      simp only [Tm.rep, if_pos]
      exact .app (par_rep h f p e1) (Par.refl a)
    · by_cases hc2 : c = 97
      · subst hc2
        simp only [Tm.sub, if_pos] at e
        obtain ⟨⟨j, u'⟩, e1, e2⟩ := Option.map_eq_some_iff.mp e
        cases e2
        have n1 : ¬ (97 = 102) := by decide
        simp only [Tm.rep, if_neg n1, if_pos]
        exact .app (Par.refl f) (par_rep h a p e1)
      · simp [Tm.sub, hc, hc2] at e
  | .var _, c :: p, i, e => by simp [Tm.sub] at e
theorem par_step {t : Tm} {p : List Nat} {i : Nat} {b u : Tm} (h : t.Red p i b u) : Par t (t.step p) := by
  rw [Tm.step_red h]
  exact par_rep (.beta (Par.refl b) (Par.refl u)) t p h
theorem le_hole {q : PTm} {p : PTm} (h : p.le q = true) (n : p ≠ .hole) : q ≠ .hole := by
  cases p with
  | hole => exact absurd rfl n
  | var n => cases q <;> simp [PTm.le] at h ⊢
  | lam b => cases q <;> simp [PTm.le] at h ⊢
  | app f a => cases q <;> simp [PTm.le] at h ⊢
theorem kn_isL {f : Tm} (h : f.isL = true) : f.kn = .hole ∨ ∃ k, f.kn = .lam k := by
  cases f with
  | var n => cases h
  | app f a => cases h
  | lam b =>
    rw [kn_lam]
    split
    · exact .inl rfl
    · exact .inr ⟨_, rfl⟩
theorem kn_notL {f : Tm} (h : f.isL = false) : ∀ k, f.kn ≠ .lam k := by
  cases f with
  | var n => exact fun k z => nomatch z
  | lam b => cases h
  | app g a =>
    intro k
    cases hg : g.isL with
    | true =>
      simp only [Tm.kn]
      rw [if_pos hg]
      exact fun z => nomatch z
    | false =>
      rw [kn_app hg]
      split
      · exact fun z => nomatch z
      · exact fun z => nomatch z
theorem kn_par {t t' : Tm} (h : Par t t') : t.kn.le t'.kn = true := by
  induction h with
  | var n => exact le_refl _
  | @lam b b' _ ih =>
    rw [kn_lam]
    split
    · rfl
    · rename_i hn
      rw [kn_lam, if_neg (le_hole ih hn)]
      exact ih
  | @app f f' a a' _ _ i1 i2 =>
    cases hl : f.isL with
    | true =>
      simp only [Tm.kn]
      rw [if_pos hl]
      rfl
    | false =>
      rw [kn_app hl]
      split
      · rfl
      · rename_i hn
        have hl2 : f'.isL = false := by
          cases hf : f'.isL with
          | false => rfl
          | true =>
            rcases kn_isL hf with h | ⟨k, h⟩
            · exact absurd h (le_hole i1 hn)
            · rw [h] at i1
              have := kn_notL hl
              cases hk : f.kn with
              | hole => exact absurd hk hn
              | var n => rw [hk] at i1; simp [PTm.le] at i1
              | lam k2 => exact absurd hk (this k2)
              | app g x => rw [hk] at i1; simp [PTm.le] at i1
        rw [kn_app hl2, if_neg (le_hole i1 hn)]
        simp only [PTm.le, i1, i2, Bool.and_true]
  | beta _ _ _ _ =>
    simp only [Tm.kn, Tm.isL, if_true]
    rfl
theorem le_trans : ∀ {p q r : PTm}, p.le q = true → q.le r = true → p.le r = true
  | .hole, _, _, _, _ => rfl
  | .var n, q, r, h, k => by
    cases q <;> simp only [PTm.le, Bool.false_eq_true, decide_eq_true_eq] at h
    subst h
    exact k
  | .lam b, q, r, h, k => by
    cases q with
    | lam c =>
      cases r with
      | lam d => exact le_trans (p := b) (q := c) (r := d) h k
      | hole => simp [PTm.le] at k
      | var m => simp [PTm.le] at k
      | app f a => simp [PTm.le] at k
    | hole => simp [PTm.le] at h
    | var m => simp [PTm.le] at h
    | app f a => simp [PTm.le] at h
  | .app f a, q, r, h, k => by
    cases q with
    | app g x =>
      cases r with
      | app o y =>
        simp only [PTm.le, Bool.and_eq_true] at h k ⊢
        exact ⟨le_trans h.1 k.1, le_trans h.2 k.2⟩
      | hole => simp [PTm.le] at k
      | var m => simp [PTm.le] at k
      | lam b => simp [PTm.le] at k
    | hole => simp [PTm.le] at h
    | var m => simp [PTm.le] at h
    | lam b => simp [PTm.le] at h
theorem kn_star {t t' : Tm} (h : Star t t') : t.kn.le t'.kn = true := by
  induction h with
  | refl => exact le_refl _
  | tail _ p ih => exact le_trans ih (kn_par p)
/-- what is known of two ends has a least part above both -/
theorem kn_join {t a b : Tm} (h : Star t a) (k : Star t b) : ∃ r, a.kn.join b.kn = some r := by
  obtain ⟨c, h1, h2⟩ := meets h k
  obtain ⟨r, hr, _⟩ := join_least (kn_star h1) (kn_star h2)
  exact ⟨r, hr⟩
end Ly
set_option Elab.async false
set_option linter.all false
set_option maxRecDepth 100000
set_option maxHeartbeats 2000000
/-! Ly: the shapes of heads -/
namespace Ly
open PySem PySem.Spec PyProof.Rows L2 Evl
def PTm.hdv : PTm → Option (Nat × Nat)
  | .var v => some (v, 0)
  | .app f _ => f.hdv.map fun x => (x.1, x.2 + 1)
  | _ => none
def PTm.shp : PTm → Option (Nat × Nat × Nat)
  | .lam b => b.shp.map fun x => (x.1 + 1, x.2)
  | .var v => some (0, v, 0)
  | .app f _ => f.hdv.map fun x => (0, x.1, x.2 + 1)
  | .hole => none
theorem hdv_le : ∀ {p q : PTm} {x : Nat × Nat}, p.le q = true → p.hdv = some x → q.hdv = some x
  | .hole, q, x, _, h => by cases h
  | .var n, q, x, hl, h => by
    cases q <;> simp only [PTm.le, Bool.false_eq_true, decide_eq_true_eq] at hl
    subst hl
    exact h
  | .lam b, q, x, _, h => by cases h
  | .app f a, q, x, hl, h => by
    cases q with
    | app g y =>
      simp only [PTm.le, Bool.and_eq_true] at hl
      simp only [PTm.hdv] at h ⊢
      obtain ⟨z, h1, h2⟩ := Option.map_eq_some_iff.mp h
      rw [hdv_le hl.1 h1]
      exact congrArg some h2
    | hole => simp [PTm.le] at hl
    | var m => simp [PTm.le] at hl
    | lam b => simp [PTm.le] at hl
theorem shp_le : ∀ {p q : PTm} {x : Nat × Nat × Nat}, p.le q = true → p.shp = some x → q.shp = some x
  | .hole, q, x, _, h => by cases h
  | .var n, q, x, hl, h => by
    cases q <;> simp only [PTm.le, Bool.false_eq_true, decide_eq_true_eq] at hl
    subst hl
    exact h
  | .lam b, q, x, hl, h => by
    cases q with
    | lam c =>
      simp only [PTm.shp] at h ⊢
      obtain ⟨z, h1, h2⟩ := Option.map_eq_some_iff.mp h
      rw [shp_le (p := b) (q := c) hl h1]
      exact congrArg some h2
    | hole => simp [PTm.le] at hl
    | var m => simp [PTm.le] at hl
    | app f a => simp [PTm.le] at hl
  | .app f a, q, x, hl, h => by
    cases q with
    | app g y =>
      simp only [PTm.le, Bool.and_eq_true] at hl
      simp only [PTm.shp] at h ⊢
      obtain ⟨z, h1, h2⟩ := Option.map_eq_some_iff.mp h
      rw [hdv_le hl.1 h1]
      exact congrArg some h2
    | hole => simp [PTm.le] at hl
    | var m => simp [PTm.le] at hl
    | lam b => simp [PTm.le] at hl
theorem hdv_apps (v : Nat) (ps : List PTm) : (PTm.apps (.var v) ps).hdv = some (v, ps.length) := by
  induction ps using snoc_rec with
  | nil => rfl
  | snoc ps q ih =>
    rw [papps_snoc, PTm.hdv, ih, List.length_append, List.length_singleton]
    rfl
theorem shp_apps (v : Nat) (ps : List PTm) : (PTm.apps (.var v) ps).shp = some (0, v, ps.length) := by
  cases ps using snoc_rec with
  | nil => rfl
  | snoc ps q =>
    rw [papps_snoc, PTm.shp, hdv_apps, List.length_append, List.length_singleton]
    rfl
theorem shp_lamN (p : PTm) {x : Nat × Nat × Nat} (h : p.shp = some x) : ∀ n, (PTm.lamN n p).shp = some (n + x.1, x.2)
  | 0 => by
    rw [Nat.zero_add]
    exact h
  | n + 1 => by
    show (PTm.lam (PTm.lamN n p)).shp = _
    rw [PTm.shp, shp_lamN p h n]
    simp only [Option.map_some, Option.some.injEq, Prod.mk.injEq, and_true]
    omega
section
variable {t h : Tm} {n : Nat} {as : List Tm}
theorem SpineOf.shp_var (s : SpineOf t n h as) {v : Nat} (e : h = .var v) : t.kn.shp = some (n, v, as.length) := by
  rw [s.kn_var e, shp_lamN _ (shp_apps v _), List.length_map, Nat.add_zero]
theorem SpineOf.shp_lam (s : SpineOf t n h as) {b : Tm} (e : h = .lam b) : t.kn.shp = none := by
  have ha : as ≠ [] := fun z => s.2.2 z b e
  rw [s.kn_lam e ha]
  rfl
end
/-- all shapes that steps lead to are equal -/
theorem shp_one (t : Tm) : ∃ x0 : Nat × Nat × Nat, ∀ u x, Star t u → u.kn.shp = some x → x = x0 := by
  by_cases h : ∃ u x, Star t u ∧ u.kn.shp = some x
  · obtain ⟨u0, x0, h1, h2⟩ := h
    refine ⟨x0, fun u x h3 h4 => ?_⟩
    obtain ⟨c, k1, k2⟩ := meets h1 h3
    have e1 := shp_le (kn_star k1) h2
    have e2 := shp_le (kn_star k2) h4
    rw [e1] at e2
    exact (Option.some.inj e2).symm
  · exact ⟨(0, 0, 0), fun u x h3 h4 => absurd ⟨u, x, h3, h4⟩ h⟩
theorem wf_fr43 : ∀ {t : Tm} {d M : Nat}, (∀ j, t.fr d j → j < M) → t.wf (d + M)
  | .var n, d, M, h => by
    show n < d + M
    by_cases c : d ≤ n
    · have := h (n - d) (show n = d + (n - d) by omega)
      omega
    · omega
  | .lam b, d, M, h => by
    have := wf_fr43 (t := b) (d := d + 1) (M := M) h
    show b.wf (d + M + 1)
    rw [show d + M + 1 = d + 1 + M by omega]
    exact this
  | .app f a, d, M, h => ⟨wf_fr43 fun j hj => h j (.inl hj), wf_fr43 fun j hj => h j (.inr hj)⟩
theorem wf_step43 {t : Tm} {p : List Nat} {i : Nat} {b u : Tm} (h : t.Red p i b u) (hw : t.wf 8) : (t.step p).wf 8 := by
  have h1 : (t.step p).wf (0 + 8) := wf_fr43 fun j hj => Tm.fr_wf (t := t) (d := 0) (M := 8) (by rw [Nat.zero_add]; exact hw) (Tm.fr_step h hj)
  rw [Nat.zero_add] at h1
  exact h1
/-- where steps at the first redex lead -/
theorem nf_star : ∀ (k : Nat) {t u : Tm} {r : List (List Nat)}, Tm.nf k t = (r, .done u) → Star t u ∧ u.reds [] = [] ∧ (t.wf 8 → u.wf 8) ∧ (fitsV t.enc = true → fitsV u.enc = true)
  | 0, t, u, r, h => by
    unfold Tm.nf at h
    cases e : t.reds [] with
    | nil =>
      rw [e] at h
      cases h
      exact ⟨.refl, e, id, id⟩
    | cons p q => rw [e] at h; cases h
  | k + 1, t, u, r, h => by
    cases e : t.reds [] with
    | nil =>
      rw [Tm.nf_none e] at h
      cases h
      exact ⟨.refl, e, id, id⟩
    | cons p q =>
      have hm : p ∈ t.reds [] := by rw [e]; exact List.mem_cons_self
      obtain ⟨i, b, v, hred⟩ := Tm.red_mem.mp hm
      cases hf : fitsV (t.step p).enc with
      | false => rw [Tm.nf_large e hf] at h; cases h
      | true =>
        rw [Tm.nf_step e hf] at h
        unfold preW at h
        have h2 : Tm.nf k (t.step p) = ((Tm.nf k (t.step p)).1, .done u) := by
          have := congrArg Prod.snd h
          simp only at this
          exact Prod.ext rfl this
        obtain ⟨h3, h4, h5, h6⟩ := nf_star k h2
        exact ⟨(Star.tail .refl (par_step hred)).trans h3, h4, fun hw => h5 (wf_step43 hred hw), fun _ => h6 hf⟩
theorem hd_red {t : Tm} {p : List Nat} (h : t.hd = some p) : ∃ i b u, t.Red p i b u := by
  obtain ⟨n, hh, as, sp⟩ := spine_ex t
  cases hh with
  | var v =>
    rw [sp.noHd rfl] at h
    cases h
  | lam b =>
    obtain ⟨a, h1, h2, _⟩ := sp.hasHd rfl
    rw [h1] at h
    cases h
    exact ⟨_, _, _, h2⟩
  | app f a => exact absurd rfl (sp.2.1 f a)
/-- a term without a head redex has a shape -/
theorem hd_shp {t : Tm} (h : t.hd = none) : ∃ x, t.kn.shp = some x := by
  obtain ⟨n, hh, as, sp⟩ := spine_ex t
  cases hh with
  | var v => exact ⟨_, sp.shp_var rfl⟩
  | lam b =>
    obtain ⟨a, h1, _, _⟩ := sp.hasHd rfl
    rw [h1] at h
    cases h
  | app f a => exact absurd rfl (sp.2.1 f a)
theorem reds_shp {t : Tm} (h : t.reds [] = []) : ∃ x, t.kn.shp = some x := by
  cases e : t.hd with
  | none => exact hd_shp e
  | some p =>
    obtain ⟨i, b, u, hr⟩ := hd_red e
    have := Tm.red_mem.mpr ⟨i, b, u, hr⟩
    rw [h] at this
    cases this
theorem hf_star : ∀ (k : Nat) {t u : Tm} {n : Nat}, Tm.hf k t = (n, .done u) → Star t u ∧ u.hd = none ∧ (t.wf 8 → u.wf 8) ∧ (fitsV t.enc = true → fitsV u.enc = true)
  | 0, t, u, n, h => by
    unfold Tm.hf at h
    cases e : t.hd with
    | none =>
      rw [e] at h
      cases h
      exact ⟨.refl, e, id, id⟩
    | some p => rw [e] at h; cases h
  | k + 1, t, u, n, h => by
    cases e : t.hd with
    | none =>
      rw [Tm.hf_none e] at h
      cases h
      exact ⟨.refl, e, id, id⟩
    | some p =>
      obtain ⟨i, b, v, hred⟩ := hd_red e
      cases hf : fitsV (t.step p).enc with
      | false => rw [Tm.hf_large e hf] at h; cases h
      | true =>
        rw [Tm.hf_step e hf] at h
        unfold addW at h
        have h2 : Tm.hf k (t.step p) = ((Tm.hf k (t.step p)).1, .done u) := by
          have := congrArg Prod.snd h
          simp only at this
          exact Prod.ext rfl this
        obtain ⟨h3, h4, h5, h6⟩ := hf_star k h2
        exact ⟨(Star.tail .refl (par_step hred)).trans h3, h4, fun hw => h5 (wf_step43 hred hw), fun _ => h6 hf⟩
end Ly
set_option Elab.async false
set_option linter.all false
set_option maxRecDepth 100000
set_option maxHeartbeats 2000000
/-! Ly: combinations, node after node; their places, parts, redexes -/
namespace Ly
open PySem PySem.Spec PyProof.Rows L2 Evl
/-- what the first node of a forest of combinations tells of it -/
inductive HdC : V → List Cb → List Cb → Prop
  | S (ps) : HdC (.str "S") (.S :: ps) ps
  | K (ps) : HdC (.str "K") (.K :: ps) ps
  | I (ps) : HdC (.str "I") (.I :: ps) ps
  | var (n : Nat) (ps) : HdC (.int n) (.var n :: ps) ps
  | app (f a) (ps) : HdC (.str "app") (.app f a :: ps) (f :: a :: ps)
theorem hdC_of (p : Cb) (ps : List Cb) : ∃ x qs, HdC x (p :: ps) qs ∧ cencs (p :: ps) = x :: cencs qs := by
  cases p with
  | S => exact ⟨_, _, .S ps, by simp [cencs, Cb.enc]⟩
  | K => exact ⟨_, _, .K ps, by simp [cencs, Cb.enc]⟩
  | I => exact ⟨_, _, .I ps, by simp [cencs, Cb.enc]⟩
  | var n => exact ⟨_, _, .var n ps, by simp [cencs, Cb.enc]⟩
  | app f a => exact ⟨_, _, .app f a ps, by simp [cencs, Cb.enc]⟩
/-- a forest begins at an index -/
def AtC (xs : List V) (i : Nat) (ps : List Cb) (post : List V) : Prop := xs.drop i = cencs ps ++ post
theorem AtC.hd {xs post : List V} {i : Nat} {p : Cb} {ps : List Cb} (h : AtC xs i (p :: ps) post) : ∃ x qs, HdC x (p :: ps) qs ∧ xs[i]? = some x ∧ AtC xs (i + 1) qs post := by
  obtain ⟨x, qs, h1, h2⟩ := hdC_of p ps
  unfold AtC at h
  rw [h2] at h
  have g := drop_get (i := i) (v := x) (r := cencs qs ++ post) (by rw [h]; rfl)
  exact ⟨x, qs, h1, g.1, g.2⟩
theorem AtC.skip {xs post : List V} {i : Nat} {p : Cb} {ps : List Cb} (h : AtC xs i (p :: ps) post) : AtC xs (i + p.enc.length) ps post := by
  unfold AtC at h ⊢
  rw [← List.drop_drop, h, cencs_cons, List.append_assoc, List.drop_left]
theorem AtC.len {xs post : List V} {i : Nat} {ps : List Cb} (h : AtC xs i ps post) : xs.length - i = (cencs ps).length + post.length := by
  have := congrArg List.length h
  simpa using this
theorem AtC.part {xs : List V} {i : Nat} {p : Cb} {ps : List Cb} {post : List V} (h : AtC xs i (p :: ps) post) : xs.drop i = p.enc ++ (cencs ps ++ post) := by
  unfold AtC at h
  rw [h, cencs_cons, List.append_assoc]
/-- how many nodes of a combination are still missing behind a node -/
def CEInv (xs : List V) (E e : Nat) (ps : List Cb) : Prop := ∃ post, xs.drop e = cencs ps ++ post ∧ e + (cencs ps).length = E
theorem CEInv.step {xs : List V} {E e : Nat} {p : Cb} {ps : List Cb} (h : CEInv xs E e (p :: ps)) : e < E ∧ ∃ v ps', xs[e]? = some v ∧ CEInv xs E (e + 1) ps' ∧
    ((v = .str "app" ∧ ps'.length = (p :: ps).length + 1) ∨ (v ≠ .str "app" ∧ NodeC v ∧ ps'.length + 1 = (p :: ps).length)) := by
  obtain ⟨post, h1, h2⟩ := h
  obtain ⟨x, qs, d, hx, h3⟩ := AtC.hd (xs := xs) (i := e) (p := p) (ps := ps) (post := post) h1
  have hl : (cencs (p :: ps)).length = (cencs qs).length + 1 := by
    cases d <;> simp [cencs, Cb.enc] <;> omega
  refine ⟨by omega, x, qs, hx, ⟨post, h3, by omega⟩, ?_⟩
  cases d with
  | S => exact .inr ⟨by decide +kernel, .inr (.inl rfl), by simp⟩
  | K => exact .inr ⟨by decide +kernel, .inr (.inr (.inl rfl)), by simp⟩
  | I => exact .inr ⟨by decide +kernel, .inr (.inr (.inr (.inl rfl))), by simp⟩
  | var n => exact .inr ⟨(fun z => nomatch z), .inl ⟨n, rfl⟩, by simp⟩
  | app f a => exact .inl ⟨rfl, by simp only [List.length_cons]⟩
/-! ### places and parts -/
def Cb.pls : Cb → List Nat → List (List Nat)
  | .app f a, p => p :: (f.pls (p ++ [102]) ++ a.pls (p ++ [97]))
  | _, p => [p]
theorem Cb.pls_len : ∀ (t : Cb) (p : List Nat), (t.pls p).length = t.enc.length
  | .S, _ => rfl
  | .K, _ => rfl
  | .I, _ => rfl
  | .var _, _ => rfl
  | .app f a, p => by simp [Cb.pls, Cb.enc, Cb.pls_len f, Cb.pls_len a]
def Cb.sub : Cb → List Nat → Option (Nat × Cb)
  | t, [] => some (0, t)
  | .app f a, c :: p => if c = 102 then (f.sub p).map (fun r => (r.1 + 1, r.2)) else if c = 97 then (a.sub p).map (fun r => (r.1 + (1 + f.enc.length), r.2)) else none
  | _, _ :: _ => none
def Cb.rep (v : Cb) : Cb → List Nat → Cb
  | _, [] => v
  | .app f a, c :: p => if c = 102 then .app (Cb.rep v f p) a else if c = 97 then .app f (Cb.rep v a p) else .app f a
  | t, _ :: _ => t
/-- what a redex turns into -/
def Cb.red : Cb → Option Cb
  | .app .I a => some a
  | .app (.app .K a) _ => some a
  | .app (.app (.app .S a) b) c => some (.app (.app a c) (.app b c))
  | _ => none
theorem Cb.sub_nil (t : Cb) : t.sub [] = some (0, t) := by cases t <;> rfl
theorem Cb.rep_nil (v t : Cb) : Cb.rep v t [] = v := by cases t <;> rfl
/-- a part stands in the combination where sub says, and its place in the list there -/
theorem Cb.sub_at : ∀ (t : Cb) (p q : List Nat) {i : Nat} {u : Cb}, t.sub p = some (i, u) → (∃ post, t.enc.drop i = u.enc ++ post) ∧ (t.pls q)[i]? = some (q ++ p)
  | t, [], q, i, u, h => by
    rw [Cb.sub_nil] at h
    cases h
    refine ⟨⟨[], by simp⟩, ?_⟩
    cases t <;> simp [Cb.pls]
  | .app f a, c :: p, q, i, u, h => by
    by_cases hc : c = 102
    · subst hc
      simp only [Cb.sub, if_pos] at h
      obtain ⟨⟨j, u'⟩, e1, e2⟩ := Option.map_eq_some_iff.mp h
      cases e2
      obtain ⟨⟨post, h1⟩, h2⟩ := Cb.sub_at f p (q ++ [102]) e1
      have lt := (List.getElem?_eq_some_iff.mp h2).1
      rw [Cb.pls_len] at lt
      refine ⟨⟨post ++ a.enc, ?_⟩, ?_⟩
      · simp only [Cb.enc, List.drop_succ_cons]
        rw [List.drop_append_of_le_length (by omega), h1, List.append_assoc]
      · simp only [Cb.pls, List.getElem?_cons_succ]
        rw [List.getElem?_append_left (by rw [Cb.pls_len]; exact lt), h2]
        simp
    · by_cases hc2 : c = 97
      · subst hc2
        simp only [Cb.sub, if_neg hc, if_pos] at h
        obtain ⟨⟨j, u'⟩, e1, e2⟩ := Option.map_eq_some_iff.mp h
        cases e2
        obtain ⟨⟨post, h1⟩, h2⟩ := Cb.sub_at a p (q ++ [97]) e1
        have ej : j + (1 + f.enc.length) = (f.enc.length + j) + 1 := by omega
        have e3 : f.enc.length + j - f.enc.length = j := by omega
        refine ⟨⟨post, ?_⟩, ?_⟩
        · simp only [Cb.enc]
          rw [ej, List.drop_succ_cons, List.drop_append, List.drop_of_length_le (by omega), e3, h1]
          rfl
        · simp only [Cb.pls]
          rw [ej, List.getElem?_cons_succ, List.getElem?_append_right (by rw [Cb.pls_len]; omega), Cb.pls_len, e3, h2]
          simp
      · simp [Cb.sub, hc, hc2] at h
  | .S, c :: p, q, i, u, h => by simp [Cb.sub] at h
  | .K, c :: p, q, i, u, h => by simp [Cb.sub] at h
  | .I, c :: p, q, i, u, h => by simp [Cb.sub] at h
  | .var _, c :: p, q, i, u, h => by simp [Cb.sub] at h
/-- each node has its part -/
theorem Cb.part_at : ∀ (t : Cb) (q : List Nat) {i : Nat}, i < t.enc.length → ∃ p u post, (t.pls q)[i]? = some (q ++ p) ∧ t.sub p = some (i, u) ∧ t.enc.drop i = u.enc ++ post
  | t, q, 0, _ => ⟨[], t, [], by cases t <;> simp [Cb.pls], Cb.sub_nil t, by simp⟩
  | .app f a, q, i + 1, h => by
    simp only [Cb.enc, List.length_cons, List.length_append] at h
    by_cases hf : i < f.enc.length
    · obtain ⟨p, u, post, _, h2, _⟩ := Cb.part_at f (q ++ [102]) hf
      have hs : (Cb.app f a).sub (102 :: p) = some (i + 1, u) := by simp [Cb.sub, h2]
      obtain ⟨⟨post2, h3⟩, h4⟩ := Cb.sub_at _ _ q hs
      exact ⟨_, u, post2, h4, hs, h3⟩
    · obtain ⟨p, u, post, _, h2, _⟩ := Cb.part_at a (q ++ [97]) (i := i - f.enc.length) (by omega)
      have hs : (Cb.app f a).sub (97 :: p) = some (i + 1, u) := by
        simp only [Cb.sub]
        rw [if_neg (by decide), if_pos trivial, h2]
        simp only [Option.map_some, Option.some.injEq, Prod.mk.injEq, and_true]
        omega
      obtain ⟨⟨post2, h3⟩, h4⟩ := Cb.sub_at _ _ q hs
      exact ⟨_, u, post2, h4, hs, h3⟩
  | .S, q, i + 1, h => by simp [Cb.enc] at h
  | .K, q, i + 1, h => by simp [Cb.enc] at h
  | .I, q, i + 1, h => by simp [Cb.enc] at h
  | .var _, q, i + 1, h => by simp [Cb.enc] at h
end Ly
set_option Elab.async false
set_option linter.all false
set_option maxRecDepth 100000
set_option maxHeartbeats 2000000
/-! Ly: combinations: spines, redexes by index, what a step leaves -/
namespace Ly
open PySem PySem.Spec PyProof.Rows L2 Evl
/-- where sub leads there fits a new part -/
theorem Cb.rep_enc (v : Cb) : ∀ (t : Cb) (p : List Nat) {i : Nat} {u : Cb}, t.sub p = some (i, u) → (Cb.rep v t p).enc = t.enc.take i ++ v.enc ++ t.enc.drop (i + u.enc.length)
  | t, [], i, u, h => by
    rw [Cb.sub_nil] at h
    cases h
    rw [Cb.rep_nil]
    simp
  | .app f a, c :: p, i, u, h => by
    by_cases hc : c = 102
    · subst hc
      simp only [Cb.sub, if_pos] at h
      obtain ⟨⟨j, u'⟩, e1, e2⟩ := Option.map_eq_some_iff.mp h
      cases e2
      obtain ⟨⟨post, h1⟩, h2⟩ := Cb.sub_at f p [] e1
      have lt := (List.getElem?_eq_some_iff.mp h2).1
      rw [Cb.pls_len] at lt
      have hl := congrArg List.length h1
      rw [List.length_drop, List.length_append] at hl
      have e3 : j + 1 + u'.enc.length = (j + u'.enc.length) + 1 := by omega
      simp only [Cb.rep, if_pos, Cb.enc]
      rw [Cb.rep_enc v f p e1, e3, List.take_succ_cons, List.drop_succ_cons, List.take_append_of_le_length (by omega), List.drop_append_of_le_length (by omega)]
      simp
    · by_cases hc2 : c = 97
      · subst hc2
        simp only [Cb.sub, if_neg hc, if_pos] at h
        obtain ⟨⟨j, u'⟩, e1, e2⟩ := Option.map_eq_some_iff.mp h
        cases e2
        have e3 : j + (1 + f.enc.length) = (f.enc.length + j) + 1 := by omega
        have e4 : (f.enc.length + j) + 1 + u'.enc.length = (f.enc.length + (j + u'.enc.length)) + 1 := by omega
        simp only [Cb.rep, if_neg hc, if_pos, Cb.enc]
        rw [Cb.rep_enc v a p e1, e3, e4, List.take_succ_cons, List.drop_succ_cons, List.take_length_add_append, List.drop_length_add_append]
        simp
      · simp [Cb.sub, hc, hc2] at h
  | .S, c :: p, i, u, h => by simp [Cb.sub] at h
  | .K, c :: p, i, u, h => by simp [Cb.sub] at h
  | .I, c :: p, i, u, h => by simp [Cb.sub] at h
  | .var _, c :: p, i, u, h => by simp [Cb.sub] at h
theorem Cb.sub_lt {t u : Cb} {p : List Nat} {i : Nat} (h : t.sub p = some (i, u)) : i + u.enc.length ≤ t.enc.length := by
  obtain ⟨⟨post, h1⟩, h2⟩ := Cb.sub_at t p [] h
  have lt := (List.getElem?_eq_some_iff.mp h2).1
  rw [Cb.pls_len] at lt
  have hl := congrArg List.length h1
  rw [List.length_drop, List.length_append] at hl
  omega
/-! ### spines -/
inductive Leaf : Cb → V → Prop
  | S : Leaf .S (.str "S")
  | K : Leaf .K (.str "K")
  | I : Leaf .I (.str "I")
  | var (n : Nat) : Leaf (.var n) (.int n)
theorem Leaf.enc {c : Cb} {x : V} (h : Leaf c x) : c.enc = [x] := by cases h <;> rfl
theorem Leaf.ne {c : Cb} {x : V} (h : Leaf c x) : x ≠ .str "app" := by
  cases h with
  | S => decide +kernel
  | K => decide +kernel
  | I => decide +kernel
  | var n => exact fun z => nomatch z
theorem Leaf.node {c : Cb} {x : V} (h : Leaf c x) : NodeC x := by
  cases h with
  | S => exact .inr (.inl rfl)
  | K => exact .inr (.inr (.inl rfl))
  | I => exact .inr (.inr (.inr (.inl rfl)))
  | var n => exact .inl ⟨n, rfl⟩
/-- what a combination begins with: applications, a leaf, then the arguments -/
def SpC (u : Cb) (h : Cb) (as : List Cb) : Prop := u.enc = List.replicate as.length (V.str "app") ++ h.enc ++ cencs as
theorem cencs_app (ts us : List Cb) : cencs (ts ++ us) = cencs ts ++ cencs us := by simp [cencs]
theorem cencs_one (t : Cb) : cencs [t] = t.enc := by simp [cencs]
def Cb.spine : Cb → Cb × List Cb
  | .app f a => (f.spine.1, f.spine.2 ++ [a])
  | t => (t, [])
theorem Cb.spine_enc : ∀ u : Cb, SpC u u.spine.1 u.spine.2
  | .S => by simp [SpC, Cb.spine, cencs]
  | .K => by simp [SpC, Cb.spine, cencs]
  | .I => by simp [SpC, Cb.spine, cencs]
  | .var _ => by simp [SpC, Cb.spine, cencs]
  | .app f a => by
    have h := f.spine_enc
    unfold SpC at h ⊢
    simp only [Cb.spine, Cb.enc]
    rw [h, cencs_app, cencs_one, List.length_append, List.length_singleton, List.replicate_succ]
    simp
theorem Cb.spine_leaf : ∀ u : Cb, ∃ x, Leaf u.spine.1 x
  | .S => ⟨_, .S⟩
  | .K => ⟨_, .K⟩
  | .I => ⟨_, .I⟩
  | .var n => ⟨_, .var n⟩
  | .app f a => f.spine_leaf
/-- the redex that a spine is -/
def redSp : Cb → List Cb → Option Cb
  | .I, [a] => some a
  | .K, [a, _] => some a
  | .S, [a, b, c] => some (.app (.app a c) (.app b c))
  | _, _ => none
theorem redSp_app (h : Cb) (as : List Cb) (l : 4 ≤ as.length) : redSp h as = none := by
  match h, as, l with
  | .S, a :: b :: c :: d :: r, _ => rfl
  | .K, a :: b :: c :: d :: r, _ => rfl
  | .I, a :: b :: c :: d :: r, _ => rfl
  | .var _, a :: b :: c :: d :: r, _ => rfl
  | .app _ _, a :: b :: c :: d :: r, _ => rfl
theorem Cb.red_sp : ∀ u : Cb, u.red = redSp u.spine.1 u.spine.2
  | .S => rfl
  | .K => rfl
  | .I => rfl
  | .var _ => rfl
  | .app .S _ => rfl
  | .app .K _ => rfl
  | .app .I _ => rfl
  | .app (.var _) _ => rfl
  | .app (.app .S _) _ => rfl
  | .app (.app .K _) _ => rfl
  | .app (.app .I _) _ => rfl
  | .app (.app (.var _) _) _ => rfl
  | .app (.app (.app .S _) _) _ => rfl
  | .app (.app (.app .K _) _) _ => rfl
  | .app (.app (.app .I _) _) _ => rfl
  | .app (.app (.app (.var _) _) _) _ => rfl
  | .app (.app (.app (.app f a) b) c) d => by
    rw [redSp_app _ _ (by simp [Cb.spine])]
    rfl
/-- how many arguments the redexes of a word have -/
def wantC : Cb → Nat
  | .I => 1
  | .K => 2
  | _ => 3
theorem redSp_none {h : Cb} {as : List Cb} (e : redSp h as = none) : (∃ n, h = .var n) ∨ (∃ f a, h = .app f a) ∨ as.length ≠ wantC h := by
  cases h with
  | var n => exact .inl ⟨n, rfl⟩
  | app f a => exact .inr (.inl ⟨f, a, rfl⟩)
  | I =>
    refine .inr (.inr fun z => ?_)
    match as, z with
    | [a], _ => cases e
  | K =>
    refine .inr (.inr fun z => ?_)
    match as, z with
    | [a, b], _ => cases e
  | S =>
    refine .inr (.inr fun z => ?_)
    match as, z with
    | [a, b, c], _ => cases e
theorem redSp_some {h v : Cb} {as : List Cb} (e : redSp h as = some v) : (h = .I ∧ ∃ a, as = [a] ∧ v = a) ∨ (h = .K ∧ ∃ a b, as = [a, b] ∧ v = a) ∨ (h = .S ∧ ∃ a b c, as = [a, b, c] ∧ v = .app (.app a c) (.app b c)) := by
  unfold redSp at e
  split at e
  · cases e
    exact .inl ⟨rfl, _, rfl, rfl⟩
  · cases e
    exact .inr (.inl ⟨rfl, _, _, rfl, rfl⟩)
  · cases e
    exact .inr (.inr ⟨rfl, _, _, _, rfl, rfl⟩)
  · cases e
/-! ### redexes by index -/
def redCB (xs : List V) (i : Nat) : Bool :=
  decide ((xs.drop i).take 2 = [V.str "app", V.str "I"]) || (decide ((xs.drop i).take 3 = [V.str "app", V.str "app", V.str "K"]) || decide ((xs.drop i).take 4 = [V.str "app", V.str "app", V.str "app", V.str "S"]))
theorem cw1 : ¬ (("S" : Str) = "app") := by decide +kernel
theorem cw2 : ¬ (("K" : Str) = "app") := by decide +kernel
theorem cw3 : ¬ (("I" : Str) = "app") := by decide +kernel
theorem cw4 : ¬ (("app" : Str) = "S") := by decide +kernel
theorem cw5 : ¬ (("app" : Str) = "K") := by decide +kernel
theorem cw6 : ¬ (("app" : Str) = "I") := by decide +kernel
theorem cw7 : ¬ (("S" : Str) = "K") := by decide +kernel
theorem cw8 : ¬ (("S" : Str) = "I") := by decide +kernel
theorem cw9 : ¬ (("K" : Str) = "S") := by decide +kernel
theorem cw10 : ¬ (("K" : Str) = "I") := by decide +kernel
theorem cw11 : ¬ (("I" : Str) = "S") := by decide +kernel
theorem cw12 : ¬ (("I" : Str) = "K") := by decide +kernel
theorem redCB_of {xs post : List V} {i : Nat} {u : Cb} (h : xs.drop i = u.enc ++ post) : redCB xs i = u.red.isSome := by
  unfold redCB
  rw [h]
  match u with
  | .S => simp [Cb.enc, Cb.red, cw1]
  | .K => simp [Cb.enc, Cb.red, cw2]
  | .I => simp [Cb.enc, Cb.red, cw3]
  | .var _ => simp [Cb.enc, Cb.red]
  | .app .S _ => simp [Cb.enc, Cb.red, cw1, cw8]
  | .app .K _ => simp [Cb.enc, Cb.red, cw2, cw10]
  | .app .I _ => simp [Cb.enc, Cb.red]
  | .app (.var _) _ => simp [Cb.enc, Cb.red]
  | .app (.app .S _) _ => simp [Cb.enc, Cb.red, cw1, cw6, cw7]
  | .app (.app .K _) _ => simp [Cb.enc, Cb.red]
  | .app (.app .I _) _ => simp [Cb.enc, Cb.red, cw3, cw6, cw12]
  | .app (.app (.var _) _) _ => simp [Cb.enc, Cb.red, cw6]
  | .app (.app (.app .S _) _) _ => simp [Cb.enc, Cb.red]
  | .app (.app (.app .K _) _) _ => simp [Cb.enc, Cb.red, cw5, cw6, cw9]
  | .app (.app (.app .I _) _) _ => simp [Cb.enc, Cb.red, cw5, cw6, cw11]
  | .app (.app (.app (.var _) _) _) _ => simp [Cb.enc, Cb.red, cw5, cw6]
  | .app (.app (.app (.app f a) b) c) d => simp [Cb.enc, Cb.red, cw4, cw5, cw6]
def redCI (xs : List V) : Nat → List Nat
  | 0 => []
  | n + 1 => redCI xs n ++ (if redCB xs n = true then [n] else [])
theorem redCI_len (xs : List V) : ∀ i, (redCI xs i).length ≤ i
  | 0 => Nat.le_refl _
  | n + 1 => by
    have ih := redCI_len xs n
    simp only [redCI, List.length_append]
    split <;> simp <;> omega
/-- what a step leaves -/
def Cb.stp (t : Cb) (i : Nat) (u v : Cb) : List V := t.enc.take i ++ v.enc ++ t.enc.drop (i + u.enc.length)
theorem Cb.stp_nodes (t : Cb) (i : Nat) (u v : Cb) : ∀ x ∈ t.stp i u v, NodeC x := fun x hx => by
  rcases List.mem_append.mp hx with hx | hx
  · rcases List.mem_append.mp hx with hx | hx
    · exact t.nodes x (List.mem_of_mem_take hx)
    · exact v.nodes x hx
  · exact t.nodes x (List.mem_of_mem_drop hx)
theorem Cb.red_len {u v : Cb} (h : u.red = some v) : v.enc.length + 1 ≤ u.enc.length + u.enc.length := by
  rw [Cb.red_sp] at h
  have sp := u.spine_enc
  unfold SpC at sp
  rcases redSp_some h with ⟨h1, a, h2, rfl⟩ | ⟨h1, a, b, h2, rfl⟩ | ⟨h1, a, b, c, h2, rfl⟩ <;> rw [h1, h2] at sp <;> rw [sp] <;> simp [cencs, Cb.enc] <;> omega
theorem Cb.stp_len {t u v : Cb} {i : Nat} {p : List Nat} (hs : t.sub p = some (i, u)) (h : u.red = some v) : (t.stp i u v).length ≤ 2 * t.enc.length := by
  have h1 := Cb.red_len h
  have h2 := Cb.sub_lt hs
  unfold Cb.stp
  rw [List.length_append, List.length_append, List.length_take, List.length_drop]
  omega
/-! ### walks over places -/
def cplss : List Cb → List (List Nat) → List (List Nat)
  | t :: ts, d :: ds => t.pls d ++ cplss ts ds
  | _, _ => []
theorem cencs_nil {ts : List Cb} (h : cencs ts = []) : ts = [] := by
  cases ts with
  | nil => rfl
  | cons t r =>
    have := congrArg List.length h
    rw [cencs_cons, List.length_append] at this
    have p := t.pos
    rw [List.length_nil] at this
    omega
def CPInv (t : Cb) (i : Nat) (found ds : List (List Nat)) : Prop := ∃ ts : List Cb, t.enc.drop i = cencs ts ∧ ts.length = ds.length ∧ t.pls [] = found ++ cplss ts ds.reverse
theorem CPInv.start (t : Cb) : CPInv t 0 [] [[]] := ⟨[t], by simp [cencs], rfl, by simp [cplss]⟩
theorem CPInv.done {t : Cb} {found ds : List (List Nat)} (h : CPInv t t.enc.length found ds) : found = t.pls [] := by
  obtain ⟨ts, h1, h2, h3⟩ := h
  rw [List.drop_length] at h1
  have e := cencs_nil h1.symm
  subst e
  rw [h3]
  simp [cplss]
theorem CPInv.step {t : Cb} {i : Nat} {found ds : List (List Nat)} {v : V} (h : CPInv t i found ds) (hv : t.enc[i]? = some v) : ∃ r d, ds = r ++ [d] ∧
    ((v ≠ .str "app" ∧ NodeC v ∧ CPInv t (i + 1) (found ++ [d]) r) ∨ (v = .str "app" ∧ CPInv t (i + 1) (found ++ [d]) (r ++ [d ++ [97]] ++ [d ++ [102]]))) := by
  obtain ⟨ts, h1, h2, h3⟩ := h
  rw [drop_at hv] at h1
  match ts, h1, h2, h3 with
  | [], h1, _, _ => cases h1
  | t1 :: r1, h1, h2, h3 =>
    have hne : ds ≠ [] := fun e => by
      rw [e] at h2
      cases h2
    refine ⟨ds.dropLast, ds.getLast hne, (List.dropLast_concat_getLast hne).symm, ?_⟩
    generalize hr : ds.dropLast = r at *
    generalize hd : ds.getLast hne = d at *
    have hds : ds = r ++ [d] := by rw [← hr, ← hd]; exact (List.dropLast_concat_getLast hne).symm
    subst hds
    rw [List.reverse_append] at h3
    have h3 : t.pls [] = found ++ (t1.pls d ++ cplss r1 r.reverse) := h3
    have hl : r1.length = r.length := by simpa using h2
    rw [cencs_cons] at h1
    have leaf : ∀ {x : V}, Leaf t1 x → v = x ∧ t.enc.drop (i + 1) = cencs r1 ∧ t1.pls d = [d] := fun {x} hx => by
      rw [hx.enc] at h1
      injection h1 with e1 e2
      exact ⟨e1, e2, by cases hx <;> rfl⟩
    have fin : ∀ {x : V}, Leaf t1 x → v ≠ .str "app" ∧ NodeC v ∧ CPInv t (i + 1) (found ++ [d]) r := fun {x} hx => by
      obtain ⟨e1, e2, e3⟩ := leaf hx
      subst e1
      exact ⟨hx.ne, hx.node, r1, e2, hl, by rw [h3, e3]; simp⟩
    cases t1 with
    | S => exact .inl (fin .S)
    | K => exact .inl (fin .K)
    | I => exact .inl (fin .I)
    | var n => exact .inl (fin (.var n))
    | app f a =>
      have h1 : v :: t.enc.drop (i + 1) = V.str "app" :: (f.enc ++ a.enc ++ cencs r1) := h1
      injection h1 with e1 e2
      exact .inr ⟨e1, f :: a :: r1, by rw [e2, cencs_cons, cencs_cons, List.append_assoc], by simp [hl], by rw [h3, List.reverse_append, List.reverse_append]; simp [Cb.pls, cplss]⟩
/-- in the midst of the walk: the part that is reached -/
def CWInv (t : Cb) (p : List Nat) (i s : Nat) (u : Cb) : Prop := (∃ post, t.enc.drop s = u.enc ++ post) ∧ t.sub p = (u.sub (p.drop i)).map (fun r => (r.1 + s, r.2))
theorem CWInv.start (t : Cb) (p : List Nat) : CWInv t p 0 0 t := ⟨⟨[], by simp⟩, by
  have : (fun r : Nat × Cb => (r.1 + 0, r.2)) = id := by funext r; rfl
  rw [this]
  simp⟩
theorem CWInv.step {t : Cb} {p : List Nat} {i s c : Nat} {u : Cb} (h : CWInv t p i s u) (hc : p[i]? = some c) : ∃ v, t.enc[s]? = some v ∧
    ((v ≠ .str "app" ∧ NodeC v ∧ t.sub p = none) ∨
     (v = .str "app" ∧ ((c = 102 ∧ ∃ g : Cb, CWInv t p (i + 1) (s + 1) g) ∨ (c = 97 ∧ ∃ (g a : Cb) (post : List V), t.enc.drop (s + 1) = g.enc ++ post ∧ CWInv t p (i + 1) (s + 1 + g.enc.length) a) ∨ (c ≠ 102 ∧ c ≠ 97 ∧ t.sub p = none)))) := by
  obtain ⟨⟨post, h1⟩, h2⟩ := h
  rw [drop_at hc] at h2
  have leaf : ∀ {x : V}, Leaf u x → ∃ v, t.enc[s]? = some v ∧ (v ≠ .str "app" ∧ NodeC v ∧ t.sub p = none) := fun {x} hx => by
    have g := drop_get (i := s) (v := x) (r := post) (by rw [h1, hx.enc]; rfl)
    refine ⟨x, g.1, hx.ne, hx.node, ?_⟩
    rw [h2]
    cases hx <;> rfl
  cases u with
  | S =>
    obtain ⟨v, a, b⟩ := leaf .S
    exact ⟨v, a, .inl b⟩
  | K =>
    obtain ⟨v, a, b⟩ := leaf .K
    exact ⟨v, a, .inl b⟩
  | I =>
    obtain ⟨v, a, b⟩ := leaf .I
    exact ⟨v, a, .inl b⟩
  | var n =>
    obtain ⟨v, a, b⟩ := leaf (.var n)
    exact ⟨v, a, .inl b⟩
  | app f a =>
    have g := drop_get (i := s) (v := .str "app") (r := f.enc ++ (a.enc ++ post)) (by rw [h1]; simp [Cb.enc])
    refine ⟨_, g.1, .inr ⟨rfl, ?_⟩⟩
    by_cases e : c = 102
    · refine .inl ⟨e, f, ⟨_, g.2⟩, ?_⟩
      rw [h2]
      simp only [Cb.sub, if_pos e, Option.map_map]
      congr 1
      funext r
      simp
      omega
    · by_cases e2 : c = 97
      · refine .inr (.inl ⟨e2, f, a, _, g.2, ⟨post, ?_⟩, ?_⟩)
        · rw [← List.drop_drop, g.2]
          simp
        · rw [h2]
          simp only [Cb.sub, if_neg e, if_pos e2, Option.map_map]
          congr 1
          funext r
          simp
          omega
      · exact .inr (.inr ⟨e, e2, by rw [h2]; simp [Cb.sub, e, e2]⟩)
end Ly
set_option Elab.async false
set_option linter.all false
set_option maxRecDepth 100000
set_option maxHeartbeats 2000000
/-! Ly: the first redex of a combination, steps at it -/
namespace Ly
open PySem PySem.Spec PyProof.Rows L2 Evl
theorem Cb.sub_deep : ∀ (t : Cb) (p : List Nat) {i : Nat} {u : Cb}, t.sub p = some (i, u) → p.length + u.enc.length ≤ t.enc.length ∧ ∀ c ∈ p, c = 102 ∨ c = 97
  | t, [], i, u, h => by
    rw [Cb.sub_nil] at h
    cases h
    exact ⟨by simp, by simp⟩
  | .app f a, c :: p, i, u, h => by
    by_cases hc : c = 102
    · subst hc
      simp only [Cb.sub, if_pos] at h
      obtain ⟨⟨j, u'⟩, e1, e2⟩ := Option.map_eq_some_iff.mp h
      cases e2
      obtain ⟨h1, h2⟩ := Cb.sub_deep f p e1
      refine ⟨by simp only [Cb.enc, List.length_cons, List.length_append]; omega, fun d hd => ?_⟩
      rcases List.mem_cons.mp hd with e | hd
      · exact .inl e
      · exact h2 d hd
    · by_cases hc2 : c = 97
      · subst hc2
        simp only [Cb.sub, if_neg hc, if_pos] at h
        obtain ⟨⟨j, u'⟩, e1, e2⟩ := Option.map_eq_some_iff.mp h
        cases e2
        obtain ⟨h1, h2⟩ := Cb.sub_deep a p e1
        refine ⟨by simp only [Cb.enc, List.length_cons, List.length_append]; omega, fun d hd => ?_⟩
        rcases List.mem_cons.mp hd with e | hd
        · exact .inr e
        · exact h2 d hd
      · simp [Cb.sub, hc, hc2] at h
  | .S, c :: p, i, u, h => by simp [Cb.sub] at h
  | .K, c :: p, i, u, h => by simp [Cb.sub] at h
  | .I, c :: p, i, u, h => by simp [Cb.sub] at h
  | .var _, c :: p, i, u, h => by simp [Cb.sub] at h
theorem Cb.pls_at {t : Cb} {i : Nat} {q : List Nat} (h : (t.pls [])[i]? = some q) : ∃ u post, t.sub q = some (i, u) ∧ t.enc.drop i = u.enc ++ post := by
  have lt := (List.getElem?_eq_some_iff.mp h).1
  rw [Cb.pls_len] at lt
  obtain ⟨p, u, post, h1, h2, h3⟩ := t.part_at [] lt
  rw [h1] at h
  cases h
  exact ⟨u, post, h2, h3⟩
theorem Cb.stp_ints {t u v : Cb} {i : Nat} {p : List Nat} (hs : t.sub p = some (i, u)) (hr : u.red = some v) {j : Int} (hx : V.int j ∈ t.stp i u v) : V.int j ∈ t.enc := by
  have hsp := u.spine_enc
  obtain ⟨⟨post, hdr⟩, _⟩ := Cb.sub_at t p [] hs
  have hut : ∀ y ∈ u.enc, y ∈ t.enc := fun y hy => List.mem_of_mem_drop (i := i) (by rw [hdr]; exact List.mem_append_left _ hy)
  rcases List.mem_append.mp hx with hx | hx
  · rcases List.mem_append.mp hx with hx | hx
    · exact List.mem_of_mem_take hx
    · refine hut _ ?_
      rw [Cb.red_sp] at hr
      unfold SpC at hsp
      rw [hsp]
      rcases redSp_some hr with ⟨h1, a, h2, rfl⟩ | ⟨h1, a, b, h2, rfl⟩ | ⟨h1, a, b, c, h2, rfl⟩ <;> rw [h2]
      · simp [cencs, hx]
      · simp [cencs, hx]
      · simp only [Cb.enc, List.mem_cons, List.mem_append] at hx
        have : V.int j ∈ a.enc ∨ V.int j ∈ b.enc ∨ V.int j ∈ c.enc := by
          rcases hx with e | (e | hx | hx) | (e | hx | hx)
          · cases e
          · cases e
          · exact .inl hx
          · exact .inr (.inr hx)
          · cases e
          · exact .inr (.inl hx)
          · exact .inr (.inr hx)
        simp only [cencs, List.map_cons, List.map_nil, List.flatten_cons, List.flatten_nil, List.mem_append]
        rcases this with e | e | e
        · exact .inr (.inl e)
        · exact .inr (.inr (.inl e))
        · exact .inr (.inr (.inr (.inl e)))
  · exact List.mem_of_mem_drop hx
theorem Cb.lt_of {w : Nat} : ∀ {t : Cb}, (∀ j : Int, V.int j ∈ t.enc → j < w) → t.lt w
  | .S, _ => trivial
  | .K, _ => trivial
  | .I, _ => trivial
  | .var n, h => by
    have := h n (by simp [Cb.enc])
    show n < w
    omega
  | .app f a, h => ⟨Cb.lt_of fun j hj => h j (by simp [Cb.enc, hj]), Cb.lt_of fun j hj => h j (by simp [Cb.enc, hj])⟩
/-- u is t behind a step at its first redex, which begins at i -/
def FstC (t : Cb) (i : Nat) (t' : Cb) : Prop := (∀ j, j < i → redCB t.enc j = false) ∧ ∃ p u v, t.sub p = some (i, u) ∧ u.red = some v ∧ t' = Cb.rep v t p
def NoR (t : Cb) : Prop := ∀ j, j < t.enc.length → redCB t.enc j = false
theorem FstC.enc {t t' : Cb} {i : Nat} (h : FstC t i t') : ∃ p u v, t.sub p = some (i, u) ∧ u.red = some v ∧ t'.enc = t.stp i u v := by
  obtain ⟨_, p, u, v, h1, h2, rfl⟩ := h
  exact ⟨p, u, v, h1, h2, Cb.rep_enc v t p h1⟩
theorem FstC.at {t t' : Cb} {i : Nat} (h : FstC t i t') : i < t.enc.length ∧ redCB t.enc i = true := by
  obtain ⟨_, p, u, v, h1, h2, rfl⟩ := h
  obtain ⟨⟨post, hd⟩, _⟩ := Cb.sub_at t p [] h1
  have := Cb.sub_lt h1
  have := u.pos
  exact ⟨by omega, by rw [redCB_of hd, h2]; rfl⟩
theorem fst_or (t : Cb) : (∃ i t', FstC t i t') ∨ NoR t := by
  by_cases h : ∃ i, i < t.enc.length ∧ redCB t.enc i = true
  · obtain ⟨i, hi⟩ := h
    have key : ∀ n, ∀ i, i ≤ n → i < t.enc.length ∧ redCB t.enc i = true → ∃ i, (i < t.enc.length ∧ redCB t.enc i = true) ∧ ∀ j, j < i → redCB t.enc j = false := by
      intro n
      induction n with
      | zero =>
        intro i hi h
        exact ⟨i, h, fun j hj => by omega⟩
      | succ n ih =>
        intro i hi h
        by_cases hc : ∃ j, j < i ∧ redCB t.enc j = true
        · obtain ⟨j, hj, hb⟩ := hc
          exact ih j (by omega) ⟨by omega, hb⟩
        · refine ⟨i, h, fun j hj => ?_⟩
          cases hb : redCB t.enc j with
          | false => rfl
          | true => exact absurd ⟨j, hj, hb⟩ hc
    obtain ⟨i, ⟨h1, h2⟩, h3⟩ := key i i (Nat.le_refl _) hi
    obtain ⟨q, hq⟩ : ∃ q, (t.pls [])[i]? = some q := ⟨_, List.getElem?_eq_getElem (by rw [t.pls_len]; exact h1)⟩
    obtain ⟨u, post, hs, hd⟩ := Cb.pls_at hq
    have hb := redCB_of hd
    rw [h2] at hb
    cases hv : u.red with
    | none => rw [hv] at hb; cases hb
    | some v => exact .inl ⟨i, _, h3, q, u, v, hs, hv, rfl⟩
  · refine .inr fun j hj => ?_
    cases hb : redCB t.enc j with
    | false => rfl
    | true => exact absurd ⟨j, hj, hb⟩ h
theorem FstC.uniq {t t1 t2 : Cb} {i j : Nat} (h : FstC t i t1) (k : FstC t j t2) : i = j ∧ t1.enc = t2.enc := by
  have hi := h.at
  have hj := k.at
  have e : i = j := by
    rcases Nat.lt_trichotomy i j with l | l | l
    · rw [k.1 i l] at hi
      exact absurd hi.2 (by simp)
    · exact l
    · rw [h.1 j l] at hj
      exact absurd hj.2 (by simp)
  subst e
  obtain ⟨p, u, v, h1, h2, h3⟩ := h.enc
  obtain ⟨p', u', v', k1, k2, k3⟩ := k.enc
  have a1 := (Cb.sub_at t p [] h1).2
  have a2 := (Cb.sub_at t p' [] k1).2
  rw [a1] at a2
  simp only [List.nil_append, Option.some.injEq] at a2
  subst a2
  rw [h1] at k1
  cases k1
  rw [h2] at k2
  cases k2
  exact ⟨rfl, by rw [h3, k3]⟩
theorem FstC.not {t t' : Cb} {i : Nat} (h : FstC t i t') (k : NoR t) : False := by
  have hi := h.at
  rw [k i hi.1] at hi
  exact absurd hi.2 (by simp)
theorem FstC.len {t t' : Cb} {i : Nat} (h : FstC t i t') : t'.enc.length ≤ 2 * t.enc.length := by
  obtain ⟨p, u, v, h1, h2, h3⟩ := h.enc
  rw [h3]
  exact Cb.stp_len h1 h2
theorem FstC.lt {t t' : Cb} {i w : Nat} (h : FstC t i t') (k : t.lt w) : t'.lt w := by
  obtain ⟨p, u, v, h1, h2, h3⟩ := h.enc
  refine Cb.lt_of fun j hj => Cb.small k j ?_
  rw [h3] at hj
  exact Cb.stp_ints h1 h2 hj
/-- behind a step nothing new begins more than three nodes in front of it -/
theorem FstC.low {t t' : Cb} {i : Nat} (h : FstC t i t') {j : Nat} (hj : j + 3 < i) : redCB t'.enc j = false := by
  obtain ⟨p, u, v, h1, h2, h3⟩ := h.enc
  have hi := h.at.1
  have old := h.1 j (by omega)
  have e : (t'.enc.drop j).take 4 = (t.enc.drop j).take 4 := by
    rw [h3]
    unfold Cb.stp
    rw [List.append_assoc, List.drop_append_of_le_length (by rw [List.length_take]; omega), List.take_append_of_le_length (by rw [List.length_drop, List.length_take]; omega), List.drop_take, List.take_take]
    congr 1
    omega
  have sm : ∀ n, n ≤ 4 → (t'.enc.drop j).take n = (t.enc.drop j).take n := fun n hn => by
    have := congrArg (List.take n) e
    rwa [List.take_take, List.take_take, Nat.min_eq_left hn] at this
  unfold redCB at old ⊢
  rw [sm 2 (by omega), sm 3 (by omega), e]
  exact old
/-! ### steps at first redexes -/
inductive WkC where
  | done (u : Cb)
  | out
  | large
/-- what so many steps come to -/
inductive CNf : Nat → Cb → Nat → WkC → Prop
  | done {k t} (h : NoR t) : CNf k t 0 (.done t)
  | out {t i t'} (h : FstC t i t') : CNf 0 t 0 .out
  | large {k t i t'} (h : FstC t i t') (hf : fitsV t'.enc = false) : CNf (k + 1) t 1 .large
  | step {k t i t' n r} (h : FstC t i t') (hf : fitsV t'.enc = true) (c : CNf k t' n r) : CNf (k + 1) t (n + 1) r
theorem Cb.enc_inj : ∀ {t u : Cb} {xs ys : List V}, t.enc ++ xs = u.enc ++ ys → t = u ∧ xs = ys
  | .S, u, xs, ys, h => by
    cases u <;> simp [Cb.enc, cw4, cw7, cw8, cw1] at h <;> simp [h]
  | .K, u, xs, ys, h => by
    cases u <;> simp [Cb.enc, cw2, cw9, cw10] at h <;> simp [h]
  | .I, u, xs, ys, h => by
    cases u <;> simp [Cb.enc, cw3, cw11, cw12] at h <;> simp [h]
  | .var n, u, xs, ys, h => by
    cases u <;> simp [Cb.enc] at h
    exact ⟨by rw [Int.ofNat.inj h.1], h.2⟩
  | .app f a, u, xs, ys, h => by
    cases u with
    | S => simp [Cb.enc, cw4] at h
    | K => simp [Cb.enc, cw5] at h
    | I => simp [Cb.enc, cw6] at h
    | var n => simp [Cb.enc] at h
    | app g b =>
      simp only [Cb.enc, List.cons_append, List.cons.injEq, true_and, List.append_assoc] at h
      obtain ⟨h1, h2⟩ := Cb.enc_inj h
      obtain ⟨h3, h4⟩ := Cb.enc_inj h2
      exact ⟨by rw [h1, h3], h4⟩
theorem Cb.enc_eq {t u : Cb} (h : t.enc = u.enc) : t = u := (Cb.enc_inj (xs := []) (ys := []) (by simpa using h)).1
theorem CNf.uniq {k : Nat} {t : Cb} {n m : Nat} {r s : WkC} (h : CNf k t n r) (c : CNf k t m s) : n = m ∧ r = s := by
  induction h generalizing m s with
  | done h =>
    cases c with
    | done _ => exact ⟨rfl, rfl⟩
    | out c => exact (c.not h).elim
    | large c _ => exact (c.not h).elim
    | step c _ _ => exact (c.not h).elim
  | out h =>
    cases c with
    | done c => exact (h.not c).elim
    | out _ => exact ⟨rfl, rfl⟩
  | large h hf =>
    cases c with
    | done c => exact (h.not c).elim
    | large _ _ => exact ⟨rfl, rfl⟩
    | step c cf _ =>
      rw [(h.uniq c).2, cf] at hf
      cases hf
  | step h hf _ ih =>
    cases c with
    | done c => exact (h.not c).elim
    | large c cf =>
      rw [(h.uniq c).2, cf] at hf
      cases hf
    | step c cf cc =>
      have e := Cb.enc_eq (h.uniq c).2
      subst e
      obtain ⟨h1, h2⟩ := ih cc
      exact ⟨by rw [h1], h2⟩
theorem CNf.ex : ∀ (k : Nat) (t : Cb), ∃ n r, CNf k t n r
  | 0, t => by
    rcases fst_or t with ⟨i, t', h⟩ | h
    · exact ⟨_, _, .out h⟩
    · exact ⟨_, _, .done h⟩
  | k + 1, t => by
    rcases fst_or t with ⟨i, t', h⟩ | h
    · cases hf : fitsV t'.enc with
      | true =>
        obtain ⟨n, r, c⟩ := CNf.ex k t'
        exact ⟨_, _, .step h hf c⟩
      | false => exact ⟨_, _, .large h hf⟩
    · exact ⟨_, _, .done h⟩
theorem CNf.le {k : Nat} {t : Cb} {n : Nat} {r : WkC} (h : CNf k t n r) : n ≤ k := by
  induction h with
  | done _ => exact Nat.zero_le _
  | out _ => exact Nat.le_refl _
  | large _ _ => omega
  | step _ _ _ ih => omega
theorem CNf.exact {k : Nat} {t u : Cb} {n : Nat} {r : WkC} (h : CNf k t n r) (e : r = .done u) : CNf n t n (.done u) := by
  induction h with
  | done h =>
    cases e
    exact .done h
  | out _ => cases e
  | large _ _ => cases e
  | step h hf _ ih => exact .step h hf (ih e)
theorem CNf.less {n : Nat} {t u : Cb} {m : Nat} {r : WkC} (h : CNf n t m r) (e : r = .done u) (e2 : m = n) {j : Nat} (hj : n = j + 1) : CNf j t j .out := by
  induction h generalizing j with
  | done h => omega
  | out _ => cases e
  | large _ _ => cases e
  | step h hf c ih =>
    rename_i k t0 i t' n' r'
    have e3 : n' = k := by omega
    have e4 : k = j := by omega
    subst e4
    cases k with
    | zero => exact .out h
    | succ k => exact .step h hf (ih e e3 rfl)
end Ly
set_option Elab.async false
set_option linter.all false
set_option maxRecDepth 100000
set_option maxHeartbeats 2000000
/-! Ly: abstractions of combinations, combinations of terms -/
namespace Ly
open PySem PySem.Spec PyProof.Rows L2 Evl
/-! ### forests, from behind -/
theorem Tm.enc_pre2 : ∀ (t u : Tm) {xs ys : List V}, t.enc ++ xs = u.enc ++ ys → t = u ∧ xs = ys
  | .var n, .var m, xs, ys, h => by
    simp only [Tm.enc, List.cons_append, List.nil_append, List.cons.injEq, V.int.injEq] at h
    exact ⟨by rw [Int.ofNat.inj h.1], h.2⟩
  | .var n, .lam b, xs, ys, h => by simp [Tm.enc] at h
  | .var n, .app f a, xs, ys, h => by simp [Tm.enc] at h
  | .lam b, .var m, xs, ys, h => by simp [Tm.enc] at h
  | .lam b, .lam c, xs, ys, h => by
    simp only [Tm.enc, List.cons_append, List.cons.injEq, true_and] at h
    obtain ⟨h1, h2⟩ := Tm.enc_pre2 b c h
    exact ⟨by rw [h1], h2⟩
  | .lam b, .app f a, xs, ys, h => by simp [Tm.enc, str_ne2, str_ne1] at h
  | .app f a, .var m, xs, ys, h => by simp [Tm.enc] at h
  | .app f a, .lam c, xs, ys, h => by simp [Tm.enc, str_ne2, str_ne1] at h
  | .app f a, .app g b, xs, ys, h => by
    simp only [Tm.enc, List.cons_append, List.cons.injEq, true_and, List.append_assoc] at h
    obtain ⟨h1, h2⟩ := Tm.enc_pre2 f g h
    obtain ⟨h3, h4⟩ := Tm.enc_pre2 a b h2
    exact ⟨by rw [h1, h3], h4⟩
theorem encs_inj2 : ∀ us vs : List Tm, encs us = encs vs → us = vs
  | [], vs, h => by
    cases vs with
    | nil => rfl
    | cons v vs =>
      have := encs_pos (v :: vs)
      rw [← h] at this
      simp [encs] at this
  | u :: us, vs, h => by
    cases vs with
    | nil =>
      have := encs_pos (u :: us)
      rw [h] at this
      simp [encs] at this
    | cons v vs =>
      rw [encs_cons, encs_cons] at h
      obtain ⟨h1, h2⟩ := Tm.enc_pre2 u v h
      rw [h1, encs_inj2 us vs h2]
theorem cencs_inj : ∀ us vs : List Cb, cencs us = cencs vs → us = vs
  | [], vs, h => by
    cases vs with
    | nil => rfl
    | cons v vs => exact absurd (cencs_nil h.symm) (by simp)
  | u :: us, vs, h => by
    cases vs with
    | nil => exact absurd (cencs_nil h) (by simp)
    | cons v vs =>
      rw [cencs_cons, cencs_cons] at h
      obtain ⟨h1, h2⟩ := Cb.enc_inj h
      rw [h1, cencs_inj us vs h2]
/-- the forest of t that begins at i -/
inductive For (t : Tm) : Nat → List Tm → Prop
  | start : For t 0 [t]
  | var {i n us} (h : For t i (.var n :: us)) : For t (i + 1) us
  | lam {i b us} (h : For t i (.lam b :: us)) : For t (i + 1) (b :: us)
  | app {i f a us} (h : For t i (.app f a :: us)) : For t (i + 1) (f :: a :: us)
theorem For.enc {t : Tm} {i : Nat} {us : List Tm} (h : For t i us) : t.enc.drop i = encs us := by
  have st : ∀ {i : Nat} {x : V} {r : List V}, t.enc.drop i = x :: r → t.enc.drop (i + 1) = r := fun {i x r} h => (drop_get h).2
  induction h with
  | start => simp [encs]
  | var _ ih => exact st (by rw [ih, encs_cons]; rfl)
  | lam _ ih => rw [encs_cons]; exact st (by rw [ih, encs_cons]; rfl)
  | app _ ih => rw [encs_cons, encs_cons]; exact st (x := .str "app") (by rw [ih, encs_cons]; simp [Tm.enc])
theorem For.ex {t : Tm} : ∀ {i : Nat}, i ≤ t.enc.length → ∃ us, For t i us
  | 0, _ => ⟨_, .start⟩
  | i + 1, h => by
    obtain ⟨us, hf⟩ := For.ex (t := t) (i := i) (by omega)
    cases us with
    | nil =>
      have := congrArg List.length hf.enc
      simp [encs] at this
      omega
    | cons u us =>
      cases u with
      | var n => exact ⟨_, .var hf⟩
      | lam b => exact ⟨_, .lam hf⟩
      | app f a => exact ⟨_, .app hf⟩
/-- the forest that begins one node earlier -/
theorem For.back {t : Tm} {i : Nat} {x : V} {us : List Tm} (h : t.enc[i]? = some x) (hu : For t (i + 1) us) :
    ∃ ws, For t i ws ∧ ((∃ n : Nat, x = .int n ∧ ws = .var n :: us) ∨ (∃ b us2, x = .str "lam" ∧ us = b :: us2 ∧ ws = .lam b :: us2) ∨ ∃ f a us2, x = .str "app" ∧ us = f :: a :: us2 ∧ ws = .app f a :: us2) := by
  obtain ⟨hi, hx⟩ := List.getElem?_eq_some_iff.mp h
  obtain ⟨ws, hw⟩ := For.ex (t := t) (i := i) (by omega)
  refine ⟨ws, hw, ?_⟩
  have hd : t.enc.drop i = x :: t.enc.drop (i + 1) := by rw [← hx]; exact List.drop_eq_getElem_cons hi
  rw [hw.enc, hu.enc] at hd
  cases ws with
  | nil => simp [encs] at hd
  | cons w ws =>
    rw [encs_cons] at hd
    cases w with
    | var n =>
      simp only [Tm.enc, List.cons_append, List.nil_append, List.cons.injEq] at hd
      exact .inl ⟨n, hd.1.symm, by rw [encs_inj2 _ _ hd.2]⟩
    | lam b =>
      simp only [Tm.enc, List.cons_append, List.cons.injEq] at hd
      rw [← encs_cons] at hd
      exact .inr (.inl ⟨b, ws, hd.1.symm, (encs_inj2 _ _ hd.2).symm, rfl⟩)
    | app f a =>
      simp only [Tm.enc, List.cons_append, List.cons.injEq, List.append_assoc] at hd
      rw [← encs_cons, ← encs_cons] at hd
      exact .inr (.inr ⟨f, a, ws, hd.1.symm, (encs_inj2 _ _ hd.2).symm, rfl⟩)
inductive ForC (t : Cb) : Nat → List Cb → Prop
  | start : ForC t 0 [t]
  | leaf {i c x us} (l : Leaf c x) (h : ForC t i (c :: us)) : ForC t (i + 1) us
  | app {i f a us} (h : ForC t i (.app f a :: us)) : ForC t (i + 1) (f :: a :: us)
theorem ForC.enc {t : Cb} {i : Nat} {us : List Cb} (h : ForC t i us) : t.enc.drop i = cencs us := by
  have st : ∀ {i : Nat} {x : V} {r : List V}, t.enc.drop i = x :: r → t.enc.drop (i + 1) = r := fun {i x r} h => (drop_get h).2
  induction h with
  | start => simp [cencs]
  | leaf l _ ih => exact st (by rw [ih, cencs_cons, l.enc]; rfl)
  | app _ ih => rw [cencs_cons, cencs_cons]; exact st (x := .str "app") (by rw [ih, cencs_cons]; simp [Cb.enc])
theorem ForC.ex {t : Cb} : ∀ {i : Nat}, i ≤ t.enc.length → ∃ us, ForC t i us
  | 0, _ => ⟨_, .start⟩
  | i + 1, h => by
    obtain ⟨us, hf⟩ := ForC.ex (t := t) (i := i) (by omega)
    cases us with
    | nil =>
      have := congrArg List.length hf.enc
      simp [cencs] at this
      omega
    | cons u us =>
      cases u with
      | S => exact ⟨_, .leaf .S hf⟩
      | K => exact ⟨_, .leaf .K hf⟩
      | I => exact ⟨_, .leaf .I hf⟩
      | var n => exact ⟨_, .leaf (.var n) hf⟩
      | app f a => exact ⟨_, .app hf⟩
theorem ForC.back {t : Cb} {i : Nat} {x : V} {us : List Cb} (h : t.enc[i]? = some x) (hu : ForC t (i + 1) us) :
    ∃ ws, ForC t i ws ∧ ((∃ c, Leaf c x ∧ ws = c :: us) ∨ ∃ f a us2, x = .str "app" ∧ us = f :: a :: us2 ∧ ws = .app f a :: us2) := by
  obtain ⟨hi, hx⟩ := List.getElem?_eq_some_iff.mp h
  obtain ⟨ws, hw⟩ := ForC.ex (t := t) (i := i) (by omega)
  refine ⟨ws, hw, ?_⟩
  have hd : t.enc.drop i = x :: t.enc.drop (i + 1) := by rw [← hx]; exact List.drop_eq_getElem_cons hi
  rw [hw.enc, hu.enc] at hd
  cases ws with
  | nil => simp [cencs] at hd
  | cons w ws =>
    rw [cencs_cons] at hd
    have leaf : ∀ {y : V}, Leaf w y → ∃ c, Leaf c x ∧ w :: ws = c :: us := fun {y} l => by
      rw [l.enc] at hd
      simp only [List.cons_append, List.nil_append, List.cons.injEq] at hd
      rw [← hd.1]
      exact ⟨w, l, by rw [cencs_inj _ _ hd.2]⟩
    cases w with
    | S => exact .inl (leaf .S)
    | K => exact .inl (leaf .K)
    | I => exact .inl (leaf .I)
    | var n => exact .inl (leaf (.var n))
    | app f a =>
      simp only [Cb.enc, List.cons_append, List.cons.injEq, List.append_assoc] at hd
      rw [← cencs_cons, ← cencs_cons] at hd
      exact .inr ⟨f, a, ws, hd.1.symm, (cencs_inj _ _ hd.2).symm, rfl⟩
theorem ForC.last {t : Cb} {us : List Cb} (h : ForC t 0 us) : us = [t] := cencs_inj _ _ (by rw [← h.enc]; simp [cencs])
theorem For.last {t : Tm} {us : List Tm} (h : For t 0 us) : us = [t] := encs_inj2 _ _ (by rw [← h.enc]; simp [encs])
theorem cencs_pos : ∀ ts : List Cb, ts.length ≤ (cencs ts).length
  | [] => by simp
  | t :: ts => by
    have h1 := cencs_pos ts
    have h2 := t.pos
    rw [cencs_cons, List.length_append, List.length_cons]
    omega
/-! ### abstraction -/
def Cb.has0 : Cb → Bool
  | .var n => n == 0
  | .app f a => f.has0 || a.has0
  | _ => false
def Cb.dec : Cb → Cb
  | .var n => .var (n - 1)
  | .app f a => .app f.dec a.dec
  | t => t
def Cb.abs : Cb → Cb
  | .app f a => if (f.has0 || a.has0) = true then .app (.app .S f.abs) a.abs else .app .K (.app f.dec a.dec)
  | .var n => if n = 0 then .I else .app .K (.var (n - 1))
  | t => .app .K t
/-- what stands for a part in the walk from behind -/
def Cb.row (t : Cb) : Cb := if t.has0 = true then t.abs else t.dec
theorem Cb.abs_no {t : Cb} (h : t.has0 = false) : t.abs = .app .K t.dec := by
  cases t with
  | S => rfl
  | K => rfl
  | I => rfl
  | var n =>
    have : n ≠ 0 := by simpa [Cb.has0] using h
    simp [Cb.abs, Cb.dec, this]
  | app f a =>
    simp only [Cb.has0] at h
    simp [Cb.abs, Cb.dec, h]
theorem Cb.dec_enc : ∀ {t : Cb}, t.has0 = false → t.dec.enc = t.enc.map dcN
  | .S, _ => rfl
  | .K, _ => rfl
  | .I, _ => rfl
  | .var n, h => by
    have h2 : n ≠ 0 := by simpa [Cb.has0] using h
    have e : ((n - 1 : Nat) : Int) = (n : Int) - 1 := by omega
    simp only [Cb.dec, Cb.enc, List.map_cons, List.map_nil, dcN, e]
  | .app f a, h => by
    simp only [Cb.has0, Bool.or_eq_false_iff] at h
    simp only [Cb.dec, Cb.enc, List.map_cons, List.map_append, Cb.dec_enc h.1, Cb.dec_enc h.2]
    rfl
theorem Cb.dec_len (t : Cb) : t.dec.enc.length = t.enc.length := by
  induction t with
  | app f a h1 h2 => simp [Cb.dec, Cb.enc, h1, h2]
  | _ => rfl
theorem Cb.abs_app {f a : Cb} (h : (Cb.app f a).has0 = true) : (Cb.app f a).abs = .app (.app .S f.abs) a.abs := by
  have h : (f.has0 || a.has0) = true := h
  simp [Cb.abs, h]
theorem Cb.abs_len (t : Cb) : t.enc.length + 1 ≤ t.abs.enc.length + 1 ∧ t.abs.enc.length ≤ 3 * t.enc.length := by
  induction t with
  | S => simp [Cb.abs, Cb.enc]
  | K => simp [Cb.abs, Cb.enc]
  | I => simp [Cb.abs, Cb.enc]
  | var n =>
    simp only [Cb.abs]
    split <;> simp [Cb.enc]
  | app f a h1 h2 =>
    simp only [Cb.abs]
    split
    · simp only [Cb.enc, List.length_cons, List.length_append, List.length_nil]
      omega
    · simp only [Cb.enc, List.length_cons, List.length_append, List.length_nil, Cb.dec_len]
      have := f.pos
      omega
theorem Cb.row_abs (t : Cb) : t.row.enc.length ≤ t.abs.enc.length := by
  unfold Cb.row
  split
  · exact Nat.le_refl _
  · rename_i h
    rw [Cb.abs_no (by simpa using h)]
    simp [Cb.enc]
    omega
theorem Cb.row_len (t : Cb) : t.row.enc.length ≤ 3 * t.enc.length := Nat.le_trans t.row_abs t.abs_len.2
theorem Cb.row_sub {f a : Cb} : f.row.enc.length ≤ (Cb.app f a).row.enc.length ∧ a.row.enc.length ≤ (Cb.app f a).row.enc.length := by
  by_cases h : (Cb.app f a).has0 = true
  · have h1 := f.row_abs
    have h2 := a.row_abs
    have e : (Cb.app f a).row = .app (.app .S f.abs) a.abs := by rw [Cb.row, if_pos h, Cb.abs_app h]
    rw [e]
    simp only [Cb.enc, List.length_cons, List.length_append, List.length_nil]
    omega
  · have e : (Cb.app f a).row = .app f.dec a.dec := by rw [Cb.row, if_neg h]; rfl
    have hh : f.has0 = false ∧ a.has0 = false := by
      have : (f.has0 || a.has0) = false := by simpa [Cb.has0] using h
      simpa using this
    have e1 : f.row = f.dec := by rw [Cb.row, if_neg (by simp [hh.1])]
    have e2 : a.row = a.dec := by rw [Cb.row, if_neg (by simp [hh.2])]
    rw [e, e1, e2]
    simp only [Cb.enc, List.length_cons, List.length_append]
    omega
/-- parts of t in the walk: their rows are not larger than that of t -/
theorem ForC.row {t : Cb} {i : Nat} {us : List Cb} (h : ForC t i us) : ∀ u ∈ us, u.row.enc.length ≤ t.row.enc.length := by
  induction h with
  | start =>
    intro u hu
    rw [List.mem_singleton.mp hu]
    exact Nat.le_refl _
  | leaf _ _ ih => exact fun u hu => ih u (List.mem_cons_of_mem _ hu)
  | app _ ih =>
    intro u hu
    have h0 := ih _ List.mem_cons_self
    rcases List.mem_cons.mp hu with rfl | hu
    · exact Nat.le_trans Cb.row_sub.1 h0
    · rcases List.mem_cons.mp hu with rfl | hu
      · exact Nat.le_trans Cb.row_sub.2 h0
      · exact ih u (List.mem_cons_of_mem _ hu)
theorem Cb.dec_lt {w : Nat} : ∀ {t : Cb}, t.lt w → t.dec.lt w
  | .S, _ => trivial
  | .K, _ => trivial
  | .I, _ => trivial
  | .var n, h => by
    have h : n < w := h
    show n - 1 < w
    omega
  | .app f a, h => ⟨Cb.dec_lt h.1, Cb.dec_lt h.2⟩
theorem Cb.abs_lt {w : Nat} : ∀ {t : Cb}, t.lt w → t.abs.lt w
  | .S, _ => ⟨trivial, trivial⟩
  | .K, _ => ⟨trivial, trivial⟩
  | .I, _ => ⟨trivial, trivial⟩
  | .var n, h => by
    have h : n < w := h
    simp only [Cb.abs]
    split
    · trivial
    · exact ⟨trivial, show n - 1 < w by omega⟩
  | .app f a, h => by
    simp only [Cb.abs]
    split
    · exact ⟨⟨trivial, Cb.abs_lt h.1⟩, Cb.abs_lt h.2⟩
    · exact ⟨trivial, Cb.dec_lt h.1, Cb.dec_lt h.2⟩
theorem Cb.fits_lt {t : Cb} {w : Nat} (h : t.lt w) (hw : w ≤ 1000000) : fitsV t.enc = decide (t.enc.length ≤ 1000) := by
  have : t.enc.all okV = true := List.all_eq_true.mpr fun x hx => (t.nodes x hx).ok hw fun i e => by subst e; exact Cb.small h _ hx
  rw [fitsV, this, Bool.and_true]
/-! ### combinations of terms -/
def Tm.cmb : Tm → Cb
  | .var n => .var n
  | .lam b => b.cmb.abs
  | .app f a => .app f.cmb a.cmb
/-- some part's combination is too large -/
def Tm.cbig : Tm → Bool
  | .var _ => false
  | .lam b => b.cbig || decide (1000 < b.cmb.abs.enc.length)
  | .app f a => f.cbig || a.cbig || decide (1000 < (Cb.app f.cmb a.cmb).enc.length)
theorem Tm.cmb_big {t : Tm} (h : t.cbig = false) : t.cmb.enc.length ≤ 1000 := by
  cases t with
  | var n => simp [Tm.cmb, Cb.enc]
  | lam b =>
    simp only [Tm.cbig, Bool.or_eq_false_iff, decide_eq_false_iff_not, Nat.not_lt] at h
    exact h.2
  | app f a =>
    simp only [Tm.cbig, Bool.or_eq_false_iff, decide_eq_false_iff_not, Nat.not_lt] at h
    exact h.2
theorem Tm.cmb_lt {w : Nat} : ∀ {t : Tm}, t.vars w → t.cmb.lt (w + 1)
  | .var n, h => Nat.lt_succ_of_le h
  | .lam b, h => Cb.abs_lt (Tm.cmb_lt (t := b) h)
  | .app f a, h => ⟨Tm.cmb_lt h.1, Tm.cmb_lt h.2⟩
theorem For.vars {t : Tm} {i w : Nat} {us : List Tm} (h : For t i us) (hv : t.vars w) : ∀ u ∈ us, u.vars w := by
  induction h with
  | start =>
    intro u hu
    rw [List.mem_singleton.mp hu]
    exact hv
  | var _ ih => exact fun u hu => ih u (List.mem_cons_of_mem _ hu)
  | lam _ ih =>
    intro u hu
    have h0 := ih _ List.mem_cons_self
    rcases List.mem_cons.mp hu with rfl | hu
    · exact h0
    · exact ih u (List.mem_cons_of_mem _ hu)
  | app _ ih =>
    intro u hu
    have h0 := ih _ List.mem_cons_self
    rcases List.mem_cons.mp hu with rfl | hu
    · exact h0.1
    · rcases List.mem_cons.mp hu with rfl | hu
      · exact h0.2
      · exact ih u (List.mem_cons_of_mem _ hu)
theorem For.big {t : Tm} {i : Nat} {us : List Tm} (h : For t i us) : ∀ u ∈ us, u.cbig = true → t.cbig = true := by
  induction h with
  | start =>
    intro u hu hb
    rwa [List.mem_singleton.mp hu] at hb
  | var _ ih => exact fun u hu => ih u (List.mem_cons_of_mem _ hu)
  | lam _ ih =>
    intro u hu hb
    rcases List.mem_cons.mp hu with rfl | hu
    · exact ih _ List.mem_cons_self (by simp [Tm.cbig, hb])
    · exact ih u (List.mem_cons_of_mem _ hu) hb
  | app _ ih =>
    intro u hu hb
    have h0 := ih _ List.mem_cons_self
    rcases List.mem_cons.mp hu with rfl | hu
    · exact h0 (by simp [Tm.cbig, hb])
    · rcases List.mem_cons.mp hu with rfl | hu
      · exact h0 (by simp [Tm.cbig, hb])
      · exact ih u (List.mem_cons_of_mem _ hu) hb
end Ly
set_option Elab.async false
set_option linter.all false
set_option maxRecDepth 100000
set_option maxHeartbeats 2000000
/-! Ly: the terms of combinations, and the roads that their steps are -/
namespace Ly
open PySem PySem.Spec PyProof.Rows L2 Evl
/-! ### places in places -/
theorem Tm.sub_cat : ∀ (t : Tm) (p q : List Nat) {i j : Nat} {u v : Tm}, t.sub p = some (i, u) → u.sub q = some (j, v) → ∃ k, t.sub (p ++ q) = some (k, v)
  | t, [], q, i, j, u, v, h, k => by
    rw [Tm.sub_nil] at h
    cases h
    exact ⟨j, k⟩
  | .lam b, c :: p, q, i, j, u, v, h, k => by
    by_cases hc : c = 98
    · subst hc
      simp only [Tm.sub, if_pos] at h
      obtain ⟨⟨j', u'⟩, e1, e2⟩ := Option.map_eq_some_iff.mp h
      cases e2
      obtain ⟨m, hm⟩ := Tm.sub_cat b p q e1 k
      exact ⟨m + 1, by simp [Tm.sub, hm]⟩
    · simp [Tm.sub, hc] at h
  | .app f a, c :: p, q, i, j, u, v, h, k => by
    by_cases hc : c = 102
    · subst hc
      simp only [Tm.sub, if_pos] at h
      obtain ⟨⟨j', u'⟩, e1, e2⟩ := Option.map_eq_some_iff.mp h
      cases e2
      obtain ⟨m, hm⟩ := Tm.sub_cat f p q e1 k
      exact ⟨m + 1, by simp [Tm.sub, hm]⟩
    · by_cases hc2 : c = 97
      · subst hc2
        simp only [Tm.sub, if_neg hc, if_pos] at h
        obtain ⟨⟨j', u'⟩, e1, e2⟩ := Option.map_eq_some_iff.mp h
        cases e2
        obtain ⟨m, hm⟩ := Tm.sub_cat a p q e1 k
        exact ⟨m + (1 + f.enc.length), by simp [Tm.sub, hm]⟩
      · simp [Tm.sub, hc, hc2] at h
  | .var _, c :: p, q, i, j, u, v, h, k => by simp [Tm.sub] at h
theorem Tm.rep_cat (v : Tm) : ∀ (t : Tm) (p q : List Nat) {i : Nat} {u : Tm}, t.sub p = some (i, u) → Tm.rep v t (p ++ q) = Tm.rep (Tm.rep v u q) t p
  | t, [], q, i, u, h => by
    rw [Tm.sub_nil] at h
    cases h
    rw [Tm.rep_nil]
    rfl
  | .lam b, c :: p, q, i, u, h => by
    by_cases hc : c = 98
    · subst hc
      simp only [Tm.sub, if_pos] at h
      obtain ⟨⟨j', u'⟩, e1, e2⟩ := Option.map_eq_some_iff.mp h
      cases e2
      simp [Tm.rep, Tm.rep_cat v b p q e1]
    · simp [Tm.sub, hc] at h
  | .app f a, c :: p, q, i, u, h => by
    by_cases hc : c = 102
    · subst hc
      simp only [Tm.sub, if_pos] at h
      obtain ⟨⟨j', u'⟩, e1, e2⟩ := Option.map_eq_some_iff.mp h
      cases e2
      simp [Tm.rep, Tm.rep_cat v f p q e1]
    · by_cases hc2 : c = 97
      · subst hc2
        simp only [Tm.sub, if_neg hc, if_pos] at h
        obtain ⟨⟨j', u'⟩, e1, e2⟩ := Option.map_eq_some_iff.mp h
        cases e2
        simp [Tm.rep, Tm.rep_cat v a p q e1]
      · simp [Tm.sub, hc, hc2] at h
  | .var _, c :: p, q, i, u, h => by simp [Tm.sub] at h
theorem Tm.sub_rep (v : Tm) : ∀ (t : Tm) (p : List Nat) {i : Nat} {u : Tm}, t.sub p = some (i, u) → ∃ k, (Tm.rep v t p).sub p = some (k, v)
  | t, [], i, u, h => by
    rw [Tm.rep_nil, Tm.sub_nil]
    exact ⟨0, rfl⟩
  | .lam b, c :: p, i, u, h => by
    by_cases hc : c = 98
    · subst hc
      simp only [Tm.sub, if_pos] at h
      obtain ⟨⟨j', u'⟩, e1, e2⟩ := Option.map_eq_some_iff.mp h
      cases e2
      obtain ⟨k, hk⟩ := Tm.sub_rep v b p e1
      exact ⟨k + 1, by simp [Tm.rep, Tm.sub, hk]⟩
    · simp [Tm.sub, hc] at h
  | .app f a, c :: p, i, u, h => by
    by_cases hc : c = 102
    · subst hc
      simp only [Tm.sub, if_pos] at h
      obtain ⟨⟨j', u'⟩, e1, e2⟩ := Option.map_eq_some_iff.mp h
      cases e2
      obtain ⟨k, hk⟩ := Tm.sub_rep v f p e1
      exact ⟨k + 1, by simp [Tm.rep, Tm.sub, hk]⟩
    · by_cases hc2 : c = 97
      · subst hc2
        simp only [Tm.sub, if_neg hc, if_pos] at h
        obtain ⟨⟨j', u'⟩, e1, e2⟩ := Option.map_eq_some_iff.mp h
        cases e2
        obtain ⟨k, hk⟩ := Tm.sub_rep v a p e1
        exact ⟨k + (1 + f.enc.length), by simp [Tm.rep, Tm.sub, hk]⟩
      · simp [Tm.sub, hc, hc2] at h
  | .var _, c :: p, i, u, h => by simp [Tm.sub] at h
theorem Tm.rep_rep (v w : Tm) : ∀ (t : Tm) (p : List Nat) {i : Nat} {u : Tm}, t.sub p = some (i, u) → Tm.rep v (Tm.rep w t p) p = Tm.rep v t p
  | t, [], i, u, h => by rw [Tm.rep_nil, Tm.rep_nil]
  | .lam b, c :: p, i, u, h => by
    by_cases hc : c = 98
    · subst hc
      simp only [Tm.sub, if_pos] at h
      obtain ⟨⟨j', u'⟩, e1, e2⟩ := Option.map_eq_some_iff.mp h
      cases e2
      simp [Tm.rep, Tm.rep_rep v w b p e1]
    · simp [Tm.sub, hc] at h
  | .app f a, c :: p, i, u, h => by
    by_cases hc : c = 102
    · subst hc
      simp only [Tm.sub, if_pos] at h
      obtain ⟨⟨j', u'⟩, e1, e2⟩ := Option.map_eq_some_iff.mp h
      cases e2
      simp [Tm.rep, Tm.rep_rep v w f p e1]
    · by_cases hc2 : c = 97
      · subst hc2
        simp only [Tm.sub, if_neg hc, if_pos] at h
        obtain ⟨⟨j', u'⟩, e1, e2⟩ := Option.map_eq_some_iff.mp h
        cases e2
        simp [Tm.rep, Tm.rep_rep v w a p e1]
      · simp [Tm.sub, hc, hc2] at h
  | .var _, c :: p, i, u, h => by simp [Tm.sub] at h
theorem Tm.rep_self : ∀ (t : Tm) (p : List Nat) {i : Nat} {u : Tm}, t.sub p = some (i, u) → Tm.rep u t p = t
  | t, [], i, u, h => by
    rw [Tm.sub_nil] at h
    cases h
    rw [Tm.rep_nil]
  | .lam b, c :: p, i, u, h => by
    by_cases hc : c = 98
    · subst hc
      simp only [Tm.sub, if_pos] at h
      obtain ⟨⟨j', u'⟩, e1, e2⟩ := Option.map_eq_some_iff.mp h
      cases e2
      simp [Tm.rep, Tm.rep_self b p e1]
    · simp [Tm.sub, hc] at h
  | .app f a, c :: p, i, u, h => by
    by_cases hc : c = 102
    · subst hc
      simp only [Tm.sub, if_pos] at h
      obtain ⟨⟨j', u'⟩, e1, e2⟩ := Option.map_eq_some_iff.mp h
      cases e2
      simp [Tm.rep, Tm.rep_self f p e1]
    · by_cases hc2 : c = 97
      · subst hc2
        simp only [Tm.sub, if_neg hc, if_pos] at h
        obtain ⟨⟨j', u'⟩, e1, e2⟩ := Option.map_eq_some_iff.mp h
        cases e2
        simp [Tm.rep, Tm.rep_self a p e1]
      · simp [Tm.sub, hc, hc2] at h
  | .var _, c :: p, i, u, h => by simp [Tm.sub] at h
/-- a road of a part is one of the whole -/
theorem Road.inner {u : Tm} {r : List (List Nat)} (h : Road u r) : ∀ {t : Tm} {p : List Nat} {i : Nat}, t.sub p = some (i, u) → Road t (r.map (p ++ ·)) ∧ t.along (r.map (p ++ ·)) = Tm.rep (u.along r) t p := by
  induction h with
  | nil =>
    intro t p i hs
    exact ⟨.nil, (Tm.rep_self t p hs).symm⟩
  | cons hq hr ih =>
    rename_i u q r
    intro t p i hs
    obtain ⟨j, b, c, hred⟩ := Tm.isRed_iff.mp hq
    obtain ⟨k, hk⟩ := Tm.sub_cat t p q hs hred
    have hred2 : t.Red (p ++ q) k b c := hk
    have e1 : t.step (p ++ q) = Tm.rep (u.step q) t p := by
      rw [Tm.step_red hred2, Tm.step_red hred, Tm.rep_cat _ t p q hs]
    obtain ⟨m, hm⟩ := Tm.sub_rep (u.step q) t p hs
    obtain ⟨h1, h2⟩ := ih hm
    rw [← e1] at h1 h2
    refine ⟨.cons (Tm.isRed_iff.mpr ⟨k, b, c, hred2⟩) h1, ?_⟩
    show (t.step (p ++ q)).along (r.map (p ++ ·)) = _
    rw [h2, e1, Tm.rep_rep _ _ t p hs]
    rfl
theorem Road.no_none {t : Tm} {r : List (List Nat)} (h : Road t r) : Tm.pass t r ≠ .none := by
  induction h with
  | nil => simp [Tm.pass]
  | cons hp hr ih =>
    rename_i t p r
    intro e
    have e : (if t.isRed p = false then Res.none else if fitsV (t.step p).enc = false then Res.large else Res.cons t (Tm.pass (t.step p) r)) = Res.none := e
    rw [if_neg (by rw [hp]; simp)] at e
    split at e
    · cases e
    · cases hq : Tm.pass (t.step p) r with
      | ok ts => rw [hq] at e; cases e
      | none => exact ih hq
      | large => rw [hq] at e; cases e
theorem Pass.along {t u : Tm} {r : List (List Nat)} {ts : List Tm} (h : Pass t r ts u) : t.along r = u ∧ ∀ i, i < r.length → fitsV (t.along (r.take (i + 1))).enc = true := by
  induction h with
  | nil => exact ⟨rfl, fun i hi => by simp at hi⟩
  | snoc h hp hf ih =>
    rename_i r ts u p
    obtain ⟨h1, h2⟩ := ih
    have e : t.along (r ++ [p]) = u.step p := by rw [Tm.along_app, h1]; rfl
    refine ⟨e, fun i hi => ?_⟩
    by_cases hl : i < r.length
    · rw [List.take_append_of_le_length (by omega)]
      exact h2 i hl
    · have : i = r.length := by simp at hi; omega
      subst this
      rw [List.take_of_length_le (by simp), e]
      exact hf
/-! ### the term of a combination -/
def tmS : Tm := .lam (.lam (.lam (.app (.app (.var 2) (.var 0)) (.app (.var 1) (.var 0)))))
def tmK : Tm := .lam (.lam (.var 1))
def tmI : Tm := .lam (.var 0)
def Cb.tm : Cb → Tm
  | .S => tmS
  | .K => tmK
  | .I => tmI
  | .var n => .var n
  | .app f a => .app f.tm a.tm
theorem Cb.tm_enc : ∀ t : Cb, t.tm.enc = (t.enc.map tmN).flatten
  | .S => by decide +kernel
  | .K => by decide +kernel
  | .I => by decide +kernel
  | .var n => by simp [Cb.tm, Cb.enc, tmN_int, Tm.enc]
  | .app f a => by
    simp only [Cb.tm, Tm.enc, Cb.enc, List.map_cons, List.flatten_cons, tmN_A, List.map_append, List.flatten_append, Cb.tm_enc f, Cb.tm_enc a]
    rfl
theorem Cb.tm_sub : ∀ (t : Cb) (p : List Nat) {i : Nat} {u : Cb}, t.sub p = some (i, u) → ∃ k, t.tm.sub p = some (k, u.tm)
  | t, [], i, u, h => by
    rw [Cb.sub_nil] at h
    cases h
    exact ⟨0, Tm.sub_nil _⟩
  | .app f a, c :: p, i, u, h => by
    by_cases hc : c = 102
    · subst hc
      simp only [Cb.sub, if_pos] at h
      obtain ⟨⟨j', u'⟩, e1, e2⟩ := Option.map_eq_some_iff.mp h
      cases e2
      obtain ⟨k, hk⟩ := Cb.tm_sub f p e1
      exact ⟨k + 1, by simp [Cb.tm, Tm.sub, hk]⟩
    · by_cases hc2 : c = 97
      · subst hc2
        simp only [Cb.sub, if_neg hc, if_pos] at h
        obtain ⟨⟨j', u'⟩, e1, e2⟩ := Option.map_eq_some_iff.mp h
        cases e2
        obtain ⟨k, hk⟩ := Cb.tm_sub a p e1
        exact ⟨k + (1 + f.tm.enc.length), by simp [Cb.tm, Tm.sub, hk]⟩
      · simp [Cb.sub, hc, hc2] at h
  | .S, c :: p, i, u, h => by simp [Cb.sub] at h
  | .K, c :: p, i, u, h => by simp [Cb.sub] at h
  | .I, c :: p, i, u, h => by simp [Cb.sub] at h
  | .var _, c :: p, i, u, h => by simp [Cb.sub] at h
theorem Cb.tm_rep (v : Cb) : ∀ (t : Cb) (p : List Nat) {i : Nat} {u : Cb}, t.sub p = some (i, u) → (Cb.rep v t p).tm = Tm.rep v.tm t.tm p
  | t, [], i, u, h => by rw [Cb.rep_nil, Tm.rep_nil]
  | .app f a, c :: p, i, u, h => by
    by_cases hc : c = 102
    · subst hc
      simp only [Cb.sub, if_pos] at h
      obtain ⟨⟨j', u'⟩, e1, e2⟩ := Option.map_eq_some_iff.mp h
      cases e2
      simp [Cb.rep, Cb.tm, Tm.rep, Cb.tm_rep v f p e1]
    · by_cases hc2 : c = 97
      · subst hc2
        simp only [Cb.sub, if_neg hc, if_pos] at h
        obtain ⟨⟨j', u'⟩, e1, e2⟩ := Option.map_eq_some_iff.mp h
        cases e2
        simp [Cb.rep, Cb.tm, Tm.rep, Cb.tm_rep v a p e1]
      · simp [Cb.sub, hc, hc2] at h
  | .S, c :: p, i, u, h => by simp [Cb.sub] at h
  | .K, c :: p, i, u, h => by simp [Cb.sub] at h
  | .I, c :: p, i, u, h => by simp [Cb.sub] at h
  | .var _, c :: p, i, u, h => by simp [Cb.sub] at h
/-- the road of a redex with so many arguments -/
def rdN (m : Nat) : List (List Nat) := (List.range m).map fun k => List.replicate (m - 1 - k) 102
theorem isRed_top (b c : Tm) : (Tm.app (.lam b) c).isRed [] = true := Tm.isRed_iff.mpr ⟨0, b, c, Tm.sub_nil _⟩
theorem step_top (b c : Tm) : (Tm.app (.lam b) c).step [] = Tm.put c 0 b := by
  rw [Tm.step_red (i := 0) (b := b) (u := c) (Tm.sub_nil _), Tm.rep_nil]
theorem red_f {x y b c : Tm} {p : List Nat} {i : Nat} (h : x.Red p i b c) : (Tm.app x y).Red (102 :: p) (i + 1) b c := by
  have h : x.sub p = some (i, .app (.lam b) c) := h
  show (Tm.app x y).sub (102 :: p) = _
  simp [Tm.sub, h]
theorem isRed_f {x y : Tm} {p : List Nat} (h : x.isRed p = true) : (Tm.app x y).isRed (102 :: p) = true := by
  obtain ⟨i, b, c, h⟩ := Tm.isRed_iff.mp h
  exact Tm.isRed_iff.mpr ⟨_, _, _, red_f h⟩
theorem step_f {x y : Tm} {p : List Nat} (h : x.isRed p = true) : (Tm.app x y).step (102 :: p) = .app (x.step p) y := by
  obtain ⟨i, b, c, h⟩ := Tm.isRed_iff.mp h
  rw [Tm.step_red (red_f h), Tm.step_red h]
  simp [Tm.rep]
theorem putS1 (a : Tm) : Tm.put a 0 (.lam (.lam (.app (.app (.var 2) (.var 0)) (.app (.var 1) (.var 0))))) = .lam (.lam (.app (.app (a.vmap (lif 2) 0) (.var 0)) (.app (.var 1) (.var 0)))) := by simp [Tm.put]
theorem putS2 (a b : Tm) : Tm.put b 0 (.lam (.app (.app (a.vmap (lif 2) 0) (.var 0)) (.app (.var 1) (.var 0)))) = .lam (.app (.app (a.vmap (lif 1) 0) (.var 0)) (.app (b.vmap (lif 1) 0) (.var 0))) := by
  have h := Tm.put_lif b 1 a 0
  simp only [Nat.zero_add] at h
  simp [Tm.put, h]
theorem putS3 (a b c : Tm) : Tm.put c 0 (.app (.app (a.vmap (lif 1) 0) (.var 0)) (.app (b.vmap (lif 1) 0) (.var 0))) = .app (.app a c) (.app b c) := by
  simp [Tm.put, Tm.put_lift, Tm.lif_zero]
theorem putK1 (a : Tm) : Tm.put a 0 (.lam (.var 1)) = .lam (a.vmap (lif 1) 0) := by simp [Tm.put]
theorem putI (a : Tm) : Tm.put a 0 (.var 0) = a := by simp [Tm.put, Tm.lif_zero]
/-- a redex of a combination: its term goes the road -/
theorem Cb.red_road {u v : Cb} (h : u.red = some v) : Road u.tm (rdN u.spine.2.length) ∧ u.tm.along (rdN u.spine.2.length) = v.tm := by
  rw [Cb.red_sp] at h
  have key : ∀ w : Cb, w.spine = u.spine → w = u := fun w hw => by
    have h1 := w.spine_enc
    have h2 := u.spine_enc
    unfold SpC at h1 h2
    rw [hw, ← h2] at h1
    exact Cb.enc_eq h1
  rcases redSp_some h with ⟨h1, a, h2, rfl⟩ | ⟨h1, a, b, h2, rfl⟩ | ⟨h1, a, b, c, h2, rfl⟩
  · have e : Cb.app .I v = u := key _ (by rw [show u.spine = (u.spine.1, u.spine.2) from rfl, h1, h2]; rfl)
    rw [h2, ← e]
    have e2 : rdN [v].length = [[]] := rfl
    rw [e2]
    show Road (.app (.lam (.var 0)) v.tm) _ ∧ (Tm.app (.lam (.var 0)) v.tm).along _ = _
    refine ⟨.cons (isRed_top _ _) .nil, ?_⟩
    show (Tm.app (.lam (.var 0)) v.tm).step [] = _
    rw [step_top, putI]
  · have e : Cb.app (.app .K v) b = u := key _ (by rw [show u.spine = (u.spine.1, u.spine.2) from rfl, h1, h2]; rfl)
    rw [h2, ← e]
    have e2 : rdN [v, b].length = [[102], []] := rfl
    rw [e2]
    show Road (.app (.app (.lam (.lam (.var 1))) v.tm) b.tm) _ ∧ (Tm.app (.app (.lam (.lam (.var 1))) v.tm) b.tm).along _ = _
    have s1 : (Tm.app (.app (.lam (.lam (.var 1))) v.tm) b.tm).step [102] = .app (.lam (v.tm.vmap (lif 1) 0)) b.tm := by rw [step_f (isRed_top _ _), step_top, putK1]
    refine ⟨.cons (isRed_f (isRed_top _ _)) (by rw [s1]; exact .cons (isRed_top _ _) .nil), ?_⟩
    show ((Tm.app (.app (.lam (.lam (.var 1))) v.tm) b.tm).step [102]).step [] = _
    rw [s1, step_top, Tm.put_lift]
  · have e : Cb.app (.app (.app .S a) b) c = u := key _ (by rw [show u.spine = (u.spine.1, u.spine.2) from rfl, h1, h2]; rfl)
    rw [h2, ← e]
    have e2 : rdN [a, b, c].length = [[102, 102], [102], []] := rfl
    rw [e2]
    show Road (.app (.app (.app tmS a.tm) b.tm) c.tm) _ ∧ (Tm.app (.app (.app tmS a.tm) b.tm) c.tm).along _ = .app (.app a.tm c.tm) (.app b.tm c.tm)
    have s1 : (Tm.app (.app (.app tmS a.tm) b.tm) c.tm).step [102, 102] = .app (.app (.lam (.lam (.app (.app (a.tm.vmap (lif 2) 0) (.var 0)) (.app (.var 1) (.var 0))))) b.tm) c.tm := by
      unfold tmS
      rw [step_f (isRed_f (isRed_top _ _)), step_f (isRed_top _ _), step_top, putS1]
    have s2 : (Tm.app (.app (.lam (.lam (.app (.app (a.tm.vmap (lif 2) 0) (.var 0)) (.app (.var 1) (.var 0))))) b.tm) c.tm).step [102] = .app (.lam (.app (.app (a.tm.vmap (lif 1) 0) (.var 0)) (.app (b.tm.vmap (lif 1) 0) (.var 0)))) c.tm := by
      rw [step_f (isRed_top _ _), step_top, putS2]
    refine ⟨.cons (isRed_f (isRed_f (isRed_top _ _))) (by rw [s1]; exact .cons (isRed_f (isRed_top _ _)) (by rw [s2]; exact .cons (isRed_top _ _) .nil)), ?_⟩
    show (((Tm.app (.app (.app tmS a.tm) b.tm) c.tm).step [102, 102]).step [102]).step [] = _
    rw [s1, s2, step_top, putS3]
/-- the step of a combination is a road of its term -/
theorem Cb.step_road {t u v : Cb} {p : List Nat} {i : Nat} (hs : t.sub p = some (i, u)) (h : u.red = some v) :
    Road t.tm ((rdN u.spine.2.length).map (p ++ ·)) ∧ t.tm.along ((rdN u.spine.2.length).map (p ++ ·)) = (Cb.rep v t p).tm := by
  obtain ⟨k, hk⟩ := Cb.tm_sub t p hs
  obtain ⟨h1, h2⟩ := Cb.red_road h
  obtain ⟨h3, h4⟩ := h1.inner hk
  exact ⟨h3, by rw [h4, h2, Cb.tm_rep v t p hs]⟩
end Ly
set_option Elab.async false
set_option linter.all false
set_option maxRecDepth 100000
set_option maxHeartbeats 2000000
/-! Ly: the term of a term's combination leads to the term; normal ends are equal; variables -/
namespace Ly
open PySem PySem.Spec PyProof.Rows L2 Evl
/-! ### normal ends -/
def Tm.nrm : Tm → Bool
  | .var _ => true
  | .lam b => b.nrm
  | .app f a => !f.isLam && (f.nrm && a.nrm)
theorem reds_nrm : ∀ (t : Tm) {q : List Nat}, t.reds q = [] → t.nrm = true
  | .var _, _, _ => rfl
  | .lam b, q, h => reds_nrm b (q := q ++ [98]) h
  | .app f a, q, h => by
    simp only [Tm.reds] at h
    obtain ⟨h1, h2⟩ := List.append_eq_nil_iff.mp h
    obtain ⟨h3, h4⟩ := List.append_eq_nil_iff.mp h2
    have hf : f.isLam = false := by
      cases hl : f.isLam with
      | false => rfl
      | true => rw [hl] at h1; simp at h1
    simp [Tm.nrm, hf, reds_nrm f h3, reds_nrm a h4]
theorem nrm_par {a c : Tm} (h : Par a c) : a.nrm = true → c = a := by
  induction h with
  | var n => exact fun _ => rfl
  | lam _ ih => exact fun h => by rw [ih h]
  | app _ _ i1 i2 =>
    intro h
    simp only [Tm.nrm, Bool.and_eq_true] at h
    rw [i1 h.2.1, i2 h.2.2]
  | beta _ _ _ _ =>
    intro h
    simp [Tm.nrm, Tm.isLam] at h
theorem nrm_star {a c : Tm} (h : Star a c) (n : a.nrm = true) : c = a := by
  induction h with
  | refl => rfl
  | tail _ p ih =>
    subst ih
    exact nrm_par p n
theorem norm_uniq {x a b : Tm} (h : Star x a) (k : Star x b) (ha : a.reds [] = []) (hb : b.reds [] = []) : a = b := by
  obtain ⟨c, h1, h2⟩ := meets h k
  rw [← nrm_star h1 (reds_nrm a ha), nrm_star h2 (reds_nrm b hb)]
theorem norm_uniq2 {x y a b : Tm} (e : Star x y) (h : Star x a) (k : Star y b) (ha : a.reds [] = []) (hb : b.reds [] = []) : a = b := norm_uniq h (e.trans k) ha hb
/-! ### steps within -/
theorem Star.lam {b c : Tm} (h : Star b c) : Star (.lam b) (.lam c) := by
  induction h with
  | refl => exact .refl
  | tail _ p ih => exact .tail ih (.lam p)
theorem Star.appL {f g a : Tm} (h : Star f g) : Star (.app f a) (.app g a) := by
  induction h with
  | refl => exact .refl
  | tail _ p ih => exact .tail ih (.app p (Par.refl a))
theorem Star.appR {f a b : Tm} (h : Star a b) : Star (.app f a) (.app f b) := by
  induction h with
  | refl => exact .refl
  | tail _ p ih => exact .tail ih (.app (Par.refl f) p)
theorem Star.app {f g a b : Tm} (h : Star f g) (k : Star a b) : Star (.app f a) (.app g b) := h.appL.trans k.appR
theorem Star.beta (b u : Tm) : Star (.app (.lam b) u) (Tm.put u 0 b) := .tail .refl (.beta (Par.refl b) (Par.refl u))
/-! ### abstraction, as terms -/
theorem put_var0 : ∀ (t : Tm) (d : Nat), Tm.put (.var 0) d (t.vmap (lif 1) (d + 1)) = t
  | .var n, d => by
    simp only [Tm.vmap, lif]
    by_cases h : d + 1 ≤ n
    · rw [if_pos h]
      simp only [Tm.put]
      rw [if_neg (by omega), if_neg (by omega)]
      simp
    · rw [if_neg h]
      simp only [Tm.put]
      by_cases h2 : n < d
      · rw [if_pos h2]
      · have e : n = d := by omega
        subst e
        simp [Tm.vmap, lif]
  | .lam b, d => by simp only [Tm.vmap, Tm.put, put_var0 b (d + 1)]
  | .app f a, d => by simp only [Tm.vmap, Tm.put, put_var0 f d, put_var0 a d]
theorem dec_lift : ∀ {c : Cb}, c.has0 = false → c.dec.tm.vmap (lif 1) 0 = c.tm
  | .S, _ => rfl
  | .K, _ => rfl
  | .I, _ => rfl
  | .var n, h => by
    have h2 : n ≠ 0 := by simpa [Cb.has0] using h
    simp only [Cb.dec, Cb.tm, Tm.vmap, lif, if_pos (Nat.zero_le _)]
    congr 1
    omega
  | .app f a, h => by
    simp only [Cb.has0, Bool.or_eq_false_iff] at h
    simp only [Cb.dec, Cb.tm, Tm.vmap, dec_lift h.1, dec_lift h.2]
theorem star_K (a : Tm) : Star (.app tmK a) (.lam (a.vmap (lif 1) 0)) := by
  have := Star.beta (.lam (.var 1)) a
  rw [putK1] at this
  exact this
theorem star_S (a b : Tm) : Star (.app (.app tmS (.lam a)) (.lam b)) (.lam (.app a b)) := by
  have h1 := Star.beta (.lam (.lam (.app (.app (.var 2) (.var 0)) (.app (.var 1) (.var 0))))) (.lam a)
  rw [putS1] at h1
  have h2 := Star.beta (.lam (.app (.app ((Tm.lam a).vmap (lif 2) 0) (.var 0)) (.app (.var 1) (.var 0)))) (.lam b)
  rw [putS2] at h2
  have h3 : ∀ c : Tm, Star (.app ((Tm.lam c).vmap (lif 1) 0) (.var 0)) c := fun c => by
    have := Star.beta (c.vmap (lif 1) 1) (.var 0)
    rw [put_var0] at this
    exact this
  exact (h1.appL.trans h2).trans (Star.lam (Star.app (h3 a) (h3 b)))
theorem abs_star : ∀ c : Cb, Star c.abs.tm (.lam c.tm)
  | .S => by
    have := star_K tmS
    exact this
  | .K => by
    have := star_K tmK
    exact this
  | .I => by
    have := star_K tmI
    exact this
  | .var n => by
    by_cases h : n = 0
    · subst h
      exact .refl
    · have hh : (Cb.var n).has0 = false := by simp [Cb.has0, h]
      rw [Cb.abs_no hh]
      have := star_K (Cb.var n).dec.tm
      rw [dec_lift hh] at this
      exact this
  | .app f a => by
    cases hh : (Cb.app f a).has0 with
    | false =>
      rw [Cb.abs_no hh]
      have := star_K (Cb.app f a).dec.tm
      rw [dec_lift hh] at this
      exact this
    | true =>
      rw [Cb.abs_app hh]
      exact (Star.app (Star.app .refl (abs_star f)) (abs_star a)).trans (star_S f.tm a.tm)
theorem cmb_star : ∀ t : Tm, Star t.cmb.tm t
  | .var _ => .refl
  | .lam b => (abs_star b.cmb).trans (Star.lam (cmb_star b))
  | .app f a => Star.app (cmb_star f) (cmb_star a)
/-- a value for the variable 0 -/
def Cb.vput (v : Cb) : Cb → Cb
  | .var n => if n = 0 then v else .var (n - 1)
  | .app f a => .app (Cb.vput v f) (Cb.vput v a)
  | t => t
theorem vput_enc (v : Cb) : ∀ t : Cb, (Cb.vput v t).enc = (t.enc.map (vpN v.enc)).flatten
  | .S => by simp [Cb.vput, Cb.enc, vpN]
  | .K => by simp [Cb.vput, Cb.enc, vpN]
  | .I => by simp [Cb.vput, Cb.enc, vpN]
  | .var n => by
    by_cases h : n = 0
    · subst h
      simp [Cb.vput, Cb.enc, vpN]
    · have e : ((n - 1 : Nat) : Int) = (n : Int) - 1 := by omega
      simp only [Cb.vput, if_neg h, Cb.enc, List.map_cons, List.map_nil, List.flatten_cons, List.flatten_nil, List.append_nil]
      rw [vpN_p (by omega), e]
  | .app f a => by
    simp only [Cb.vput, Cb.enc, List.map_cons, List.flatten_cons, List.map_append, List.flatten_append, vput_enc v f, vput_enc v a]
    rfl
theorem vput_tm (v : Cb) : ∀ t : Cb, (Cb.vput v t).tm = Tm.put v.tm 0 t.tm
  | .S => rfl
  | .K => rfl
  | .I => rfl
  | .var n => by
    by_cases h : n = 0
    · subst h
      simp [Cb.vput, Cb.tm, Tm.put, Tm.lif_zero]
    · simp [Cb.vput, Cb.tm, Tm.put, h]
  | .app f a => by simp [Cb.vput, Cb.tm, Tm.put, vput_tm v f, vput_tm v a]
theorem vput_star (n v : Cb) : Star (Cb.app n.abs v).tm (Cb.vput v n).tm := by
  rw [vput_tm]
  exact (Star.appL (abs_star n)).trans (Star.beta n.tm v.tm)
/-! ### variables -/
theorem abs_int : ∀ (c : Cb) (j : Nat), V.int (j : Int) ∈ c.abs.enc ↔ V.int ((j + 1 : Nat) : Int) ∈ c.enc
  | .S, j => by simp [Cb.abs, Cb.enc]
  | .K, j => by simp [Cb.abs, Cb.enc]
  | .I, j => by simp [Cb.abs, Cb.enc]
  | .var n, j => by
    by_cases h : n = 0
    · subst h
      simp [Cb.abs, Cb.enc]
      omega
    · simp [Cb.abs, Cb.enc, h]
      omega
  | .app f a, j => by
    have dec : ∀ {c : Cb}, c.has0 = false → (V.int (j : Int) ∈ c.dec.enc ↔ V.int ((j + 1 : Nat) : Int) ∈ c.enc) := fun {c} h => by
      have := abs_int' c j h
      exact this
    cases hh : (Cb.app f a).has0 with
    | false =>
      rw [Cb.abs_no hh]
      have := dec hh
      have e : (Cb.app .K (Cb.app f a).dec).enc = .str "app" :: .str "K" :: (Cb.app f a).dec.enc := rfl
      rw [e]
      constructor
      · intro h
        rcases List.mem_cons.mp h with h | h
        · cases h
        · rcases List.mem_cons.mp h with h | h
          · cases h
          · exact this.mp h
      · exact fun h => List.mem_cons_of_mem _ (List.mem_cons_of_mem _ (this.mpr h))
    | true =>
      rw [Cb.abs_app hh]
      simp only [Cb.enc, List.mem_cons, List.mem_append, List.not_mem_nil, or_false, abs_int f j, abs_int a j]
      constructor
      · rintro (h | (h | h | h) | h)
        · cases h
        · cases h
        · cases h
        · exact .inr (.inl h)
        · exact .inr (.inr h)
      · rintro (h | h | h)
        · cases h
        · exact .inr (.inl (.inr (.inr h)))
        · exact .inr (.inr h)
where abs_int' : ∀ (c : Cb) (j : Nat), c.has0 = false → (V.int (j : Int) ∈ c.dec.enc ↔ V.int ((j + 1 : Nat) : Int) ∈ c.enc)
  | .S, j, _ => by simp [Cb.dec, Cb.enc]
  | .K, j, _ => by simp [Cb.dec, Cb.enc]
  | .I, j, _ => by simp [Cb.dec, Cb.enc]
  | .var n, j, h => by
    have h2 : n ≠ 0 := by simpa [Cb.has0] using h
    simp [Cb.dec, Cb.enc]
    omega
  | .app f a, j, h => by
    simp only [Cb.has0, Bool.or_eq_false_iff] at h
    simp [Cb.dec, Cb.enc, abs_int' f j h.1, abs_int' a j h.2]
theorem fr_succ : ∀ (t : Tm) (d j : Nat), t.fr (d + 1) j ↔ t.fr d (j + 1)
  | .var n, d, j => by simp only [Tm.fr]; omega
  | .lam b, d, j => fr_succ b (d + 1) j
  | .app f a, d, j => by simp only [Tm.fr, fr_succ f d j, fr_succ a d j]
theorem cmb_fr : ∀ (t : Tm) (j : Nat), V.int (j : Int) ∈ t.cmb.enc ↔ t.fr 0 j
  | .var n, j => by simp [Tm.cmb, Cb.enc, Tm.fr]; omega
  | .lam b, j => by
    show V.int (j : Int) ∈ b.cmb.abs.enc ↔ b.fr 1 j
    rw [abs_int, cmb_fr b (j + 1), fr_succ b 0 j]
  | .app f a, j => by simp [Tm.cmb, Cb.enc, Tm.fr, cmb_fr f j, cmb_fr a j]
end Ly
set_option Elab.async false
set_option linter.all false
set_option maxRecDepth 100000
set_option maxHeartbeats 8000000
namespace Ly
open PySem PySem.Spec PyProof.Rows L2 Evl
local macro_rules | `(tactic| walk_at "ne") => `(tactic| first
  | assumption
  | ((refine' Ne.symm ?hq); (case hq => assumption))
  | ((refine' ne_of_none ?nh1 ?nh2); (case nh2 => assumption); (case nh1 => walk_at "hp"))
  | ((refine' Ne.symm (ne_of_none ?nh1 ?nh2)); (case nh2 => assumption); (case nh1 => walk_at "hp")))
local macro_rules | `(tactic| walk_at "hp") => `(tactic| first
  | assumption
  | exact upd_same
  | ((refine' SqL.of ?hq); (case hq => walk_at "hp"))
  | ((refine' SqT.of ?hq); (case hq => walk_at "hp"))
  | ((refine' (upd_ne ?hne).trans ?hrest); (case hne => walk_at "ne"); (case hrest => walk_at "hp"))
  | ((refine' ly_at ?hex ?hh); (case hex => assumption); (case hh => walk_at "hp"))
  | ((refine' ly_atF ?hex ?hnn ?hh); (case hex => assumption); (case hh => walk_at "hp"); (case hnn => walk_at "ne"))
  | ((refine' ex_t ?hex ?hh); (case hh => assumption); (case hex => walk_at "ex"))
  | ((refine' ex_l ?hex ?hh); (case hh => assumption); (case hex => walk_at "ex")))
local macro_rules | `(tactic| walk_at "ex") => `(tactic| first
  | assumption
  | exact Ex.refl _
  | ((refine' ex_new ?xa ?xb); (case xb => assumption); (case xa => walk_at "ex"))
  | ((refine' ex_upd ?xa ?xb); (case xb => walk_at "free"); (case xa => walk_at "ex"))
  | ((refine' Ex.trans ?xa ?xb); (case xb => assumption); (case xa => walk_at "ex")))
local macro_rules | `(tactic| walk_at "free") => `(tactic| first
  | assumption
  | ((refine' fresh_back ?xa ?xb); (case xb => assumption); (case xa => walk_at "ex")))
local macro_rules | `(tactic| walk_at "fr") => `(tactic| first
  | assumption
  | exact Fr.refl _ _
  | ((refine' Fr.own ?hq); (case hq => walk_at "fr"))
  | ((refine' Fr.new ?xa ?xb); (case xb => assumption); (case xa => walk_at "fr"))
  | ((refine' Fr.mut ?xa ?xb); (case xb => assumption); (case xa => walk_at "fr"))
  | ((refine' Fr.trans ?xa ?xb); (case xb => assumption); (case xa => walk_at "fr"))
  | ((refine' Fr.trans ?xa (Fr.ex ?xb)); (case xb => assumption); (case xa => walk_at "fr")))
local macro_rules | `(tactic| walk_at "go1") => `(tactic| first
  | (with_reducible refine' w_seq ?_)
  | (with_reducible refine' w_asg ?_)
  | (with_reducible refine' w_ret ?_)
  | (with_reducible refine' w_drop ?_)
  | (with_reducible refine' w_if ?_)
  | (with_reducible refine' w_next ?_)
  | (with_reducible refine' w_name ?_)
  | (with_reducible refine' w_sub ?_)
  | ((with_reducible refine' w_var ?hv ?_); (case hv => exact rfl))
  | (with_reducible refine' w_c ?_)
  | (with_reducible refine' w_op ?_)
  | (with_reducible refine' w_un ?_)
  | (with_reducible refine' w_ch ?_)
  | (with_reducible refine' w_I0 ?_)
  | ((with_reducible refine' w_I ?hc ?_); (case hc => first | (exact ly_mulL (by decide) (by decide)) | (exact ly_mulR (by decide) (by decide)) | (exact ly_mulL (by omega) (by omega)) | (show (_ : Int) ≠ 0; decide) | (show (_ : Int) ≠ 0; omega) | (exact ⟨by decide, by decide⟩) | (exact ⟨by omega, by omega⟩)))
  | (with_reducible refine' w_U ?_)
  | ((with_reducible refine' w_eq ?hs ?_); (case hs => exact rfl))
  | ((with_reducible refine' w_ne ?hs ?_); (case hs => exact rfl))
  | (with_reducible refine' w_isB ?_)
  | (with_reducible refine' w_notB ?_)
  | (with_reducible refine' w_nil ?_)
  | (with_reducible refine' w_cons ?_)
  | (with_reducible refine' w_tup ?_)
  | (with_reducible refine' w_lst ?_)
  | (with_reducible refine' w_cb ?_)
  | (with_reducible refine' w_call ?_)
  | (with_reducible refine' w_bm ?_)
  | (with_reducible refine' w_bm0 ?_)
  | ((with_reducible refine' w_app ?hh ?hz ?_); (case hh => walk_at "hp"); (case hz => first | exact ly_lt (by omega) | exact ly_lt (by simp only [List.length_append, List.length_map, List.length_cons, List.length_nil]; omega)))
  | ((with_reducible refine' w_popA ?hh ?_); (case hh => walk_at "hp"))
  | ((with_reducible refine' w_ext ?hh ?hh2 ?hz ?_); (case hh => walk_at "hp"); (case hh2 => walk_at "hp"))
  | ((with_reducible refine' w_ixL ?hh ?ha ?_); (case hh => walk_at "hp"); (case ha => first | exact rfl | exact at_map (by omega) | exact atI_last _ _ | ((refine' at_of ?ae ?ah); (case ah => assumption); (case ae => omega))))
  | ((with_reducible refine' w_ixT ?hh ?ha ?_); (case hh => walk_at "hp"); (case ha => first | exact rfl | exact at_map (by omega) | exact atI_last _ _ | ((refine' at_of ?ae ?ah); (case ah => assumption); (case ae => omega))))
  | ((with_reducible refine' w_cat ?hh ?hh2 ?hz ?_); (case hh => walk_at "hp"); (case hh2 => walk_at "hp"))
  | ((with_reducible refine' w_setL ?hh ?ha ?_); (case hh => walk_at "hp"); (case ha => exact rfl))
  | (with_reducible refine' w_test ?_)
  | (with_reducible refine' w_tB ?_)
  | (with_reducible refine' w_bl ?_)
  | (with_reducible refine' w_and ?_)
  | (with_reducible refine' w_or ?_)
  | (with_reducible refine' w_not ?_)
  | (with_reducible refine' w_andV ?_)
  | (with_reducible refine' w_orV ?_)
  | (with_reducible refine' w_notV ?_)
  | (with_reducible refine' w_ifE ?_)
  | (with_reducible refine' w_for ?_)
  | ((with_reducible refine' w_nin ?hh ?_); (case hh => walk_at "hp"))
  | ((with_reducible refine' w_sorted ?hh ?_); (case hh => walk_at "hp"))
  | (with_reducible refine' w_tsadd ?_)
  | ((with_reducible refine' w_tsadd1 ?hh ?_); (case hh => walk_at "hp"))
  | ((with_reducible refine' w_sadd ?hh ?hr ?_); (case hh => walk_at "hp"); (case hr => omega))
  | (with_reducible refine' w_iZ ?_)
  | ((with_reducible refine' w_iZ1 ?hh ?hh2 ?_); (case hh => walk_at "hp"); (case hh2 => walk_at "hp"))
  | (with_reducible refine' w_iS ?_)
  | (with_reducible refine' w_iS1 ?_)
  | ((with_reducible refine' w_gtup ?hh ?hn ?_); (case hh => walk_at "hp"); (case hn => exact rfl))
  | (with_reducible refine' w_gcons ?_)
  | (with_reducible refine' w_gnil ?_)
  | (with_reducible refine' w_js ?_)
  | (with_reducible refine' w_jsn ?_)
  | ((with_reducible refine' w_js1 ?hl ?_); (case hl => decide +kernel))
  | (with_reducible refine' w_fmt ?_)
  | ((with_reducible refine' w_fmt1 ?hl ?_); (case hl => decide +kernel))
  | (with_reducible refine' w_callS ?_)
  | ((with_reducible refine' w_truL ?hh ?_); (case hh => walk_at "hp"))
  | (with_reducible refine' w_lc ?_)
  | (with_reducible refine' w_yes ?_)
  | ((with_reducible refine' w_wipe ?he ?_); (case he => exact rfl))
  | (with_reducible refine' w_iL ?_)
  | (with_reducible refine' w_iT ?_)
  | (with_reducible refine' w_iR ?_)
  | ((with_reducible refine' w_iL1 ?hh ?_); (case hh => walk_at "hp"))
  | ((with_reducible refine' w_iT1 ?hh ?_); (case hh => walk_at "hp"))
  | ((with_reducible refine' w_iR1 ?h1 ?h2 ?_); (case h1 => omega); (case h2 => omega))
  | ((with_reducible refine' w_aug ?hv ?_); (case hv => exact rfl))
  | (with_reducible refine' w_ipI ?_)
  | ((with_reducible refine' w_isi ?hy ?hk ?_); (case hy => walk_at "ty"); (case hk => walk_at "kit"))
  | ((with_reducible refine' w_int ?_))
  | ((with_reducible refine' w_intB ?_))
  | ((with_reducible refine' w_abs ?_))
  | ((with_reducible refine' w_lenL ?hh ?_); (case hh => walk_at "hp"))
  | ((with_reducible refine' w_lenT ?hh ?_); (case hh => walk_at "hp"))
  | ((with_reducible refine' w_tupL ?hh ?_); (case hh => walk_at "hp"))
  | ((with_reducible refine' w_tupT ?hh ?_); (case hh => walk_at "hp"))
  | ((with_reducible refine' w_catA ?hh ?hh2 ?hz ?_); (case hh => walk_at "hp"); (case hh2 => walk_at "hp"); (case hz => walk_at "len"))
  | ((with_reducible refine' w_repB ?hh ?hne ?h2 ?h3 ?hz ?_); (case hh => walk_at "hp"); (case hne => simp); (case h2 => omega); (case h3 => omega); (case hz => exact Nat.le_of_ble_eq_true rfl))
  | ((with_reducible refine' w_eqN ?hh ?hh2 ?n1 ?n2 ?_); (case hh => walk_at "hp"); (case hh2 => walk_at "hp"); (case n1 => walk_at "nd"); (case n2 => walk_at "nd"))
  | ((with_reducible refine' w_neN ?hh ?hh2 ?n1 ?n2 ?_); (case hh => walk_at "hp"); (case hh2 => walk_at "hp"); (case n1 => walk_at "nd"); (case n2 => walk_at "nd"))
  | ((with_reducible refine' w_eqL ?hh ?hh2 ?n1 ?n2 ?_); (case hh => walk_at "hp"); (case hh2 => walk_at "hp"); (case n1 => walk_at "nd"); (case n2 => walk_at "nd"))
  | ((with_reducible refine' w_neL ?hh ?hh2 ?n1 ?n2 ?_); (case hh => walk_at "hp"); (case hh2 => walk_at "hp"); (case n1 => walk_at "nd"); (case n2 => walk_at "nd"))
  | ((with_reducible refine' w_neNon ?hh2 ?n2 ?_); (case hh2 => walk_at "hp"); (case n2 => walk_at "nd"))
  | ((with_reducible refine' w_eqNon ?hh2 ?n2 ?_); (case hh2 => walk_at "hp"); (case n2 => walk_at "nd"))
  | ((with_reducible refine' w_slA ?hh ?_); (case hh => walk_at "hp"))
  | ((with_reducible refine' w_disp ?hz ?_); (case hz => exact sz_of (Nat.le_of_ble_eq_true rfl)))
  | ((with_reducible refine' w_tyL ?hh ?_); (case hh => walk_at "hp"))
  | (with_reducible refine' iteT ?_)
  | (with_reducible refine' iteF ?_)
  | (with_reducible refine' w_nT ?_)
  | (with_reducible refine' w_nn ?_)
  | (with_reducible refine' w_nnT ?_)
  | (with_reducible refine' w_nnR ?_)
  | (with_reducible refine' w_neG ?_)
  | (with_reducible refine' w_eqG ?_)
  | (with_reducible refine' w_neS ?_)
  | (with_reducible refine' w_eqS ?_)
  | (with_reducible refine' w_neSb ?_)
  | (with_reducible refine' w_eqSb ?_)
  | (with_reducible refine' w_deIS ?_)
  | (with_reducible refine' w_deSI ?_)
  | (with_reducible refine' w_deISn ?_)
  | ((with_reducible refine' w_deST ?he ?_); (case he => decide +kernel))
  | ((with_reducible refine' w_deSF ?he ?_); (case he => decide +kernel))
  | ((with_reducible refine' w_deSTn ?he ?_); (case he => decide +kernel))
  | ((with_reducible refine' w_deSFn ?he ?_); (case he => decide +kernel))
  | (with_reducible refine' w_nF ?_)
  | dsimp only [Bool.not_true, Bool.not_false])
local macro_rules | `(tactic| walk_at "ty") => `(tactic| first
  | exact .base (.int _) | exact .base (.str _) | exact .base (.bl _) | exact .base .non
  | ((refine' tyx_t ?hq); (case hq => walk_at "hp")) | ((refine' tyx_l ?hq); (case hq => walk_at "hp")) | ((refine' .base (.tup ?hq)); (case hq => walk_at "hp")) | assumption)
local macro_rules | `(tactic| walk_at "go") => `(tactic| repeat walk_at "go1")
local macro_rules | `(tactic| walk_at "st") => `(tactic| try dsimp only [cxOf, Cx.nox, Cx.wish])
local macro_rules | `(tactic| walk_at "kit") => `(tactic| with_reducible first | exact kit_int_int | exact kit_int_str | exact kit_int_bool | exact kit_int_tuple | exact kit_int_list | exact kit_str_int | exact kit_str_str | exact kit_str_bool | exact kit_str_tuple | exact kit_str_list | exact kit_bool_int | exact kit_bool_str | exact kit_bool_bool | exact kit_bool_tuple | exact kit_bool_list | exact kit_NoneType_int | exact kit_NoneType_str | exact kit_NoneType_bool | exact kit_NoneType_tuple | exact kit_NoneType_list | exact kit_list_int | exact kit_list_str | exact kit_list_bool | exact kit_list_tuple | exact kit_list_list | exact kit_tuple_int | exact kit_tuple_str | exact kit_tuple_bool | exact kit_tuple_tuple | exact kit_tuple_list)
local macro_rules | `(tactic| walk_at "nd") => `(tactic| first
  | assumption
  | exact Tm.nds _
  | exact Nds.nil
  | exact Nds.ofInts _
  | ((refine' Nds.cons ?na ?nb); (case na => first | exact Nds.I _ | exact Nds.L | exact Nds.A); (case nb => walk_at "nd"))
  | ((refine' Nds.app ?na ?nb); (case na => walk_at "nd"); (case nb => walk_at "nd"))
  | ((refine' Nds.rep ?na _); (case na => walk_at "nd")))
local macro_rules | `(tactic| walk_at "len") => `(tactic| first
  | exact ly_sz (by omega)
  | ((simp only [List.length_append, List.length_cons, List.length_nil, List.length_map, PyProof.Rows.lm_len_rep_flat]); exact ly_sz (by omega)))
local macro_rules | `(tactic| walk_at "go1") => `(tactic| first
  | (with_reducible refine' w_kget2 ?_)
  | (with_reducible refine' w_isRN ?_)
  | (with_reducible refine' w_isNN ?_)
  | (with_reducible refine' w_isIN ?_)
  | ((with_reducible refine' w_kg ?hd ?_); (case hd => assumption)))
local macro_rules | `(tactic| walk_at "go1") => `(tactic| first
  | ((with_reducible refine' w_extT ?hh ?hh2 ?hz ?_); (case hh => walk_at "hp"); (case hh2 => walk_at "hp"))
  | ((with_reducible refine' w_I ?hc ?_); (case hc => exact ⟨by decide, by decide, by decide⟩))
  | (with_reducible refine' w_sl ?_)
  | (with_reducible refine' w_noP ?_)
  | (with_reducible refine' w_part ?_)
  | (with_reducible refine' w_part1 ?_)
  | (with_reducible refine' w_it ?_)
  | (with_reducible refine' w_it1 ?_)
  | ((with_reducible refine' w_lenZ ?hz ?_); (case hz => omega))
  | ((with_reducible refine' w_addZb ?hz ?_); (case hz => omega))
  | ((with_reducible refine' w_addZf ?hz ?_); (case hz => omega))
  | ((with_reducible refine' w_addZa ?hz ?_); (case hz => omega))
  | ((with_reducible refine' w_inS ?hh ?_); (case hh => walk_at "hp"))
  | ((with_reducible refine' w_ixT ?hh ?ha ?_); (case hh => assumption); (case ha => exact atI_nat (by assumption))))
def topS (i : Nat) : Stmt := PySem.Challenge.pw_lydite_k88_whole_there_and_back.main.body.getD i (.Pass ⟨0, 0, 0, 0⟩)
abbrev s_part_count : Stmt := topS 8
abbrev N_part_count : List Str := ["node"]
theorem sc_part_count : FnScope ["node"] ["node"] (defScope s_part_count) := ⟨rfl, rfl, rfl, by decide +kernel, rfl, by decide +kernel, by decide +kernel⟩
abbrev s_check_size : Stmt := topS 9
abbrev N_check_size : List Str := ["size"]
theorem sc_check_size : FnScope ["size"] ["size"] (defScope s_check_size) := ⟨rfl, rfl, rfl, by decide +kernel, rfl, by decide +kernel, by decide +kernel⟩
abbrev s_checked : Stmt := topS 10
abbrev N_checked : List Str := ["term", "node"]
theorem sc_checked : FnScope ["term", "node"] ["term"] (defScope s_checked) := ⟨rfl, rfl, rfl, by decide +kernel, rfl, by decide +kernel, by decide +kernel⟩
abbrev s_depths : Stmt := topS 11
abbrev N_depths : List Str := ["term", "found", "pending", "node", "depth"]
theorem sc_depths : FnScope ["term", "found", "pending", "node", "depth"] ["term"] (defScope s_depths) := ⟨rfl, rfl, rfl, by decide +kernel, rfl, by decide +kernel, by decide +kernel⟩
abbrev s_stands_free : Stmt := topS 12
abbrev N_stands_free : List Str := ["node", "depth"]
theorem sc_stands_free : FnScope ["node", "depth"] ["node", "depth"] (defScope s_stands_free) := ⟨rfl, rfl, rfl, by decide +kernel, rfl, by decide +kernel, by decide +kernel⟩
abbrev s_lifted_nodes : Stmt := topS 13
abbrev N_lifted_nodes : List Str := ["term", "count", "nodes", "node", "depth"]
theorem sc_lifted_nodes : FnScope ["term", "count", "nodes", "node", "depth"] ["term", "count"] (defScope s_lifted_nodes) := ⟨rfl, rfl, rfl, by decide +kernel, rfl, by decide +kernel, by decide +kernel⟩
abbrev s_put : Stmt := topS 14
abbrev N_put : List Str := ["term", "value", "nodes", "node", "depth"]
theorem sc_put : FnScope ["term", "value", "nodes", "node", "depth"] ["term", "value"] (defScope s_put) := ⟨rfl, rfl, rfl, by decide +kernel, rfl, by decide +kernel, by decide +kernel⟩
abbrev s_end_of : Stmt := topS 16
abbrev N_end_of : List Str := ["term", "start", "missing", "end"]
theorem sc_end_of : FnScope ["term", "start", "missing", "end"] ["term", "start"] (defScope s_end_of) := ⟨rfl, rfl, rfl, by decide +kernel, rfl, by decide +kernel, by decide +kernel⟩
abbrev s_is_redex : Stmt := topS 18
abbrev N_is_redex : List Str := ["term", "at"]
theorem sc_is_redex : FnScope ["term", "at"] ["term", "at"] (defScope s_is_redex) := ⟨rfl, rfl, rfl, by decide +kernel, rfl, by decide +kernel, by decide +kernel⟩
abbrev s_first_redex : Stmt := topS 19
abbrev N_first_redex : List Str := ["term", "start", "at"]
theorem sc_first_redex : FnScope ["term", "start", "at"] ["term", "start"] (defScope s_first_redex) := ⟨rfl, rfl, rfl, by decide +kernel, rfl, by decide +kernel, by decide +kernel⟩
abbrev s_stepped : Stmt := topS 20
abbrev N_stepped : List Str := ["term", "at", "middle", "end", "result"]
theorem sc_stepped : FnScope ["term", "at", "middle", "end", "result"] ["term", "at"] (defScope s_stepped) := ⟨rfl, rfl, rfl, by decide +kernel, rfl, by decide +kernel, by decide +kernel⟩
abbrev s_next_redex : Stmt := topS 22
abbrev N_next_redex : List Str := ["term", "at"]
theorem sc_next_redex : FnScope ["term", "at"] ["term", "at"] (defScope s_next_redex) := ⟨rfl, rfl, rfl, by decide +kernel, rfl, by decide +kernel, by decide +kernel⟩
abbrev s_repeated : Stmt := topS 23
abbrev N_repeated : List Str := ["term", "steps", "next_at", "step_at", "count", "at"]
theorem sc_repeated : FnScope ["term", "steps", "next_at", "step_at", "count", "at"] ["term", "steps", "next_at", "step_at"] (defScope s_repeated) := ⟨rfl, rfl, rfl, by decide +kernel, rfl, by decide +kernel, by decide +kernel⟩
abbrev s_normal : Stmt := topS 24
abbrev N_normal : List Str := ["term", "steps"]
theorem sc_normal : FnScope ["term", "steps"] ["term", "steps"] (defScope s_normal) := ⟨rfl, rfl, rfl, by decide +kernel, rfl, by decide +kernel, by decide +kernel⟩
abbrev s_decreased : Stmt := topS 27
abbrev N_decreased : List Str := ["combination", "node"]
theorem sc_decreased : FnScope ["combination", "node"] ["combination"] (defScope s_decreased) := ⟨rfl, rfl, rfl, by decide +kernel, rfl, by decide +kernel, by decide +kernel⟩
abbrev s_parts_with_zero : Stmt := topS 28
abbrev N_parts_with_zero : List Str := ["combination", "found", "pending", "node", "has_zero", "function"]
theorem sc_parts_with_zero : FnScope ["combination", "found", "pending", "node", "has_zero", "function"] ["combination"] (defScope s_parts_with_zero) := ⟨rfl, rfl, rfl, by decide +kernel, rfl, by decide +kernel, by decide +kernel⟩
abbrev s_abstracted : Stmt := topS 29
abbrev N_abstracted : List Str := ["combination", "has_zero", "nodes", "at", "end"]
theorem sc_abstracted : FnScope ["combination", "has_zero", "nodes", "at", "end"] ["combination"] (defScope s_abstracted) := ⟨rfl, rfl, rfl, by decide +kernel, rfl, by decide +kernel, by decide +kernel⟩
abbrev s_combination_of : Stmt := topS 30
abbrev N_combination_of : List Str := ["term", "pending", "node", "function"]
theorem sc_combination_of : FnScope ["term", "pending", "node", "function"] ["term"] (defScope s_combination_of) := ⟨rfl, rfl, rfl, by decide +kernel, rfl, by decide +kernel, by decide +kernel⟩
abbrev s_term_of : Stmt := topS 31
abbrev N_term_of : List Str := ["combination", "nodes", "node"]
theorem sc_term_of : FnScope ["combination", "nodes", "node"] ["combination"] (defScope s_term_of) := ⟨rfl, rfl, rfl, by decide +kernel, rfl, by decide +kernel, by decide +kernel⟩
abbrev s_value_put : Stmt := topS 32
abbrev N_value_put : List Str := ["combination", "value", "nodes", "node"]
theorem sc_value_put : FnScope ["combination", "value", "nodes", "node"] ["combination", "value"] (defScope s_value_put) := ⟨rfl, rfl, rfl, by decide +kernel, rfl, by decide +kernel, by decide +kernel⟩
abbrev s_law_stream : Stmt := topS 34
abbrev N_law_stream : List Str := ["script", "mixed", "cell"]
theorem sc_law_stream : FnScope ["script", "mixed", "cell"] ["script"] (defScope s_law_stream) := ⟨rfl, rfl, rfl, by decide +kernel, rfl, by decide +kernel, by decide +kernel⟩
abbrev s_law_draw : Stmt := topS 35
abbrev N_law_draw : List Str := ["stream", "many", "value"]
theorem sc_law_draw : FnScope ["stream", "many", "value"] ["stream", "many"] (defScope s_law_draw) := ⟨rfl, rfl, rfl, by decide +kernel, rfl, by decide +kernel, by decide +kernel⟩
abbrev s_law_term : Stmt := topS 36
abbrev N_law_term : List Str := ["stream", "size", "widest", "nodes", "waiting", "depth", "room", "pick"]
theorem sc_law_term : FnScope ["stream", "size", "widest", "nodes", "waiting", "depth", "room", "pick"] ["stream", "size", "widest"] (defScope s_law_term) := ⟨rfl, rfl, rfl, by decide +kernel, rfl, by decide +kernel, by decide +kernel⟩
abbrev s_law_combination : Stmt := topS 37
abbrev N_law_combination : List Str := ["stream", "size", "widest", "nodes", "missing", "room"]
theorem sc_law_combination : FnScope ["stream", "size", "widest", "nodes", "missing", "room"] ["stream", "size", "widest"] (defScope s_law_combination) := ⟨rfl, rfl, rfl, by decide +kernel, rfl, by decide +kernel, by decide +kernel⟩
abbrev s_law_part_end : Stmt := topS 38
abbrev N_law_part_end : List Str := ["nodes", "at", "missing"]
theorem sc_law_part_end : FnScope ["nodes", "at", "missing"] ["nodes", "at"] (defScope s_law_part_end) := ⟨rfl, rfl, rfl, by decide +kernel, rfl, by decide +kernel, by decide +kernel⟩
abbrev s_law_end : Stmt := topS 39
abbrev N_law_end : List Str := ["term", "at", "missing"]
theorem sc_law_end : FnScope ["term", "at", "missing"] ["term", "at"] (defScope s_law_end) := ⟨rfl, rfl, rfl, by decide +kernel, rfl, by decide +kernel, by decide +kernel⟩
abbrev s_law_mapped : Stmt := topS 40
abbrev N_law_mapped : List Str := ["term", "value", "count", "nodes", "waiting", "node", "depth"]
theorem sc_law_mapped : FnScope ["term", "value", "count", "nodes", "waiting", "node", "depth"] ["term", "value", "count"] (defScope s_law_mapped) := ⟨rfl, rfl, rfl, by decide +kernel, rfl, by decide +kernel, by decide +kernel⟩
abbrev s_law_stepped : Stmt := topS 41
abbrev N_law_stepped : List Str := ["term", "at", "middle", "end"]
theorem sc_law_stepped : FnScope ["term", "at", "middle", "end"] ["term", "at"] (defScope s_law_stepped) := ⟨rfl, rfl, rfl, by decide +kernel, rfl, by decide +kernel, by decide +kernel⟩
abbrev s_law_redexes : Stmt := topS 42
abbrev N_law_redexes : List Str := ["term", "at"]
theorem sc_law_redexes : FnScope ["term", "at"] ["term"] (defScope s_law_redexes) := ⟨rfl, rfl, rfl, by decide +kernel, rfl, by decide +kernel, by decide +kernel⟩
abbrev s_law_normal : Stmt := topS 43
abbrev N_law_normal : List Str := ["term", "steps", "count", "found"]
theorem sc_law_normal : FnScope ["term", "steps", "count", "found"] ["term", "steps"] (defScope s_law_normal) := ⟨rfl, rfl, rfl, by decide +kernel, rfl, by decide +kernel, by decide +kernel⟩
abbrev s_law_normal_of : Stmt := topS 44
abbrev N_law_normal_of : List Str := ["nodes", "steps"]
theorem sc_law_normal_of : FnScope ["nodes", "steps"] ["nodes", "steps"] (defScope s_law_normal_of) := ⟨rfl, rfl, rfl, by decide +kernel, rfl, by decide +kernel, by decide +kernel⟩
abbrev s_law_free : Stmt := topS 45
abbrev N_law_free : List Str := ["term", "found", "waiting", "node", "depth"]
theorem sc_law_free : FnScope ["term", "found", "waiting", "node", "depth"] ["term"] (defScope s_law_free) := ⟨rfl, rfl, rfl, by decide +kernel, rfl, by decide +kernel, by decide +kernel⟩
abbrev s_law_made : Stmt := topS 46
abbrev N_law_made : List Str := ["term"]
theorem sc_law_made : FnScope ["term"] ["term"] (defScope s_law_made) := ⟨rfl, rfl, rfl, by decide +kernel, rfl, by decide +kernel, by decide +kernel⟩
abbrev s_law : Stmt := topS 47
abbrev N_law : List Str := ["script", "stream", "term", "nodes", "used", "node", "number", "due", "found", "value", "one", "two"]
theorem sc_law : FnScope ["script", "stream", "term", "nodes", "used", "node", "number", "due", "found", "value", "one", "two"] ["script"] (defScope s_law) := ⟨rfl, rfl, rfl, by decide +kernel, rfl, by decide +kernel, by decide +kernel⟩
structure Txt (w : World) (K : PySem.W.Frag) (mg : Str → Option Value) (tk : Nat → Tok) (cl : Nat → Addr) : Prop where
  n_int : mg "int" = none
  n_list : mg "list" = none
  n_len : mg "len" = none
  n_abs : mg "abs" = none
  n_isinstance : mg "isinstance" = none
  n_tuple : mg "tuple" = none
  n_range : mg "range" = none
  n_zip : mg "zip" = none
  n_reversed : mg "reversed" = none
  n_sorted : mg "sorted" = none
  n_all : mg "all" = none
  n_max : mg "max" = none
  g_MOST_NODES : mg "MOST_NODES" = some (.int 1000 (tk 0))
  g_MOST_VARIABLE : mg "MOST_VARIABLE" = some (.int 1000000 (tk 1))
  g_PART_COUNTS : mg "PART_COUNTS" = some (.ref (cl 40))
  d_PART_COUNTS : KD K w (cl 40) [("lam", .int 1), ("app", .int 2), ("to", .int 2)]
  g_TERMS : mg "TERMS" = some (.ref (cl 41))
  d_TERMS : KD K w (cl 41) [("S", .ref (cl 42)), ("K", .ref (cl 43)), ("I", .ref (cl 44))]
  t_TERMS_0 : KT K (cl 42) [.str "lam", .str "lam", .str "lam", .str "app", .str "app", .int 2, .int 0, .str "app", .int 1, .int 0]
  t_TERMS_1 : KT K (cl 43) [.str "lam", .str "lam", .int 1]
  t_TERMS_2 : KT K (cl 44) [.str "lam", .int 0]
  n_ValueError : mg "ValueError" = none
  g_LyditeError : mg "LyditeError" = some (.ref (cl 0))
  t_LyditeError : PySem.W.typeIn K (.ref (cl 0)) = some (.type "type")
  h3_LyditeError : PySem.W.hasDictIn K (cl 0) = true
  b_LyditeError : PySem.W.subIn K (.ref (cl 0)) (.type "BaseException") = some true
  g_TooLarge : mg "TooLarge" = some (.ref (cl 1))
  x_TooLarge : PySem.W.excIn K (cl 1) [.type "ValueError", .type "Exception", .type "BaseException", .type "object"] "ValueError.__new__" = true
  k_TooLarge : PySem.W.keepIn K (.ref (cl 1)) = true
  b_TooLarge : PySem.W.subIn K (.ref (cl 1)) (.type "BaseException") = some true
  t_TooLarge : PySem.W.typeIn K (.ref (cl 1)) = some (.type "type")
  s0_TooLarge : PySem.W.subIn K (.ref (cl 1)) (.ref (cl 0)) = some true
  sv_TooLarge : PySem.W.subIn K (.ref (cl 1)) (.type "ValueError") = some true
  s1_TooLarge : PySem.W.subIn K (.ref (cl 1)) (.ref (cl 1)) = some true
  s4_TooLarge : PySem.W.subIn K (.ref (cl 1)) (.ref (cl 4)) = some false
  h1_TooLarge : PySem.W.findIn K (.ref (cl 1)) "__getattribute__" = some (some (.builtin "BaseException.__getattribute__"))
  h2_TooLarge : PySem.W.findIn K (.ref (cl 1)) "__getattr__" = some none
  h3_TooLarge : PySem.W.hasDictIn K (cl 1) = true
  h4_TooLarge : PySem.W.findIn K (.ref (cl 1)) "__class__" = some (some (.builtin "object.__class__"))
  h7_TooLarge : PySem.W.mroIn K (cl 1) (.type "object") = some true
  h5_TooLarge : PySem.W.specialIn K (.builtin "object.__class__") "__get__" = some (some (.builtin "getset_descriptor.__get__"))
  h6_TooLarge : PySem.W.takesIn K (.builtin "object.__class__") = some true
  g_OutOfSteps : mg "OutOfSteps" = some (.ref (cl 4))
  x_OutOfSteps : PySem.W.excIn K (cl 4) [.type "ValueError", .type "Exception", .type "BaseException", .type "object"] "ValueError.__new__" = true
  k_OutOfSteps : PySem.W.keepIn K (.ref (cl 4)) = true
  b_OutOfSteps : PySem.W.subIn K (.ref (cl 4)) (.type "BaseException") = some true
  t_OutOfSteps : PySem.W.typeIn K (.ref (cl 4)) = some (.type "type")
  s0_OutOfSteps : PySem.W.subIn K (.ref (cl 4)) (.ref (cl 0)) = some true
  sv_OutOfSteps : PySem.W.subIn K (.ref (cl 4)) (.type "ValueError") = some true
  s1_OutOfSteps : PySem.W.subIn K (.ref (cl 4)) (.ref (cl 1)) = some false
  s4_OutOfSteps : PySem.W.subIn K (.ref (cl 4)) (.ref (cl 4)) = some true
  h1_OutOfSteps : PySem.W.findIn K (.ref (cl 4)) "__getattribute__" = some (some (.builtin "BaseException.__getattribute__"))
  h2_OutOfSteps : PySem.W.findIn K (.ref (cl 4)) "__getattr__" = some none
  h3_OutOfSteps : PySem.W.hasDictIn K (cl 4) = true
  h4_OutOfSteps : PySem.W.findIn K (.ref (cl 4)) "__class__" = some (some (.builtin "object.__class__"))
  h7_OutOfSteps : PySem.W.mroIn K (cl 4) (.type "object") = some true
theorem Txt.e_TooLarge_TooLarge {w : World} {K : PySem.W.Frag} {mg : Str → Option Value} {tk : Nat → Tok} {cl : Nat → Addr} (T : Txt w K mg tk cl) : PySem.W.exmOne K (.ref (cl 1)) (.ref (cl 1)) = some true := exm_mk T.b_TooLarge T.h3_TooLarge T.t_TooLarge T.s1_TooLarge
theorem Txt.e_TooLarge_OutOfSteps {w : World} {K : PySem.W.Frag} {mg : Str → Option Value} {tk : Nat → Tok} {cl : Nat → Addr} (T : Txt w K mg tk cl) : PySem.W.exmOne K (.ref (cl 1)) (.ref (cl 4)) = some false := exm_mk T.b_OutOfSteps T.h3_OutOfSteps T.t_OutOfSteps T.s4_TooLarge
theorem Txt.e_TooLarge_L {w : World} {K : PySem.W.Frag} {mg : Str → Option Value} {tk : Nat → Tok} {cl : Nat → Addr} (T : Txt w K mg tk cl) : PySem.W.exmOne K (.ref (cl 1)) (.ref (cl 0)) = some true := exm_mk T.b_LyditeError T.h3_LyditeError T.t_LyditeError T.s0_TooLarge
theorem Txt.i_TooLarge_L {w : World} {K : PySem.W.Frag} {mg : Str → Option Value} {tk : Nat → Tok} {cl : Nat → Addr} (T : Txt w K mg tk cl) : PySem.W.kitOne K (.ref (cl 1)) (.ref (cl 0)) = some true := kitOne_mk T.h3_LyditeError T.t_LyditeError T.s0_TooLarge
theorem Txt.i_TooLarge_V {w : World} {K : PySem.W.Frag} {mg : Str → Option Value} {tk : Nat → Tok} {cl : Nat → Addr} (T : Txt w K mg tk cl) : PySem.W.kitOne K (.ref (cl 1)) (.type "ValueError") = some true := kitVE T.sv_TooLarge
theorem Txt.exc_TooLarge {w : World} {K : PySem.W.Frag} {mg : Str → Option Value} {tk : Nat → Tok} {cl : Nat → Addr} (T : Txt w K mg tk cl) : ExcC K (cl 1) := ⟨T.h1_TooLarge, T.h2_TooLarge, T.b_TooLarge, T.h3_TooLarge, T.h4_TooLarge, T.h5_TooLarge, T.h6_TooLarge, T.h7_TooLarge⟩
theorem Txt.e_OutOfSteps_TooLarge {w : World} {K : PySem.W.Frag} {mg : Str → Option Value} {tk : Nat → Tok} {cl : Nat → Addr} (T : Txt w K mg tk cl) : PySem.W.exmOne K (.ref (cl 4)) (.ref (cl 1)) = some false := exm_mk T.b_TooLarge T.h3_TooLarge T.t_TooLarge T.s1_OutOfSteps
theorem Txt.e_OutOfSteps_OutOfSteps {w : World} {K : PySem.W.Frag} {mg : Str → Option Value} {tk : Nat → Tok} {cl : Nat → Addr} (T : Txt w K mg tk cl) : PySem.W.exmOne K (.ref (cl 4)) (.ref (cl 4)) = some true := exm_mk T.b_OutOfSteps T.h3_OutOfSteps T.t_OutOfSteps T.s4_OutOfSteps
theorem Txt.e_OutOfSteps_L {w : World} {K : PySem.W.Frag} {mg : Str → Option Value} {tk : Nat → Tok} {cl : Nat → Addr} (T : Txt w K mg tk cl) : PySem.W.exmOne K (.ref (cl 4)) (.ref (cl 0)) = some true := exm_mk T.b_LyditeError T.h3_LyditeError T.t_LyditeError T.s0_OutOfSteps
theorem Txt.i_OutOfSteps_L {w : World} {K : PySem.W.Frag} {mg : Str → Option Value} {tk : Nat → Tok} {cl : Nat → Addr} (T : Txt w K mg tk cl) : PySem.W.kitOne K (.ref (cl 4)) (.ref (cl 0)) = some true := kitOne_mk T.h3_LyditeError T.t_LyditeError T.s0_OutOfSteps
theorem Txt.i_OutOfSteps_V {w : World} {K : PySem.W.Frag} {mg : Str → Option Value} {tk : Nat → Tok} {cl : Nat → Addr} (T : Txt w K mg tk cl) : PySem.W.kitOne K (.ref (cl 4)) (.type "ValueError") = some true := kitVE T.sv_OutOfSteps
theorem Txt.exc_OutOfSteps {w : World} {K : PySem.W.Frag} {mg : Str → Option Value} {tk : Nat → Tok} {cl : Nat → Addr} (T : Txt w K mg tk cl) : ExcC K (cl 4) := ⟨T.h1_OutOfSteps, T.h2_OutOfSteps, T.b_OutOfSteps, T.h3_OutOfSteps, T.h4_OutOfSteps, T.h5_TooLarge, T.h6_TooLarge, T.h7_OutOfSteps⟩

section
variable {P : Program} {w : World} {K : PySem.W.Frag} {mg : Str → Option Value} {base : Heap} {tk : Nat → Tok} {cl : Nat → Addr}
/-! ### the stream's start, a draw -/
def spStream (K : PySem.W.Frag) : Sp := fun vs H Q _ => ∃ (a : Addr) (ns : List Int), vs = [.ref a] ∧ SqL K H a (ns.map V.int) ∧ ns.length ≤ 63 ∧ ∀ H' p l, Ex H H' → H p = none → StAt H' p ⟨l, ns, 0, 0, mixOf ns⟩ → Q (.ref p) H'
theorem ok_stream {f : Addr} {fd : FuncData} {k : Nat} (F : Fun K "_law_stream" "_law_stream" s_law_stream f fd) (T : Txt w K mg tk cl) : FnOk P w K mg base CX0 (k + 1) f fd ["script"] (spStream K) := by
  refine F.ok sc_law_stream (fun vs H Q E h => ?_) (fun cdv A outer s H vs Q E hr h => ?_)
  · obtain ⟨a, ns, rfl, _⟩ := h
    rfl
  · obtain ⟨a, ns, rfl, hS, hlen, q⟩ := h
    refine ⟨_, (pss_cons (ps_set (i := 1) sc_law_stream.nd rfl (.inl rfl) pe_int) (pss_cons (ps_for PassesOwn.never rfl (pi_list (pv 0)) (pg_name (i := 2) sc_law_stream.nd rfl (.inl rfl)) (pss_one (ps_set (i := 1) sc_law_stream.nd rfl (.inl rfl) (pe_op op_modN (pe_callTy call_int1 (by rfl) T.n_int (by decide +kernel) (pa_cons (pe_op op_add (pe_op op_add (pe_op op_mul (pv 1) pe_int) (pe_op op_modN (pe_callTy call_int1 (by rfl) T.n_int (by decide +kernel) (pa_cons (pv 2) pa_nil)) pe_int)) pe_int) pa_nil)) pe_int)))) (pss_one (ps_ret (pe_lst (pa_cons (pe_callTy call_list_of (by rfl) T.n_list (by decide +kernel) (pa_cons (pv 0) pa_nil)) (pa_cons pe_int (pa_cons pe_int (pa_cons (pv 1) pa_nil))))))))), ?_⟩
    refine sl_of (σ2 := [some _, none, none]) rfl ?_
    walk_at "st"
    walk_at "go"
    refine for_list (K := K) (a := a) (xs := ns.map V.int) (fun i σ H' => H' = H ∧ ∃ y, σ = [some (.ref a), some (.int (mixOf (ns.take i))), y]) ⟨rfl, none, rfl⟩ (fun i σ H' _ e => by rw [e.1]; exact hS) ?_ ?_
    · rintro i x σ H' hi ⟨rfl, y, rfl⟩
      obtain ⟨z, hz, rfl⟩ := get_int hi
      walk_at "go"
      exact ⟨rfl, _, by rw [mixOf_take hz]; rfl⟩
    · rintro σ H' ⟨rfl, y, rfl⟩
      walk_at "go"
      intro l hl
      walk_at "go"
      intro p hp
      rw [List.take_of_length_le (by simp)]
      refine q _ _ l ?_ ?_ ⟨?_, ?_, ?_⟩
      · walk_at "ex"
      · walk_at "free"
      · walk_at "ne"
      · walk_at "hp"
      · walk_at "hp"
def spDraw : Sp := fun vs H Q _ => ∃ (s : Addr) (m : Stm) (n : Int), vs = [.ref s, .int n] ∧ StAt H s m ∧ 0 < n ∧ n < 1073741824 ∧ ∀ H', Fr s H H' → StAt H' s (m.next n) → Q (.int (m.val n)) H'
theorem ok_draw {f : Addr} {fd : FuncData} {k : Nat} (F : Fun K "_law_draw" "_law_draw" s_law_draw f fd) (T : Txt w K mg tk cl) : FnOk P w K mg base CX0 (k + 1) f fd ["stream", "many"] spDraw := by
  refine F.ok sc_law_draw (fun vs H Q E h => ?_) (fun cdv A outer s H vs Q E hr h => ?_)
  · obtain ⟨a, m, n, rfl, _⟩ := h
    rfl
  · obtain ⟨a, m, n, rfl, ⟨hla, ha, hl⟩, n0, n1, q⟩ := h
    refine ⟨_, (pss_cut (ps_if (PW.pt (pw_and (pt_cmpR op_eq (pe_ix ix_list (pv 0) pe_int (fun _ _ => rfl)) pe_int (nomark _)) (pw_and1 (pt_cmpR op_lt (pe_ix ix_list (pv 0) pe_int (fun _ _ => rfl)) (pe_callB call_len_seq (by rfl) T.n_len (by decide +kernel) (pa_cons (pe_ix ix_list (pv 0) pe_int (fun _ _ => rfl)) pa_nil)) (nomark _))))) (pss_cons (ps_asg (pe_callB call_abs (by rfl) T.n_abs (by decide +kernel) (pa_cons (pe_callTy call_int1 (by rfl) T.n_int (by decide +kernel) (pa_cons (pe_ix ix_list (pe_ix ix_list (pv 0) pe_int (fun _ _ => rfl)) (pe_ix ix_list (pv 0) pe_int (fun _ _ => rfl)) (fun _ _ => rfl)) pa_nil)) pa_nil)) (pg_sub (pv 0) pe_int set_list)) (pss_one (ps_asg (pe_op op_add (pe_ix ix_list (pv 0) pe_int (fun _ _ => rfl)) pe_int) (pg_sub (pv 0) pe_int set_list)))) pss_nil) (pss_cons (ps_if (pt_cmpR op_eq (pe_ix ix_list (pv 0) pe_int (fun _ _ => rfl)) pe_int (nomark _)) (pss_cons (ps_asg (pe_op op_modN (pe_callTy call_int1 (by rfl) T.n_int (by decide +kernel) (pa_cons (pe_op op_add (pe_op op_mul (pe_ix ix_list (pv 0) pe_int (fun _ _ => rfl)) pe_int) pe_int) pa_nil)) pe_int) (pg_sub (pv 0) pe_int set_list)) (pss_one (ps_ret (pe_op op_modN (pe_callTy call_int1 (by rfl) T.n_int (by decide +kernel) (pa_cons (pe_op op_fdivN (pe_ix ix_list (pv 0) pe_int (fun _ _ => rfl)) pe_int) pa_nil)) (pv 1))))) pss_nil) (pss_cons (ps_set (i := 2) sc_law_draw.nd rfl (.inl rfl) (pe_op op_modN (pe_callTy call_int1 (by rfl) T.n_int (by decide +kernel) (pa_cons (pe_ix ix_list (pv 0) pe_int (fun _ _ => rfl)) pa_nil)) (pv 1))) (pss_cons (ps_asg (pe_op op_fdivN (pe_ix ix_list (pv 0) pe_int (fun _ _ => rfl)) (pv 1)) (pg_sub (pv 0) pe_int set_list)) (pss_one (ps_ret (pv 2))))))), ?_⟩
    refine sl_of (σ2 := [some _, some _, none]) rfl ?_
    walk_at "st"
    walk_at "go"
    refine w_cut (M := fun σ' H' => σ' = [some (.ref a), some (.int n), none] ∧ Fr a H H' ∧ H' a = some (.lst [.ref m.home, .int m.take.cur, .int m.take.pos, .int m.take.mix]) ∧ H' m.home = some (.lst (m.cells.map V.int))) ?_ ?_
    · walk_at "go"
      refine w_brI (fun hc => ?_) (fun hc => ?_)
      · walk_at "go"
        refine w_br (fun hp => ?_) (fun hp => ?_)
        · rw [List.length_map] at hp
          have hp2 : m.pos < m.cells.length := by omega
          have e : m.take = { m with cur := (if m.cells.getD m.pos 0 < 0 then -(m.cells.getD m.pos 0) else m.cells.getD m.pos 0), pos := m.pos + 1 } := if_pos ⟨hc, hp2⟩
          walk_at "go"
          refine ⟨rfl, ?_, ?_, ?_⟩
          · walk_at "fr"
          · rw [e]
            exact upd_same
          · walk_at "hp"
        · rw [List.length_map] at hp
          have e : m.take = m := if_neg (fun z => hp (by omega))
          walk_at "go"
          rw [e]
          exact ⟨rfl, Fr.refl _ _, ha, hl⟩
      · have e : m.take = m := if_neg (fun z => hc z.1)
        walk_at "go"
        rw [e]
        exact ⟨rfl, Fr.refl _ _, ha, hl⟩
    · rintro σ' H' ⟨rfl, fr, ea, el⟩
      walk_at "go"
      refine w_brI (fun hc => ?_) (fun hc => ?_)
      · walk_at "go"
        have e1 : m.next n = m.take.turn := if_pos hc
        have e2 : m.val n = (m.take.turn.mix.fdiv 97).fmod n := if_pos hc
        rw [e1, e2] at q
        refine q _ ?_ ⟨?_, ?_, ?_⟩
        · walk_at "fr"
        · show m.take.home ≠ a
          rw [m.take_home]
          exact hla
        · show _ = some (HO.lst [.ref m.take.home, _, _, _])
          rw [upd_same, m.take_home]
          rfl
        · show _ = some (HO.lst (List.map V.int m.take.cells))
          rw [m.take_cells]
          show upd _ a _ m.take.home = _
          rw [m.take_home]
          walk_at "hp"
      · walk_at "go"
        have e1 : m.next n = { m.take with cur := m.take.cur.fdiv n } := if_neg hc
        have e2 : m.val n = m.take.cur.fmod n := if_neg hc
        rw [e1, e2] at q
        refine q _ ?_ ⟨?_, ?_, ?_⟩
        · walk_at "fr"
        · show m.take.home ≠ a
          rw [m.take_home]
          exact hla
        · show _ = some (HO.lst [.ref m.take.home, _, _, _])
          rw [upd_same, m.take_home]
          rfl
        · show _ = some (HO.lst (List.map V.int m.take.cells))
          rw [m.take_cells]
          show upd _ a _ m.take.home = _
          rw [m.take_home]
          walk_at "hp"
def spDepths (K : PySem.W.Frag) : Sp := fun vs H Q _ => ∃ (a : Addr) (t : Tm), vs = [.ref a] ∧ SqT K H a t.enc ∧ t.enc.length ≤ 2000000 ∧ ∀ H' p, Ex H H' → H p = none → H' p = some (.lst (nums (t.deps 0))) → Q (.ref p) H'
def spEnd (K : PySem.W.Frag) : Sp := fun vs H Q _ => ∃ (a : Addr) (xs : List V) (s : Nat) (u : Tm) (post : List V), vs = [.ref a, .int (s : Int)] ∧ SqT K H a xs ∧ xs.drop s = u.enc ++ post ∧ xs.length ≤ 2000000 ∧ Q (.int ((s + u.enc.length : Nat) : Int)) H
def spLPlaces (K : PySem.W.Frag) : Sp := fun vs H Q _ => ∃ (a : Addr) (t : Tm), vs = [.ref a] ∧ SqT K H a t.enc ∧ t.enc.length ≤ 2000000 ∧ ∀ H' p, Ex H H' → H p = none → H' p = some (.lst (plcs (t.pls []))) → Q (.ref p) H'
end
end Ly
set_option Elab.async false
set_option linter.all false
set_option maxRecDepth 100000
set_option maxHeartbeats 8000000
namespace Ly
open PySem PySem.Spec PyProof.Rows L2 Evl
local macro_rules | `(tactic| walk_at "ne") => `(tactic| first
  | assumption
  | ((refine' Ne.symm ?hq); (case hq => assumption))
  | ((refine' ne_of_none ?nh1 ?nh2); (case nh2 => assumption); (case nh1 => walk_at "hp"))
  | ((refine' Ne.symm (ne_of_none ?nh1 ?nh2)); (case nh2 => assumption); (case nh1 => walk_at "hp")))
local macro_rules | `(tactic| walk_at "hp") => `(tactic| first
  | assumption
  | exact upd_same
  | ((refine' SqL.of ?hq); (case hq => walk_at "hp"))
  | ((refine' SqT.of ?hq); (case hq => walk_at "hp"))
  | ((refine' (upd_ne ?hne).trans ?hrest); (case hne => walk_at "ne"); (case hrest => walk_at "hp"))
  | ((refine' ly_at ?hex ?hh); (case hex => assumption); (case hh => walk_at "hp"))
  | ((refine' ly_atF ?hex ?hnn ?hh); (case hex => assumption); (case hh => walk_at "hp"); (case hnn => walk_at "ne"))
  | ((refine' ex_t ?hex ?hh); (case hh => assumption); (case hex => walk_at "ex"))
  | ((refine' ex_l ?hex ?hh); (case hh => assumption); (case hex => walk_at "ex")))
local macro_rules | `(tactic| walk_at "ex") => `(tactic| first
  | assumption
  | exact Ex.refl _
  | ((refine' ex_new ?xa ?xb); (case xb => assumption); (case xa => walk_at "ex"))
  | ((refine' ex_upd ?xa ?xb); (case xb => walk_at "free"); (case xa => walk_at "ex"))
  | ((refine' Ex.trans ?xa ?xb); (case xb => assumption); (case xa => walk_at "ex")))
local macro_rules | `(tactic| walk_at "free") => `(tactic| first
  | assumption
  | ((refine' fresh_back ?xa ?xb); (case xb => assumption); (case xa => walk_at "ex")))
local macro_rules | `(tactic| walk_at "fr") => `(tactic| first
  | assumption
  | exact Fr.refl _ _
  | ((refine' Fr.own ?hq); (case hq => walk_at "fr"))
  | ((refine' Fr.new ?xa ?xb); (case xb => assumption); (case xa => walk_at "fr"))
  | ((refine' Fr.mut ?xa ?xb); (case xb => assumption); (case xa => walk_at "fr"))
  | ((refine' Fr.trans ?xa ?xb); (case xb => assumption); (case xa => walk_at "fr"))
  | ((refine' Fr.trans ?xa (Fr.ex ?xb)); (case xb => assumption); (case xa => walk_at "fr")))
local macro_rules | `(tactic| walk_at "go1") => `(tactic| first
  | (with_reducible refine' w_seq ?_)
  | (with_reducible refine' w_asg ?_)
  | (with_reducible refine' w_ret ?_)
  | (with_reducible refine' w_drop ?_)
  | (with_reducible refine' w_if ?_)
  | (with_reducible refine' w_next ?_)
  | (with_reducible refine' w_name ?_)
  | (with_reducible refine' w_sub ?_)
  | ((with_reducible refine' w_var ?hv ?_); (case hv => exact rfl))
  | (with_reducible refine' w_c ?_)
  | (with_reducible refine' w_op ?_)
  | (with_reducible refine' w_un ?_)
  | (with_reducible refine' w_ch ?_)
  | (with_reducible refine' w_I0 ?_)
  | ((with_reducible refine' w_I ?hc ?_); (case hc => first | (exact ly_mulL (by decide) (by decide)) | (exact ly_mulR (by decide) (by decide)) | (exact ly_mulL (by omega) (by omega)) | (show (_ : Int) ≠ 0; decide) | (show (_ : Int) ≠ 0; omega) | (exact ⟨by decide, by decide⟩) | (exact ⟨by omega, by omega⟩)))
  | (with_reducible refine' w_U ?_)
  | ((with_reducible refine' w_eq ?hs ?_); (case hs => exact rfl))
  | ((with_reducible refine' w_ne ?hs ?_); (case hs => exact rfl))
  | (with_reducible refine' w_isB ?_)
  | (with_reducible refine' w_notB ?_)
  | (with_reducible refine' w_nil ?_)
  | (with_reducible refine' w_cons ?_)
  | (with_reducible refine' w_tup ?_)
  | (with_reducible refine' w_lst ?_)
  | (with_reducible refine' w_cb ?_)
  | (with_reducible refine' w_call ?_)
  | (with_reducible refine' w_bm ?_)
  | (with_reducible refine' w_bm0 ?_)
  | ((with_reducible refine' w_app ?hh ?hz ?_); (case hh => walk_at "hp"); (case hz => first | exact ly_lt (by omega) | exact ly_lt (by simp only [List.length_append, List.length_map, List.length_cons, List.length_nil]; omega)))
  | ((with_reducible refine' w_popA ?hh ?_); (case hh => walk_at "hp"))
  | ((with_reducible refine' w_ext ?hh ?hh2 ?hz ?_); (case hh => walk_at "hp"); (case hh2 => walk_at "hp"))
  | ((with_reducible refine' w_ixL ?hh ?ha ?_); (case hh => walk_at "hp"); (case ha => first | exact rfl | exact at_map (by omega) | exact atI_last _ _ | ((refine' at_of ?ae ?ah); (case ah => assumption); (case ae => omega))))
  | ((with_reducible refine' w_ixT ?hh ?ha ?_); (case hh => walk_at "hp"); (case ha => first | exact rfl | exact at_map (by omega) | exact atI_last _ _ | ((refine' at_of ?ae ?ah); (case ah => assumption); (case ae => omega))))
  | ((with_reducible refine' w_cat ?hh ?hh2 ?hz ?_); (case hh => walk_at "hp"); (case hh2 => walk_at "hp"))
  | ((with_reducible refine' w_setL ?hh ?ha ?_); (case hh => walk_at "hp"); (case ha => exact rfl))
  | (with_reducible refine' w_test ?_)
  | (with_reducible refine' w_tB ?_)
  | (with_reducible refine' w_bl ?_)
  | (with_reducible refine' w_and ?_)
  | (with_reducible refine' w_or ?_)
  | (with_reducible refine' w_not ?_)
  | (with_reducible refine' w_andV ?_)
  | (with_reducible refine' w_orV ?_)
  | (with_reducible refine' w_notV ?_)
  | (with_reducible refine' w_ifE ?_)
  | (with_reducible refine' w_for ?_)
  | ((with_reducible refine' w_nin ?hh ?_); (case hh => walk_at "hp"))
  | ((with_reducible refine' w_sorted ?hh ?_); (case hh => walk_at "hp"))
  | (with_reducible refine' w_tsadd ?_)
  | ((with_reducible refine' w_tsadd1 ?hh ?_); (case hh => walk_at "hp"))
  | ((with_reducible refine' w_sadd ?hh ?hr ?_); (case hh => walk_at "hp"); (case hr => omega))
  | (with_reducible refine' w_iZ ?_)
  | ((with_reducible refine' w_iZ1 ?hh ?hh2 ?_); (case hh => walk_at "hp"); (case hh2 => walk_at "hp"))
  | (with_reducible refine' w_iS ?_)
  | (with_reducible refine' w_iS1 ?_)
  | ((with_reducible refine' w_gtup ?hh ?hn ?_); (case hh => walk_at "hp"); (case hn => exact rfl))
  | (with_reducible refine' w_gcons ?_)
  | (with_reducible refine' w_gnil ?_)
  | (with_reducible refine' w_js ?_)
  | (with_reducible refine' w_jsn ?_)
  | ((with_reducible refine' w_js1 ?hl ?_); (case hl => decide +kernel))
  | (with_reducible refine' w_fmt ?_)
  | ((with_reducible refine' w_fmt1 ?hl ?_); (case hl => decide +kernel))
  | (with_reducible refine' w_callS ?_)
  | ((with_reducible refine' w_truL ?hh ?_); (case hh => walk_at "hp"))
  | (with_reducible refine' w_lc ?_)
  | (with_reducible refine' w_yes ?_)
  | ((with_reducible refine' w_wipe ?he ?_); (case he => exact rfl))
  | (with_reducible refine' w_iL ?_)
  | (with_reducible refine' w_iT ?_)
  | (with_reducible refine' w_iR ?_)
  | ((with_reducible refine' w_iL1 ?hh ?_); (case hh => walk_at "hp"))
  | ((with_reducible refine' w_iT1 ?hh ?_); (case hh => walk_at "hp"))
  | ((with_reducible refine' w_iR1 ?h1 ?h2 ?_); (case h1 => omega); (case h2 => omega))
  | ((with_reducible refine' w_aug ?hv ?_); (case hv => exact rfl))
  | (with_reducible refine' w_ipI ?_)
  | ((with_reducible refine' w_isi ?hy ?hk ?_); (case hy => walk_at "ty"); (case hk => walk_at "kit"))
  | ((with_reducible refine' w_int ?_))
  | ((with_reducible refine' w_intB ?_))
  | ((with_reducible refine' w_abs ?_))
  | ((with_reducible refine' w_lenL ?hh ?_); (case hh => walk_at "hp"))
  | ((with_reducible refine' w_lenT ?hh ?_); (case hh => walk_at "hp"))
  | ((with_reducible refine' w_tupL ?hh ?_); (case hh => walk_at "hp"))
  | ((with_reducible refine' w_tupT ?hh ?_); (case hh => walk_at "hp"))
  | ((with_reducible refine' w_catA ?hh ?hh2 ?hz ?_); (case hh => walk_at "hp"); (case hh2 => walk_at "hp"); (case hz => walk_at "len"))
  | ((with_reducible refine' w_repB ?hh ?hne ?h2 ?h3 ?hz ?_); (case hh => walk_at "hp"); (case hne => simp); (case h2 => omega); (case h3 => omega); (case hz => exact Nat.le_of_ble_eq_true rfl))
  | ((with_reducible refine' w_eqN ?hh ?hh2 ?n1 ?n2 ?_); (case hh => walk_at "hp"); (case hh2 => walk_at "hp"); (case n1 => walk_at "nd"); (case n2 => walk_at "nd"))
  | ((with_reducible refine' w_neN ?hh ?hh2 ?n1 ?n2 ?_); (case hh => walk_at "hp"); (case hh2 => walk_at "hp"); (case n1 => walk_at "nd"); (case n2 => walk_at "nd"))
  | ((with_reducible refine' w_eqL ?hh ?hh2 ?n1 ?n2 ?_); (case hh => walk_at "hp"); (case hh2 => walk_at "hp"); (case n1 => walk_at "nd"); (case n2 => walk_at "nd"))
  | ((with_reducible refine' w_neL ?hh ?hh2 ?n1 ?n2 ?_); (case hh => walk_at "hp"); (case hh2 => walk_at "hp"); (case n1 => walk_at "nd"); (case n2 => walk_at "nd"))
  | ((with_reducible refine' w_neNon ?hh2 ?n2 ?_); (case hh2 => walk_at "hp"); (case n2 => walk_at "nd"))
  | ((with_reducible refine' w_eqNon ?hh2 ?n2 ?_); (case hh2 => walk_at "hp"); (case n2 => walk_at "nd"))
  | ((with_reducible refine' w_slA ?hh ?_); (case hh => walk_at "hp"))
  | ((with_reducible refine' w_disp ?hz ?_); (case hz => exact sz_of (Nat.le_of_ble_eq_true rfl)))
  | ((with_reducible refine' w_tyL ?hh ?_); (case hh => walk_at "hp"))
  | (with_reducible refine' iteT ?_)
  | (with_reducible refine' iteF ?_)
  | (with_reducible refine' w_nT ?_)
  | (with_reducible refine' w_nn ?_)
  | (with_reducible refine' w_nnT ?_)
  | (with_reducible refine' w_nnR ?_)
  | (with_reducible refine' w_neG ?_)
  | (with_reducible refine' w_eqG ?_)
  | (with_reducible refine' w_neS ?_)
  | (with_reducible refine' w_eqS ?_)
  | (with_reducible refine' w_neSb ?_)
  | (with_reducible refine' w_eqSb ?_)
  | (with_reducible refine' w_deIS ?_)
  | (with_reducible refine' w_deSI ?_)
  | (with_reducible refine' w_deISn ?_)
  | ((with_reducible refine' w_deST ?he ?_); (case he => decide +kernel))
  | ((with_reducible refine' w_deSF ?he ?_); (case he => decide +kernel))
  | ((with_reducible refine' w_deSTn ?he ?_); (case he => decide +kernel))
  | ((with_reducible refine' w_deSFn ?he ?_); (case he => decide +kernel))
  | (with_reducible refine' w_nF ?_)
  | dsimp only [Bool.not_true, Bool.not_false])
local macro_rules | `(tactic| walk_at "ty") => `(tactic| first
  | exact .base (.int _) | exact .base (.str _) | exact .base (.bl _) | exact .base .non
  | ((refine' tyx_t ?hq); (case hq => walk_at "hp")) | ((refine' tyx_l ?hq); (case hq => walk_at "hp")) | ((refine' .base (.tup ?hq)); (case hq => walk_at "hp")) | assumption)
local macro_rules | `(tactic| walk_at "go") => `(tactic| repeat walk_at "go1")
local macro_rules | `(tactic| walk_at "st") => `(tactic| try dsimp only [cxOf, Cx.nox, Cx.wish])
local macro_rules | `(tactic| walk_at "kit") => `(tactic| with_reducible first | exact kit_int_int | exact kit_int_str | exact kit_int_bool | exact kit_int_tuple | exact kit_int_list | exact kit_str_int | exact kit_str_str | exact kit_str_bool | exact kit_str_tuple | exact kit_str_list | exact kit_bool_int | exact kit_bool_str | exact kit_bool_bool | exact kit_bool_tuple | exact kit_bool_list | exact kit_NoneType_int | exact kit_NoneType_str | exact kit_NoneType_bool | exact kit_NoneType_tuple | exact kit_NoneType_list | exact kit_list_int | exact kit_list_str | exact kit_list_bool | exact kit_list_tuple | exact kit_list_list | exact kit_tuple_int | exact kit_tuple_str | exact kit_tuple_bool | exact kit_tuple_tuple | exact kit_tuple_list)
local macro_rules | `(tactic| walk_at "nd") => `(tactic| first
  | assumption
  | exact Tm.nds _
  | exact Nds.nil
  | exact Nds.ofInts _
  | ((refine' Nds.cons ?na ?nb); (case na => first | exact Nds.I _ | exact Nds.L | exact Nds.A); (case nb => walk_at "nd"))
  | ((refine' Nds.app ?na ?nb); (case na => walk_at "nd"); (case nb => walk_at "nd"))
  | ((refine' Nds.rep ?na _); (case na => walk_at "nd")))
local macro_rules | `(tactic| walk_at "len") => `(tactic| first
  | exact ly_sz (by omega)
  | ((simp only [List.length_append, List.length_cons, List.length_nil, List.length_map, PyProof.Rows.lm_len_rep_flat]); exact ly_sz (by omega)))
local macro_rules | `(tactic| walk_at "go1") => `(tactic| first
  | (with_reducible refine' w_kget2 ?_)
  | (with_reducible refine' w_isRN ?_)
  | (with_reducible refine' w_isNN ?_)
  | (with_reducible refine' w_isIN ?_)
  | ((with_reducible refine' w_kg ?hd ?_); (case hd => assumption)))
local macro_rules | `(tactic| walk_at "go1") => `(tactic| first
  | ((with_reducible refine' w_extT ?hh ?hh2 ?hz ?_); (case hh => walk_at "hp"); (case hh2 => walk_at "hp"))
  | ((with_reducible refine' w_I ?hc ?_); (case hc => exact ⟨by decide, by decide, by decide⟩))
  | (with_reducible refine' w_sl ?_)
  | (with_reducible refine' w_noP ?_)
  | (with_reducible refine' w_part ?_)
  | (with_reducible refine' w_part1 ?_)
  | (with_reducible refine' w_it ?_)
  | (with_reducible refine' w_it1 ?_)
  | ((with_reducible refine' w_lenZ ?hz ?_); (case hz => omega))
  | ((with_reducible refine' w_addZb ?hz ?_); (case hz => omega))
  | ((with_reducible refine' w_addZf ?hz ?_); (case hz => omega))
  | ((with_reducible refine' w_addZa ?hz ?_); (case hz => omega))
  | ((with_reducible refine' w_inS ?hh ?_); (case hh => walk_at "hp"))
  | ((with_reducible refine' w_ixT ?hh ?ha ?_); (case hh => assumption); (case ha => exact atI_nat (by assumption))))
section
variable {P : Program} {w : World} {K : PySem.W.Frag} {mg : Str → Option Value} {base : Heap} {tk : Nat → Tok} {cl : Nat → Addr}
/-! ### a drawn combination -/
def spComb (K : PySem.W.Frag) : Sp := fun vs H Q _ => ∃ (s : Addr) (m : Stm) (size widest : Nat), vs = [.ref s, .int (size : Int), .int (widest : Int)] ∧ StAt H s m ∧ 1 ≤ size ∧ size ≤ 1000000 ∧ widest ≤ 1000000 ∧
  ∀ H' p m' (t : Cb), Fr s H H' → StAt H' s m' → Fol m m' → SqT K H' p t.enc → t.lt widest → t.enc.length ≤ size → Q (.ref p) H'
def CInv (a nl : Addr) (H : Hp) (size widest : Nat) (m : Stm) (n : Nat) (σ : L2.St) (H' : Hp) : Prop := ∃ (m' : Stm) (nodes : List V) (k : Nat) (y1 : Option V), σ = [some (.ref a), some (.int (size : Int)), some (.int (widest : Int)), some (.ref nl), some (.int (k : Int)), y1] ∧ Fr a H H' ∧ StAt H' a m' ∧ Fol m m' ∧ H' nl = some (.lst nodes) ∧
  CComp widest nodes k ∧ nodes.length + k ≤ size ∧ nodes.length = n
theorem ok_comb {f : Addr} {fd : FuncData} (F : Fun K "_law_combination" "_law_combination" s_law_combination f fd) (T : Txt w K mg tk cl)
    (D1 : Def P w K mg base CX0 1 "_law_draw" ["stream", "many"] spDraw) : FnOk P w K mg base CX0 2 f fd ["stream", "size", "widest"] (spComb K) := by
  obtain ⟨f1, fd1, g_law_draw, kp_law_draw, b_law_draw, G_law_draw⟩ := D1
  refine F.ok sc_law_combination (fun vs H Q E h => ?_) (fun cdv A outer s H vs Q E hr h => ?_)
  · obtain ⟨a, m, n1, n2, rfl, _⟩ := h
    rfl
  · obtain ⟨a, m, size, widest, rfl, hst, hs1, hs2, hw, q⟩ := h
    refine ⟨_, (pss_cons (ps_set (i := 3) sc_law_combination.nd rfl (.inl rfl) (pe_lst pa_nil)) (pss_cons (ps_set (i := 4) sc_law_combination.nd rfl (.inl rfl) pe_int) (pss_cons (ps_while PassesOwn.never (pt_cmpR op_gt (pv 4) pe_int (nomark _)) (pss_cons (ps_set (i := 4) sc_law_combination.nd rfl (.inl rfl) (pe_op op_sub (pv 4) pe_int)) (pss_cons (ps_set (i := 5) sc_law_combination.nd rfl (.inl rfl) (pe_op op_sub (pe_op op_sub (pe_op op_sub (pv 1) (pe_callB call_len_seq (by rfl) T.n_len (by decide +kernel) (pa_cons (pv 3) pa_nil))) (pv 4)) pe_int)) (pss_one (ps_if (PW.pt (pw_and (pt_cmpR op_gt (pv 5) pe_int (nomark _)) (pw_and1 (pt_cmpR op_gt (pe_call G_law_draw (hr.mono (by first | decide | omega)) (by rfl) g_law_draw kp_law_draw b_law_draw .nil pass0 (pa_cons (pv 0) (pa_cons pe_int pa_nil))) pe_int (nomark _))))) (pss_cons (ps_expr (pe_bm PySem.F.plainAttrs_list PySem.F.slot_list_append PySem.F.type_list_append mt_append (pv 3) (pa_cons pe_str pa_nil))) (pss_one (ps_set (i := 4) sc_law_combination.nd rfl (.inl rfl) (pe_op op_add (pv 4) pe_int)))) (pss_cons (ps_expr (pe_bm PySem.F.plainAttrs_list PySem.F.slot_list_append PySem.F.type_list_append mt_append (pv 3) (pa_cons (pe_ix ix_list (pe_lst (pa_cons pe_str (pa_cons pe_str (pa_cons pe_str (pa_cons pe_str (pa_cons pe_str pa_nil)))))) (pe_call G_law_draw (hr.mono (by first | decide | omega)) (by rfl) g_law_draw kp_law_draw b_law_draw .nil pass0 (pa_cons (pv 0) (pa_cons pe_int pa_nil))) (fun _ _ => rfl)) pa_nil))) (pss_one (ps_if (PW.pt (pw_and (pt_cmpR op_gt (pv 2) pe_int (nomark _)) (pw_and1 (pt_cmpR op_eq (pe_call G_law_draw (hr.mono (by first | decide | omega)) (by rfl) g_law_draw kp_law_draw b_law_draw .nil pass0 (pa_cons (pv 0) (pa_cons pe_int pa_nil))) pe_int (nomark _))))) (pss_one (ps_asg (pe_call G_law_draw (hr.mono (by first | decide | omega)) (by rfl) g_law_draw kp_law_draw b_law_draw .nil pass0 (pa_cons (pv 0) (pa_cons (pv 2) pa_nil))) (pg_sub (pv 3) (pe_un un_neg pe_int) set_list))) pss_nil)))))))) (pss_one (ps_ret (pe_callTy call_tuple_of (by rfl) T.n_tuple (by decide +kernel) (pa_cons (pv 3) pa_nil))))))), ?_⟩
    refine sl_of (σ2 := [some _, some _, some _, none, none, none]) rfl ?_
    walk_at "st"
    walk_at "go"
    intro nl hnl
    obtain ⟨hna, hnh⟩ := hst.ne hnl
    walk_at "go"
    refine w_while (fun k σ' H' => ∃ n, CInv a nl H size widest m n σ' H' ∧ k = size + 1 - n) (size + 1) ⟨0, ⟨m, [], 1, none, rfl, by walk_at "fr", hst.new hnl, Fol.refl _, upd_same, CComp.start _, by simp; omega, rfl⟩, rfl⟩ ?_
    rintro k σ H1 ⟨n, ⟨m1, nodes, mi, y1, rfl, fr1, st1, fol1, hn1, hcomp, hphi, hlen⟩, rfl⟩
    have hnh1 : ∀ {m2 : Stm}, Fol m m2 → nl ≠ m2.home := fun {m2} h => by
      rw [h.1]
      exact hnh
    walk_at "go"
    refine w_br (fun h0 => ?_) (fun h0 => ?_)
    · obtain ⟨mi, rfl⟩ : ∃ j, mi = j + 1 := ⟨mi - 1, by omega⟩
      refine ⟨CInv a nl H size widest m (n + 1), fun σ' H' h => ⟨size + 1 - (n + 1), by omega, n + 1, h, rfl⟩, ?_⟩
      walk_at "go"
      have e0 : (((mi + 1 : Nat) : Int) - 1) = (mi : Int) := by omega
      rw [e0]
      have leafW : ∀ {H4 : Hp} {m4 : Stm} {c : Cb} {y1 : Option V}, Fr a H H4 → StAt H4 a m4 → Fol m m4 → c.lt widest → c.enc.length = 1 → H4 nl = some (.lst (nodes ++ c.enc)) → CInv a nl H size widest m (n + 1) [some (.ref a), some (.int (size : Int)), some (.int (widest : Int)), some (.ref nl), some (.int (mi : Int)), y1] H4 := fun {H4 m4 c y1} fr st fol hc hl h4 =>
        ⟨m4, nodes ++ c.enc, mi, y1, rfl, fr, st, fol, h4, hcomp.leaf c hc, by rw [List.length_append, hl]; omega, by rw [List.length_append, hl, hlen]⟩
      refine w_br (fun h1 => ?_) (fun h1 => ?_)
      · walk_at "go"
        refine ⟨a, m1, 4, rfl, st1, by decide, by decide, fun HX fr2 stX => ?_⟩
        have folX := fol1.step 4
        have hnX : HX nl = some (.lst nodes) := by walk_at "hp"
        have frX := fr1.trans fr2
        generalize m1.val 4 = pick at *
        generalize m1.next 4 = mX at *
        clear st1 fol1 hn1 fr1 fr2
        walk_at "go"
        refine w_br (fun h2 => ?_) (fun h2 => ?_)
        · walk_at "go"
          have e2 : ((mi : Int) + 2) = ((mi + 2 : Nat) : Int) := by omega
          rw [e2]
          exact ⟨mX, nodes ++ [.str "app"], mi + 2, _, rfl, Fr.mut frX hnl, stX.put hna (hnh1 folX), folX, upd_same, hcomp.app, by rw [List.length_append, List.length_singleton]; omega, by rw [List.length_append, List.length_singleton, hlen]⟩
        walk_at "go"
        intro p hp
        walk_at "go"
        have hpl : p ≠ nl := (ne_of_none hnX hp).symm
        have hpa : p ≠ a := (stX.ne hp).1
        refine ⟨a, mX, 5, rfl, stX.new hp, by decide, by decide, fun H3 fr3 st3 => ?_⟩
        have v3 := mX.val_lt (n := 5) (by decide)
        have fol3 := folX.step 5
        have hn3 : H3 nl = some (.lst nodes) := by walk_at "hp"
        have hp3 : H3 p = some (.lst [V.str "S", V.str "K", V.str "I", V.str "S", V.str "K"]) := by walk_at "hp"
        have frH3 : Fr a H H3 := (Fr.new frX hp).trans fr3
        obtain ⟨v, ev, iv⟩ := at_in (xs := [V.str "S", V.str "K", V.str "I", V.str "S", V.str "K"]) v3.1 v3.2
        have hc : ∃ c : Cb, c.enc = [v] ∧ c.lt widest := by
          simp only [List.mem_cons, List.not_mem_nil, or_false] at iv
          rcases iv with rfl | rfl | rfl | rfl | rfl
          · exact ⟨.S, rfl, trivial⟩
          · exact ⟨.K, rfl, trivial⟩
          · exact ⟨.I, rfl, trivial⟩
          · exact ⟨.S, rfl, trivial⟩
          · exact ⟨.K, rfl, trivial⟩
        obtain ⟨c, hce, hcl⟩ := hc
        generalize mX.val 5 = i5 at *
        generalize mX.next 5 = m3 at *
        refine w_ixL (SqL.of hp3) ev ?_
        walk_at "go"
        have hn4 : upd H3 nl (.lst (nodes ++ [v])) nl = some (.lst (nodes ++ [v])) := upd_same
        have st4 := st3.put (o := .lst (nodes ++ [v])) hna (hnh1 fol3)
        have fr4 : Fr a H (upd H3 nl (.lst (nodes ++ [v]))) := Fr.mut frH3 hnl
        generalize upd H3 nl (.lst (nodes ++ [v])) = H4 at *
        refine w_br (fun h3 => ?_) (fun h3 => ?_)
        · walk_at "go"
          refine ⟨a, m3, 3, rfl, st4, by decide, by decide, fun H5 fr5 st5 => ?_⟩
          have hn5 : H5 nl = some (.lst (nodes ++ [v])) := by walk_at "hp"
          have frH5 := fr4.trans fr5
          have fol5 := fol3.step 3
          generalize m3.val 3 = i3 at *
          generalize m3.next 3 = m5 at *
          walk_at "go"
          refine w_brI (fun h4 => ?_) (fun h4 => ?_)
          · walk_at "go"
            refine ⟨a, m5, (widest : Int), rfl, st5, by omega, by omega, fun H6 fr6 st6 => ?_⟩
            have v6 := m5.val_lt (n := (widest : Int)) (by omega)
            have hn6 : H6 nl = some (.lst (nodes ++ [v])) := by walk_at "hp"
            obtain ⟨x, hx⟩ : ∃ x : Nat, m5.val (widest : Int) = (x : Int) := ⟨(m5.val (widest : Int)).toNat, (Int.toNat_of_nonneg v6.1).symm⟩
            rw [hx] at v6 ⊢
            walk_at "go"
            refine w_setL hn6 (ixN_last (by simp)) ?_
            rw [set_last]
            exact leafW (c := .var x) (Fr.mut (frH5.trans fr6) hnl) (st6.put hna (hnh1 (fol5.step _))) (fol5.step _) (show x < widest by omega) rfl upd_same
          · walk_at "go"
            exact leafW (c := c) frH5 st5 fol5 hcl (by rw [hce]; rfl) (by rw [hce]; exact hn5)
        · refine iteF ?_
          walk_at "go"
          exact leafW (c := c) fr4 st4 fol3 hcl (by rw [hce]; rfl) (by rw [hce]; exact hn4)
      · refine iteF ?_
        obtain ⟨HX, mX, rfl, rfl⟩ : ∃ HX mX, HX = H1 ∧ mX = m1 := ⟨_, _, rfl, rfl⟩
        have stX := st1
        have folX := fol1
        have hnX := hn1
        have frX := fr1
        clear st1 fol1 hn1 fr1
        walk_at "go"
        intro p hp
        walk_at "go"
        have hpl : p ≠ nl := (ne_of_none hnX hp).symm
        have hpa : p ≠ a := (stX.ne hp).1
        refine ⟨a, mX, 5, rfl, stX.new hp, by decide, by decide, fun H3 fr3 st3 => ?_⟩
        have v3 := mX.val_lt (n := 5) (by decide)
        have fol3 := folX.step 5
        have hn3 : H3 nl = some (.lst nodes) := by walk_at "hp"
        have hp3 : H3 p = some (.lst [V.str "S", V.str "K", V.str "I", V.str "S", V.str "K"]) := by walk_at "hp"
        have frH3 : Fr a H H3 := (Fr.new frX hp).trans fr3
        obtain ⟨v, ev, iv⟩ := at_in (xs := [V.str "S", V.str "K", V.str "I", V.str "S", V.str "K"]) v3.1 v3.2
        have hc : ∃ c : Cb, c.enc = [v] ∧ c.lt widest := by
          simp only [List.mem_cons, List.not_mem_nil, or_false] at iv
          rcases iv with rfl | rfl | rfl | rfl | rfl
          · exact ⟨.S, rfl, trivial⟩
          · exact ⟨.K, rfl, trivial⟩
          · exact ⟨.I, rfl, trivial⟩
          · exact ⟨.S, rfl, trivial⟩
          · exact ⟨.K, rfl, trivial⟩
        obtain ⟨c, hce, hcl⟩ := hc
        generalize mX.val 5 = i5 at *
        generalize mX.next 5 = m3 at *
        refine w_ixL (SqL.of hp3) ev ?_
        walk_at "go"
        have hn4 : upd H3 nl (.lst (nodes ++ [v])) nl = some (.lst (nodes ++ [v])) := upd_same
        have st4 := st3.put (o := .lst (nodes ++ [v])) hna (hnh1 fol3)
        have fr4 : Fr a H (upd H3 nl (.lst (nodes ++ [v]))) := Fr.mut frH3 hnl
        generalize upd H3 nl (.lst (nodes ++ [v])) = H4 at *
        refine w_br (fun h3 => ?_) (fun h3 => ?_)
        · walk_at "go"
          refine ⟨a, m3, 3, rfl, st4, by decide, by decide, fun H5 fr5 st5 => ?_⟩
          have hn5 : H5 nl = some (.lst (nodes ++ [v])) := by walk_at "hp"
          have frH5 := fr4.trans fr5
          have fol5 := fol3.step 3
          generalize m3.val 3 = i3 at *
          generalize m3.next 3 = m5 at *
          walk_at "go"
          refine w_brI (fun h4 => ?_) (fun h4 => ?_)
          · walk_at "go"
            refine ⟨a, m5, (widest : Int), rfl, st5, by omega, by omega, fun H6 fr6 st6 => ?_⟩
            have v6 := m5.val_lt (n := (widest : Int)) (by omega)
            have hn6 : H6 nl = some (.lst (nodes ++ [v])) := by walk_at "hp"
            obtain ⟨x, hx⟩ : ∃ x : Nat, m5.val (widest : Int) = (x : Int) := ⟨(m5.val (widest : Int)).toNat, (Int.toNat_of_nonneg v6.1).symm⟩
            rw [hx] at v6 ⊢
            walk_at "go"
            refine w_setL hn6 (ixN_last (by simp)) ?_
            rw [set_last]
            exact leafW (c := .var x) (Fr.mut (frH5.trans fr6) hnl) (st6.put hna (hnh1 (fol5.step _))) (fol5.step _) (show x < widest by omega) rfl upd_same
          · walk_at "go"
            exact leafW (c := c) frH5 st5 fol5 hcl (by rw [hce]; rfl) (by rw [hce]; exact hn5)
        · refine iteF ?_
          walk_at "go"
          exact leafW (c := c) fr4 st4 fol3 hcl (by rw [hce]; rfl) (by rw [hce]; exact hn4)
    · have e0 : mi = 0 := by omega
      subst e0
      obtain ⟨t, ht1, ht2⟩ := hcomp.done
      walk_at "go"
      intro p hp
      refine q _ p m1 t ?_ (st1.new hp) fol1 ?_ ht1 (by rw [ht2]; omega)
      · walk_at "fr"
      · rw [ht2]
        exact SqT.of upd_same
end
end Ly
set_option Elab.async false
set_option linter.all false
set_option maxRecDepth 100000
set_option maxHeartbeats 8000000
namespace Ly
open PySem PySem.Spec PyProof.Rows L2 Evl
local macro_rules | `(tactic| walk_at "ne") => `(tactic| first
  | assumption
  | ((refine' Ne.symm ?hq); (case hq => assumption))
  | ((refine' ne_of_none ?nh1 ?nh2); (case nh2 => assumption); (case nh1 => walk_at "hp"))
  | ((refine' Ne.symm (ne_of_none ?nh1 ?nh2)); (case nh2 => assumption); (case nh1 => walk_at "hp")))
local macro_rules | `(tactic| walk_at "hp") => `(tactic| first
  | assumption
  | exact upd_same
  | ((refine' SqL.of ?hq); (case hq => walk_at "hp"))
  | ((refine' SqT.of ?hq); (case hq => walk_at "hp"))
  | ((refine' (upd_ne ?hne).trans ?hrest); (case hne => walk_at "ne"); (case hrest => walk_at "hp"))
  | ((refine' ly_at ?hex ?hh); (case hex => assumption); (case hh => walk_at "hp"))
  | ((refine' ly_atF ?hex ?hnn ?hh); (case hex => assumption); (case hh => walk_at "hp"); (case hnn => walk_at "ne"))
  | ((refine' ex_t ?hex ?hh); (case hh => assumption); (case hex => walk_at "ex"))
  | ((refine' ex_l ?hex ?hh); (case hh => assumption); (case hex => walk_at "ex")))
local macro_rules | `(tactic| walk_at "ex") => `(tactic| first
  | assumption
  | exact Ex.refl _
  | ((refine' ex_new ?xa ?xb); (case xb => assumption); (case xa => walk_at "ex"))
  | ((refine' ex_upd ?xa ?xb); (case xb => walk_at "free"); (case xa => walk_at "ex"))
  | ((refine' Ex.trans ?xa ?xb); (case xb => assumption); (case xa => walk_at "ex")))
local macro_rules | `(tactic| walk_at "free") => `(tactic| first
  | assumption
  | ((refine' fresh_back ?xa ?xb); (case xb => assumption); (case xa => walk_at "ex")))
local macro_rules | `(tactic| walk_at "fr") => `(tactic| first
  | assumption
  | exact Fr.refl _ _
  | ((refine' Fr.own ?hq); (case hq => walk_at "fr"))
  | ((refine' Fr.new ?xa ?xb); (case xb => assumption); (case xa => walk_at "fr"))
  | ((refine' Fr.mut ?xa ?xb); (case xb => assumption); (case xa => walk_at "fr"))
  | ((refine' Fr.trans ?xa ?xb); (case xb => assumption); (case xa => walk_at "fr"))
  | ((refine' Fr.trans ?xa (Fr.ex ?xb)); (case xb => assumption); (case xa => walk_at "fr")))
local macro_rules | `(tactic| walk_at "go1") => `(tactic| first
  | (with_reducible refine' w_seq ?_)
  | (with_reducible refine' w_asg ?_)
  | (with_reducible refine' w_ret ?_)
  | (with_reducible refine' w_drop ?_)
  | (with_reducible refine' w_if ?_)
  | (with_reducible refine' w_next ?_)
  | (with_reducible refine' w_name ?_)
  | (with_reducible refine' w_sub ?_)
  | ((with_reducible refine' w_var ?hv ?_); (case hv => exact rfl))
  | (with_reducible refine' w_c ?_)
  | (with_reducible refine' w_op ?_)
  | (with_reducible refine' w_un ?_)
  | (with_reducible refine' w_ch ?_)
  | (with_reducible refine' w_I0 ?_)
  | ((with_reducible refine' w_I ?hc ?_); (case hc => first | (exact ly_mulL (by decide) (by decide)) | (exact ly_mulR (by decide) (by decide)) | (exact ly_mulL (by omega) (by omega)) | (show (_ : Int) ≠ 0; decide) | (show (_ : Int) ≠ 0; omega) | (exact ⟨by decide, by decide⟩) | (exact ⟨by omega, by omega⟩)))
  | (with_reducible refine' w_U ?_)
  | ((with_reducible refine' w_eq ?hs ?_); (case hs => exact rfl))
  | ((with_reducible refine' w_ne ?hs ?_); (case hs => exact rfl))
  | (with_reducible refine' w_isB ?_)
  | (with_reducible refine' w_notB ?_)
  | (with_reducible refine' w_nil ?_)
  | (with_reducible refine' w_cons ?_)
  | (with_reducible refine' w_tup ?_)
  | (with_reducible refine' w_lst ?_)
  | (with_reducible refine' w_cb ?_)
  | (with_reducible refine' w_call ?_)
  | (with_reducible refine' w_bm ?_)
  | (with_reducible refine' w_bm0 ?_)
  | ((with_reducible refine' w_app ?hh ?hz ?_); (case hh => walk_at "hp"); (case hz => first | exact ly_lt (by omega) | exact ly_lt (by simp only [List.length_append, List.length_map, List.length_cons, List.length_nil]; omega)))
  | ((with_reducible refine' w_popA ?hh ?_); (case hh => walk_at "hp"))
  | ((with_reducible refine' w_ext ?hh ?hh2 ?hz ?_); (case hh => walk_at "hp"); (case hh2 => walk_at "hp"))
  | ((with_reducible refine' w_ixL ?hh ?ha ?_); (case hh => walk_at "hp"); (case ha => first | exact rfl | exact at_map (by omega) | exact atI_last _ _ | ((refine' at_of ?ae ?ah); (case ah => assumption); (case ae => omega))))
  | ((with_reducible refine' w_ixT ?hh ?ha ?_); (case hh => walk_at "hp"); (case ha => first | exact rfl | exact at_map (by omega) | exact atI_last _ _ | ((refine' at_of ?ae ?ah); (case ah => assumption); (case ae => omega))))
  | ((with_reducible refine' w_cat ?hh ?hh2 ?hz ?_); (case hh => walk_at "hp"); (case hh2 => walk_at "hp"))
  | ((with_reducible refine' w_setL ?hh ?ha ?_); (case hh => walk_at "hp"); (case ha => exact rfl))
  | (with_reducible refine' w_test ?_)
  | (with_reducible refine' w_tB ?_)
  | (with_reducible refine' w_bl ?_)
  | (with_reducible refine' w_and ?_)
  | (with_reducible refine' w_or ?_)
  | (with_reducible refine' w_not ?_)
  | (with_reducible refine' w_andV ?_)
  | (with_reducible refine' w_orV ?_)
  | (with_reducible refine' w_notV ?_)
  | (with_reducible refine' w_ifE ?_)
  | (with_reducible refine' w_for ?_)
  | ((with_reducible refine' w_nin ?hh ?_); (case hh => walk_at "hp"))
  | ((with_reducible refine' w_sorted ?hh ?_); (case hh => walk_at "hp"))
  | (with_reducible refine' w_tsadd ?_)
  | ((with_reducible refine' w_tsadd1 ?hh ?_); (case hh => walk_at "hp"))
  | ((with_reducible refine' w_sadd ?hh ?hr ?_); (case hh => walk_at "hp"); (case hr => omega))
  | (with_reducible refine' w_iZ ?_)
  | ((with_reducible refine' w_iZ1 ?hh ?hh2 ?_); (case hh => walk_at "hp"); (case hh2 => walk_at "hp"))
  | (with_reducible refine' w_iS ?_)
  | (with_reducible refine' w_iS1 ?_)
  | ((with_reducible refine' w_gtup ?hh ?hn ?_); (case hh => walk_at "hp"); (case hn => exact rfl))
  | (with_reducible refine' w_gcons ?_)
  | (with_reducible refine' w_gnil ?_)
  | (with_reducible refine' w_js ?_)
  | (with_reducible refine' w_jsn ?_)
  | ((with_reducible refine' w_js1 ?hl ?_); (case hl => decide +kernel))
  | (with_reducible refine' w_fmt ?_)
  | ((with_reducible refine' w_fmt1 ?hl ?_); (case hl => decide +kernel))
  | (with_reducible refine' w_callS ?_)
  | ((with_reducible refine' w_truL ?hh ?_); (case hh => walk_at "hp"))
  | (with_reducible refine' w_lc ?_)
  | (with_reducible refine' w_yes ?_)
  | ((with_reducible refine' w_wipe ?he ?_); (case he => exact rfl))
  | (with_reducible refine' w_iL ?_)
  | (with_reducible refine' w_iT ?_)
  | (with_reducible refine' w_iR ?_)
  | ((with_reducible refine' w_iL1 ?hh ?_); (case hh => walk_at "hp"))
  | ((with_reducible refine' w_iT1 ?hh ?_); (case hh => walk_at "hp"))
  | ((with_reducible refine' w_iR1 ?h1 ?h2 ?_); (case h1 => omega); (case h2 => omega))
  | ((with_reducible refine' w_aug ?hv ?_); (case hv => exact rfl))
  | (with_reducible refine' w_ipI ?_)
  | ((with_reducible refine' w_isi ?hy ?hk ?_); (case hy => walk_at "ty"); (case hk => walk_at "kit"))
  | ((with_reducible refine' w_int ?_))
  | ((with_reducible refine' w_intB ?_))
  | ((with_reducible refine' w_abs ?_))
  | ((with_reducible refine' w_lenL ?hh ?_); (case hh => walk_at "hp"))
  | ((with_reducible refine' w_lenT ?hh ?_); (case hh => walk_at "hp"))
  | ((with_reducible refine' w_tupL ?hh ?_); (case hh => walk_at "hp"))
  | ((with_reducible refine' w_tupT ?hh ?_); (case hh => walk_at "hp"))
  | ((with_reducible refine' w_catA ?hh ?hh2 ?hz ?_); (case hh => walk_at "hp"); (case hh2 => walk_at "hp"); (case hz => walk_at "len"))
  | ((with_reducible refine' w_repB ?hh ?hne ?h2 ?h3 ?hz ?_); (case hh => walk_at "hp"); (case hne => simp); (case h2 => omega); (case h3 => omega); (case hz => exact Nat.le_of_ble_eq_true rfl))
  | ((with_reducible refine' w_eqN ?hh ?hh2 ?n1 ?n2 ?_); (case hh => walk_at "hp"); (case hh2 => walk_at "hp"); (case n1 => walk_at "nd"); (case n2 => walk_at "nd"))
  | ((with_reducible refine' w_neN ?hh ?hh2 ?n1 ?n2 ?_); (case hh => walk_at "hp"); (case hh2 => walk_at "hp"); (case n1 => walk_at "nd"); (case n2 => walk_at "nd"))
  | ((with_reducible refine' w_eqL ?hh ?hh2 ?n1 ?n2 ?_); (case hh => walk_at "hp"); (case hh2 => walk_at "hp"); (case n1 => walk_at "nd"); (case n2 => walk_at "nd"))
  | ((with_reducible refine' w_neL ?hh ?hh2 ?n1 ?n2 ?_); (case hh => walk_at "hp"); (case hh2 => walk_at "hp"); (case n1 => walk_at "nd"); (case n2 => walk_at "nd"))
  | ((with_reducible refine' w_neNon ?hh2 ?n2 ?_); (case hh2 => walk_at "hp"); (case n2 => walk_at "nd"))
  | ((with_reducible refine' w_eqNon ?hh2 ?n2 ?_); (case hh2 => walk_at "hp"); (case n2 => walk_at "nd"))
  | ((with_reducible refine' w_slA ?hh ?_); (case hh => walk_at "hp"))
  | ((with_reducible refine' w_disp ?hz ?_); (case hz => exact sz_of (Nat.le_of_ble_eq_true rfl)))
  | ((with_reducible refine' w_tyL ?hh ?_); (case hh => walk_at "hp"))
  | (with_reducible refine' iteT ?_)
  | (with_reducible refine' iteF ?_)
  | (with_reducible refine' w_nT ?_)
  | (with_reducible refine' w_nn ?_)
  | (with_reducible refine' w_nnT ?_)
  | (with_reducible refine' w_nnR ?_)
  | (with_reducible refine' w_neG ?_)
  | (with_reducible refine' w_eqG ?_)
  | (with_reducible refine' w_neS ?_)
  | (with_reducible refine' w_eqS ?_)
  | (with_reducible refine' w_neSb ?_)
  | (with_reducible refine' w_eqSb ?_)
  | (with_reducible refine' w_deIS ?_)
  | (with_reducible refine' w_deSI ?_)
  | (with_reducible refine' w_deISn ?_)
  | ((with_reducible refine' w_deST ?he ?_); (case he => decide +kernel))
  | ((with_reducible refine' w_deSF ?he ?_); (case he => decide +kernel))
  | ((with_reducible refine' w_deSTn ?he ?_); (case he => decide +kernel))
  | ((with_reducible refine' w_deSFn ?he ?_); (case he => decide +kernel))
  | (with_reducible refine' w_nF ?_)
  | dsimp only [Bool.not_true, Bool.not_false])
local macro_rules | `(tactic| walk_at "ty") => `(tactic| first
  | exact .base (.int _) | exact .base (.str _) | exact .base (.bl _) | exact .base .non
  | ((refine' tyx_t ?hq); (case hq => walk_at "hp")) | ((refine' tyx_l ?hq); (case hq => walk_at "hp")) | ((refine' .base (.tup ?hq)); (case hq => walk_at "hp")) | assumption)
local macro_rules | `(tactic| walk_at "go") => `(tactic| repeat walk_at "go1")
local macro_rules | `(tactic| walk_at "st") => `(tactic| try dsimp only [cxOf, Cx.nox, Cx.wish])
local macro_rules | `(tactic| walk_at "kit") => `(tactic| with_reducible first | exact kit_int_int | exact kit_int_str | exact kit_int_bool | exact kit_int_tuple | exact kit_int_list | exact kit_str_int | exact kit_str_str | exact kit_str_bool | exact kit_str_tuple | exact kit_str_list | exact kit_bool_int | exact kit_bool_str | exact kit_bool_bool | exact kit_bool_tuple | exact kit_bool_list | exact kit_NoneType_int | exact kit_NoneType_str | exact kit_NoneType_bool | exact kit_NoneType_tuple | exact kit_NoneType_list | exact kit_list_int | exact kit_list_str | exact kit_list_bool | exact kit_list_tuple | exact kit_list_list | exact kit_tuple_int | exact kit_tuple_str | exact kit_tuple_bool | exact kit_tuple_tuple | exact kit_tuple_list)
local macro_rules | `(tactic| walk_at "nd") => `(tactic| first
  | assumption
  | exact Tm.nds _
  | exact Nds.nil
  | exact Nds.ofInts _
  | ((refine' Nds.cons ?na ?nb); (case na => first | exact Nds.I _ | exact Nds.L | exact Nds.A); (case nb => walk_at "nd"))
  | ((refine' Nds.app ?na ?nb); (case na => walk_at "nd"); (case nb => walk_at "nd"))
  | ((refine' Nds.rep ?na _); (case na => walk_at "nd")))
local macro_rules | `(tactic| walk_at "len") => `(tactic| first
  | exact ly_sz (by omega)
  | ((simp only [List.length_append, List.length_cons, List.length_nil, List.length_map, PyProof.Rows.lm_len_rep_flat]); exact ly_sz (by omega)))
local macro_rules | `(tactic| walk_at "go1") => `(tactic| first
  | (with_reducible refine' w_kget2 ?_)
  | (with_reducible refine' w_isRN ?_)
  | (with_reducible refine' w_isNN ?_)
  | (with_reducible refine' w_isIN ?_)
  | ((with_reducible refine' w_kg ?hd ?_); (case hd => assumption)))

section
variable {P : Program} {w : World} {K : PySem.W.Frag} {mg : Str → Option Value} {base : Heap} {tk : Nat → Tok} {cl : Nat → Addr}
/-! ### what is too large -/
def spSize (C : Addr) : Sp := fun vs H Q E => ∃ n : Int, vs = [.int n] ∧ (n ≤ 1000 → Q .non H) ∧ (¬ n ≤ 1000 → E (.ref C) none H)
theorem ok_check_size {f : Addr} {fd : FuncData} {k : Nat} (F : Fun K "check_size" "check_size" s_check_size f fd) (T : Txt w K mg tk cl) : FnOk P w K mg base (L2.CX P w) (k + 1) f fd ["size"] (spSize (cl 1)) := by
  refine F.okX sc_check_size (fun vs H Q E h => ?_) (fun cdv A outer s H vs Q E hr h => ?_)
  · obtain ⟨n, rfl, _⟩ := h
    rfl
  · obtain ⟨n, rfl, q, x⟩ := h
    refine ⟨_, (pss_one (ps_if (pt_cmpR op_gt (pv 0) (pe_glob (v := .int 1000) rfl T.g_MOST_NODES ⟨_, rfl⟩) (nomark _)) (pss_one (ps_raise rfl (takes_of rfl rfl rfl rfl) (SkE.pmk_own1 PySem.F.excBase_ValueError T.x_TooLarge T.g_TooLarge T.k_TooLarge (raises_own T.b_TooLarge T.t_TooLarge) rfl (pe_joined (.cons pe_str (.cons (pe_fmt (pe_glob (v := .int 1000) rfl T.g_MOST_NODES ⟨_, rfl⟩)) (.cons pe_str .nil))))))) pss_nil)), ?_⟩
    refine sl_of (σ2 := [some _]) rfl ?_
    walk_at "st"
    walk_at "go"
    refine w_br (fun h1 => ?_) (fun h1 => ?_)
    · walk_at "go"
      exact x (by omega)
    · walk_at "go"
      exact q (by omega)
def spChecked (K : PySem.W.Frag) (C : Addr) : Sp := fun vs H Q E => ∃ a xs, vs = [.ref a] ∧ SqT K H a xs ∧ Flat xs ∧ (fitsV xs = true → Q (.ref a) H) ∧ (fitsV xs = false → E (.ref C) none H)
theorem ok_checked {f : Addr} {fd : FuncData} (F : Fun K "checked" "checked" s_checked f fd) (T : Txt w K mg tk cl)
    (D1 : Def P w K mg base (L2.CX P w) 1 "check_size" ["size"] (spSize (cl 1))) : FnOk P w K mg base (L2.CX P w) 2 f fd ["term"] (spChecked K (cl 1)) := by
  obtain ⟨f1, fd1, g_check_size, kp_check_size, b_check_size, G_check_size⟩ := D1
  refine F.okX sc_checked (fun vs H Q E h => ?_) (fun cdv A outer s H vs Q E hr h => ?_)
  · obtain ⟨a, xs, rfl, _⟩ := h
    rfl
  · obtain ⟨a, xs, rfl, hS, hf, q, x⟩ := h
    refine ⟨_, (pss_cons (ps_expr (pe_call G_check_size (hr.mono (by first | decide | omega)) (by rfl) g_check_size kp_check_size b_check_size .nil (passes_call (takes_of rfl rfl rfl rfl) (fun _ _ _ _ h => h)) (pa_cons (pe_callB call_len_seq (by rfl) T.n_len (by decide +kernel) (pa_cons (pv 0) pa_nil)) pa_nil))) (pss_cons (ps_for (passes_of rfl) rfl (pi_tup (pv 0)) (pg_name (i := 1) sc_checked.nd rfl (.inl rfl)) (pss_one (ps_if (PW.pt (pw_and (pt_val (pe_callB call_isi (by rfl) T.n_isinstance (by decide +kernel) (pa_cons (pv 1) (pa_cons (pe_bltn (v := .ty "int") (by rfl) T.n_int (by decide +kernel) rfl) pa_nil)))) (pw_and1 (pt_cmpR op_gt (pv 1) (pe_glob (v := .int 1000000) rfl T.g_MOST_VARIABLE ⟨_, rfl⟩) (nomark _))))) (pss_one (ps_raise rfl (takes_of rfl rfl rfl rfl) (SkE.pmk_own1 PySem.F.excBase_ValueError T.x_TooLarge T.g_TooLarge T.k_TooLarge (raises_own T.b_TooLarge T.t_TooLarge) rfl (pe_joined (.cons pe_str (.cons (pe_fmt (pe_glob (v := .int 1000000) rfl T.g_MOST_VARIABLE ⟨_, rfl⟩)) .nil)))))) pss_nil))) (pss_one (ps_ret (pv 0))))), ?_⟩
    refine sl_of (σ2 := [some _, none]) rfl ?_
    walk_at "st"
    walk_at "go"
    refine ⟨_, rfl, fun h1 => ?_, fun h1 => x (by simp [fitsV]; omega)⟩
    have h2 : xs.length ≤ 1000 := by omega
    walk_at "go"
    refine for_tup (K := K) (a := a) (xs := xs) (fun i σ H' => H' = H ∧ ∃ y, σ = [some (.ref a), y] ∧ (xs.take i).all okV = true) ⟨rfl, none, rfl, rfl⟩ (fun i σ H' _ e => by rw [e.1]; exact hS) ?_ ?_
    · rintro i v σ H' hi ⟨rfl, y, rfl, hall⟩
      have hv : v ∈ xs := List.mem_of_getElem? hi
      have bad : okV v = false → fitsV xs = false := fun e => by
        have : xs.all okV = false := List.all_eq_false.mpr ⟨v, hv, by simp [e]⟩
        simp [fitsV, this]
      have good : okV v = true → (xs.take (i + 1)).all okV = true := fun e => by
        rw [List.take_add_one, hi, List.all_append, hall]
        simp [e]
      rcases hf v hv with ⟨j, rfl⟩ | ⟨z, rfl⟩
      · walk_at "go"
        refine w_br (fun h3 => ?_) (fun h3 => ?_)
        · walk_at "go"
          exact x (bad (by simp [okV]; omega))
        · walk_at "go"
          exact ⟨rfl, _, rfl, good (by simp [okV]; omega)⟩
      · walk_at "go"
        exact ⟨rfl, _, rfl, good rfl⟩
    · rintro σ H' ⟨rfl, y, rfl, hall⟩
      walk_at "go"
      rw [List.take_length] at hall
      exact q (by simp [fitsV, h2]; simpa using hall)
theorem ok_depths {f : Addr} {fd : FuncData} {k : Nat} (F : Fun K "depths" "depths" s_depths f fd) (T : Txt w K mg tk cl) : FnOk P w K mg base CX0 (k + 1) f fd ["term"] (spDepths K) := by
  refine F.ok sc_depths (fun vs H Q E h => ?_) (fun cdv A outer s H vs Q E hr h => ?_)
  · obtain ⟨a, t, rfl, _⟩ := h
    rfl
  · obtain ⟨a, t, rfl, hS, hlen, q⟩ := h
    refine ⟨_, (pss_cons (ps_set (i := 1) sc_depths.nd rfl (.inl rfl) (pe_lst pa_nil)) (pss_cons (ps_set (i := 2) sc_depths.nd rfl (.inl rfl) (pe_lst (pa_cons pe_int pa_nil))) (pss_cons (ps_for PassesOwn.never rfl (pi_tup (pv 0)) (pg_name (i := 3) sc_depths.nd rfl (.inl rfl)) (pss_cons (ps_set (i := 4) sc_depths.nd rfl (.inl rfl) (pe_bm0 PySem.F.plainAttrs_list PySem.F.slot_list_pop PySem.F.type_list_pop mt_pop (pv 2))) (pss_cons (ps_expr (pe_bm PySem.F.plainAttrs_list PySem.F.slot_list_append PySem.F.type_list_append mt_append (pv 1) (pa_cons (pv 4) pa_nil))) (pss_one (ps_if (pt_cmpR op_eq (pv 3) pe_str (nomark _)) (pss_one (ps_expr (pe_bm PySem.F.plainAttrs_list PySem.F.slot_list_append PySem.F.type_list_append mt_append (pv 2) (pa_cons (pe_op op_add (pv 4) pe_int) pa_nil)))) (pss_one (ps_if (pt_cmpR op_eq (pv 3) pe_str (nomark _)) (pss_cons (ps_expr (pe_bm PySem.F.plainAttrs_list PySem.F.slot_list_append PySem.F.type_list_append mt_append (pv 2) (pa_cons (pv 4) pa_nil))) (pss_one (ps_expr (pe_bm PySem.F.plainAttrs_list PySem.F.slot_list_append PySem.F.type_list_append mt_append (pv 2) (pa_cons (pv 4) pa_nil))))) pss_nil))))))) (pss_one (ps_ret (pv 1)))))), ?_⟩
    refine sl_of (σ2 := [some _, none, none, none, none]) rfl ?_
    walk_at "st"
    walk_at "go"
    intro fl hfl
    walk_at "go"
    intro wl hwl
    have hwf : wl ≠ fl := (ne_of_none upd_same hwl).symm
    have hwl0 : H wl = none := by
      rw [upd_ne hwf] at hwl
      exact hwl
    walk_at "go"
    refine for_tup (K := K) (a := a) (xs := t.enc) (fun i σ H' => ∃ found ds y1 y2, σ = [some (.ref a), some (.ref fl), some (.ref wl), y1, y2] ∧ Ex H H' ∧ H' fl = some (.lst (nums found)) ∧ H' wl = some (.lst (nums ds)) ∧ DInv t i found ds ∧ found.length = i ∧ ds.length ≤ i + 1)
      ⟨[], [0], none, none, rfl, by walk_at "ex", by walk_at "hp", upd_same, DInv.start t, rfl, by simp⟩ (fun i σ H' _ h => by obtain ⟨_, _, _, _, _, e, _⟩ := h; exact ex_t e hS) ?_ ?_
    · rintro i v σ H1 hi ⟨found, ds, y1, y2, rfl, e1, hf1, hw1, hinv, hfl1, hds1⟩
      have hlt : i < t.enc.length := (List.getElem?_eq_some_iff.mp hi).1
      obtain ⟨r, d, rfl, hstep⟩ := hinv.step hi
      have hw1b : H1 wl = some (.lst (nums r ++ [V.int d])) := by rw [hw1]; simp [nums]
      have el : (nums found).length = found.length := List.length_map _
      have el2 : (nums r).length = r.length := List.length_map _
      have hrl : r.length ≤ i := by simpa using hds1
      have ef : nums found ++ [V.int d] = nums (found ++ [d]) := by simp [nums]
      rcases hstep with ⟨n, rfl, hn⟩ | ⟨rfl, hn⟩ | ⟨rfl, hn⟩
      · walk_at "go"
        refine ⟨found ++ [d], r, _, _, rfl, by walk_at "ex", ?_, by walk_at "hp", hn, by simp [hfl1], by omega⟩
        rw [← ef]
        walk_at "hp"
      · walk_at "go"
        refine ⟨found ++ [d], r ++ [d + 1], _, _, rfl, by walk_at "ex", ?_, ?_, hn, by simp [hfl1], by simp; omega⟩
        · rw [← ef]
          walk_at "hp"
        · rw [upd_same]
          simp [nums]
      · walk_at "go"
        refine ⟨found ++ [d], r ++ [d] ++ [d], _, _, rfl, by walk_at "ex", ?_, ?_, hn, by simp [hfl1], by simp; omega⟩
        · rw [← ef]
          walk_at "hp"
        · rw [upd_same]
          simp [nums]
    · rintro σ H1 ⟨found, ds, y1, y2, rfl, e1, hf1, hw1, hinv, hfl1, hds1⟩
      walk_at "go"
      rw [hinv.done] at hf1
      exact q H1 fl e1 hfl hf1
def freeV : V → Int → Bool
  | .int i, d => decide (d ≤ i)
  | _, _ => false
def spFree1 : Sp := fun vs H Q _ => ∃ (v : V) (d : Int), vs = [v, .int d] ∧ ((∃ i, v = .int i) ∨ ∃ z, v = .str z) ∧ Q (.bl (freeV v d)) H
theorem ok_stands_free {f : Addr} {fd : FuncData} {k : Nat} (F : Fun K "stands_free" "stands_free" s_stands_free f fd) (T : Txt w K mg tk cl) : FnOk P w K mg base CX0 (k + 1) f fd ["node", "depth"] spFree1 := by
  refine F.ok sc_stands_free (fun vs H Q E h => ?_) (fun cdv A outer s H vs Q E hr h => ?_)
  · obtain ⟨v, d, rfl, _⟩ := h
    rfl
  · obtain ⟨v, d, rfl, hv, q⟩ := h
    refine ⟨_, (pss_one (ps_ret (pe_and (pe_callB call_isi (by rfl) T.n_isinstance (by decide +kernel) (pa_cons (pv 0) (pa_cons (pe_bltn (v := .ty "int") (by rfl) T.n_int (by decide +kernel) rfl) pa_nil))) (pe_one (pe_cmpR op_ge (pv 0) (pv 1) (nomark _)))))), ?_⟩
    refine sl_of (σ2 := [some _, some _]) rfl ?_
    walk_at "st"
    rcases hv with ⟨i, rfl⟩ | ⟨z, rfl⟩
    · walk_at "go"
      exact q
    · walk_at "go"
      exact q
def spLifted (K : PySem.W.Frag) : Sp := fun vs H Q _ => ∃ (a : Addr) (t : Tm) (c : Nat), vs = [.ref a, .int (c : Int)] ∧ SqT K H a t.enc ∧ t.enc.length ≤ 2000000 ∧
  ∀ H' p, Ex H H' → H p = none → H' p = some (.lst (t.vmap (lif c) 0).enc) → Q (.ref p) H'
theorem ok_lifted {f : Addr} {fd : FuncData} (F : Fun K "lifted_nodes" "lifted_nodes" s_lifted_nodes f fd) (T : Txt w K mg tk cl)
    (D1 : Def P w K mg base CX0 1 "depths" ["term"] (spDepths K)) (D2 : Def P w K mg base CX0 1 "stands_free" ["node", "depth"] spFree1) : FnOk P w K mg base CX0 2 f fd ["term", "count"] (spLifted K) := by
  obtain ⟨f1, fd1, g_depths, kp_depths, b_depths, G_depths⟩ := D1
  obtain ⟨f2, fd2, g_stands_free, kp_stands_free, b_stands_free, G_stands_free⟩ := D2
  refine F.ok sc_lifted_nodes (fun vs H Q E h => ?_) (fun cdv A outer s H vs Q E hr h => ?_)
  · obtain ⟨a, t, c, rfl, _⟩ := h
    rfl
  · obtain ⟨a, t, c, rfl, hS, hlen, q⟩ := h
    refine ⟨_, (pss_cons (ps_set (i := 2) sc_lifted_nodes.nd rfl (.inl rfl) (pe_lst pa_nil)) (pss_cons (ps_for PassesOwn.never rfl (pi_zipM (by rfl) T.n_zip (pa_cons (pv 0) (pa_cons (pe_call G_depths (hr.mono (by first | decide | omega)) (by rfl) g_depths kp_depths b_depths .nil pass0 (pa_cons (pv 0) pa_nil)) pa_nil))) (pg_tup (by rfl) (pgs_cons (pg_name (i := 3) sc_lifted_nodes.nd rfl (.inl rfl)) (pgs_cons (pg_name (i := 4) sc_lifted_nodes.nd rfl (.inl rfl)) pgs_nil))) (pss_one (ps_if (pt_val (pe_call G_stands_free (hr.mono (by first | decide | omega)) (by rfl) g_stands_free kp_stands_free b_stands_free .nil pass0 (pa_cons (pv 3) (pa_cons (pv 4) pa_nil)))) (pss_one (ps_expr (pe_bm PySem.F.plainAttrs_list PySem.F.slot_list_append PySem.F.type_list_append mt_append (pv 2) (pa_cons (pe_op op_add (pv 3) (pv 1)) pa_nil)))) (pss_one (ps_expr (pe_bm PySem.F.plainAttrs_list PySem.F.slot_list_append PySem.F.type_list_append mt_append (pv 2) (pa_cons (pv 3) pa_nil))))))) (pss_one (ps_ret (pv 2))))), ?_⟩
    refine sl_of (σ2 := [some _, some _, none, none, none]) rfl ?_
    walk_at "st"
    walk_at "go"
    intro nl hnl
    walk_at "go"
    refine ⟨a, t, rfl, by walk_at "hp", by omega, fun H1 dl e1 hdl hdn => ?_⟩
    walk_at "go"
    have hdn0 : dl ≠ nl := (ne_of_none upd_same hdl).symm
    have hn1 : H1 nl = some (.lst []) := by walk_at "hp"
    have eH1 : Ex H H1 := by walk_at "ex"
    refine for_zipC (xs := t.enc) (ys := nums (t.deps 0)) (n := t.enc.length) (by simp [Tm.deps_len]) (fun i σ H' => ∃ y1 y2, σ = [some (.ref a), some (.int (c : Int)), some (.ref nl), y1, y2] ∧ Ex H H' ∧ H' dl = some (.lst (nums (t.deps 0))) ∧
        H' nl = some (.lst ((List.zipWith (vm (lif c)) t.enc (t.deps 0)).take i)))
      ⟨none, none, rfl, eH1, hdn, hn1⟩ (fun i σ H' ⟨y1, y2, _, e, hd, _⟩ => ⟨ex_t e hS, SqL.of hd⟩) ?_ ?_
    · rintro i x y T1 σ H2 hx hy ⟨y1, y2, rfl, e2, hd2, hs2⟩ hT1
      obtain ⟨d, hd, rfl⟩ := nums_at hy
      have hil : i < t.enc.length := (List.getElem?_eq_some_iff.mp hx).1
      have hT1s : T1 ≠ nl := (ne_of_none hs2 hT1).symm
      have hT1d : T1 ≠ dl := (ne_of_none hd2 hT1).symm
      have tk1 := zip_take (f := vm (lif c)) hx hd
      have ll : ((List.zipWith (vm (lif c)) t.enc (t.deps 0)).take i).length < 3000000 := by
        rw [List.length_take]
        omega
      have xn := Tm.int_nat (List.mem_of_getElem? hx)
      walk_at "go"
      refine ⟨x, d, rfl, (by rcases xn with ⟨m, e⟩ | e | e; exact .inl ⟨_, e⟩; exact .inr ⟨_, e⟩; exact .inr ⟨_, e⟩), ?_⟩
      cases hf : freeV x d with
      | false =>
        walk_at "go"
        refine ⟨_, _, rfl, by walk_at "ex", by walk_at "hp", ?_⟩
        have ev : vm (lif c) x d = x := by
          rcases xn with ⟨m, rfl⟩ | rfl | rfl
          · have hf : ¬ (d : Int) ≤ m := by simpa [freeV] using hf
            simp only [vm, lif, Int.toNat_natCast]
            rw [if_neg (by omega)]
          · rfl
          · rfl
        rw [upd_same, tk1, ev]
      | true =>
        obtain ⟨m, rfl⟩ : ∃ m : Nat, x = .int m := by
          rcases xn with h | rfl | rfl
          · exact h
          · cases hf
          · cases hf
        have hle : (d : Int) ≤ m := by simpa [freeV] using hf
        walk_at "go"
        refine ⟨_, _, rfl, by walk_at "ex", by walk_at "hp", ?_⟩
        have ev : vm (lif c) (.int m) d = .int ((m : Int) + c) := by
          simp only [vm, lif, Int.toNat_natCast]
          rw [if_pos (by omega), Int.natCast_add]
        rw [upd_same, tk1, ev]
    · rintro σ H2 ⟨y1, y2, rfl, e2, hd2, hs2⟩
      walk_at "go"
      have all : (List.zipWith (vm (lif c)) t.enc (t.deps 0)).take t.enc.length = (t.vmap (lif c) 0).enc := by
        rw [Tm.enc_vmap]
        exact List.take_of_length_le (by simp [Tm.deps_len])
      rw [all] at hs2
      exact q _ nl e2 hnl hs2
def spPut (K : PySem.W.Frag) (C : Addr) : Sp := fun vs H Q E => ∃ (a b : Addr) (t u : Tm), vs = [.ref a, .ref b] ∧ SqT K H a t.enc ∧ SqT K H b u.enc ∧ t.enc.length ≤ 20000 ∧ u.enc.length ≤ 20000 ∧
  (fitsV (Tm.put u 0 t).enc = true → ∀ p H', Ex H H' → SqT K H' p (Tm.put u 0 t).enc → Q (.ref p) H') ∧ (fitsV (Tm.put u 0 t).enc = false → ∀ H', Ex H H' → E (.ref C) none H')
theorem ok_put {f : Addr} {fd : FuncData} (F : Fun K "put" "put" s_put f fd) (T : Txt w K mg tk cl)
    (D1 : Def P w K mg base CX0 1 "depths" ["term"] (spDepths K)) (D2 : Def P w K mg base CX0 1 "stands_free" ["node", "depth"] spFree1)
    (D3 : Def P w K mg base CX0 2 "lifted_nodes" ["term", "count"] (spLifted K)) (D4 : Def P w K mg base (L2.CX P w) 1 "check_size" ["size"] (spSize (cl 1)))
    (D5 : Def P w K mg base (L2.CX P w) 2 "checked" ["term"] (spChecked K (cl 1))) : FnOk P w K mg base (L2.CX P w) 3 f fd ["term", "value"] (spPut K (cl 1)) := by
  obtain ⟨f1, fd1, g_depths, kp_depths, b_depths, G_depths⟩ := D1
  obtain ⟨f2, fd2, g_stands_free, kp_stands_free, b_stands_free, G_stands_free⟩ := D2
  obtain ⟨f3, fd3, g_lifted_nodes, kp_lifted_nodes, b_lifted_nodes, G_lifted_nodes⟩ := D3
  obtain ⟨f4, fd4, g_check_size, kp_check_size, b_check_size, G_check_size⟩ := D4
  obtain ⟨f5, fd5, g_checked, kp_checked, b_checked, G_checked⟩ := D5
  refine F.okX sc_put (fun vs H Q E h => ?_) (fun cdv A outer s H vs Q E hr h => ?_)
  · obtain ⟨a, b, t, u, rfl, _⟩ := h
    rfl
  · obtain ⟨a, b, t, u, rfl, hS, hU, hlen, hul, q, x⟩ := h
    refine ⟨_, (pss_cons (ps_set (i := 2) sc_put.nd rfl (.inl rfl) (pe_lst pa_nil)) (pss_cons (ps_for (passes_of rfl) rfl (pi_zipM (by rfl) T.n_zip (pa_cons (pv 0) (pa_cons (pe_call G_depths (hr.mono (by first | decide | omega)) (by rfl) g_depths kp_depths b_depths .nil pass0 (pa_cons (pv 0) pa_nil)) pa_nil))) (pg_tup (by rfl) (pgs_cons (pg_name (i := 3) sc_put.nd rfl (.inl rfl)) (pgs_cons (pg_name (i := 4) sc_put.nd rfl (.inl rfl)) pgs_nil))) (pss_one (ps_if (pt_not (pt_val (pe_call G_stands_free (hr.mono (by first | decide | omega)) (by rfl) g_stands_free kp_stands_free b_stands_free .nil pass0 (pa_cons (pv 3) (pa_cons (pv 4) pa_nil))))) (pss_one (ps_expr (pe_bm PySem.F.plainAttrs_list PySem.F.slot_list_append PySem.F.type_list_append mt_append (pv 2) (pa_cons (pv 3) pa_nil)))) (pss_one (ps_if (pt_cmpR op_gt (pv 3) (pv 4) (nomark _)) (pss_one (ps_expr (pe_bm PySem.F.plainAttrs_list PySem.F.slot_list_append PySem.F.type_list_append mt_append (pv 2) (pa_cons (pe_op op_sub (pv 3) pe_int) pa_nil)))) (pss_cons (ps_expr (pe_bm PySem.F.plainAttrs_list PySem.F.slot_list_extend PySem.F.type_list_extend mt_extend (pv 2) (pa_cons (pe_call G_lifted_nodes (hr.mono (by first | decide | omega)) (by rfl) g_lifted_nodes kp_lifted_nodes b_lifted_nodes .nil pass0 (pa_cons (pv 1) (pa_cons (pv 4) pa_nil))) pa_nil))) (pss_one (ps_expr (pe_call G_check_size (hr.mono (by first | decide | omega)) (by rfl) g_check_size kp_check_size b_check_size .nil (passes_call (takes_of rfl rfl rfl rfl) (fun _ _ _ _ h => h)) (pa_cons (pe_callB call_len_seq (by rfl) T.n_len (by decide +kernel) (pa_cons (pv 2) pa_nil)) pa_nil)))))))))) (pss_one (ps_ret (pe_call G_checked (hr.mono (by first | decide | omega)) (by rfl) g_checked kp_checked b_checked .nil (passes_call (takes_of rfl rfl rfl rfl) (fun _ _ _ _ h => h)) (pa_cons (pe_callTy call_tuple_of (by rfl) T.n_tuple (by decide +kernel) (pa_cons (pv 2) pa_nil)) pa_nil)))))), ?_⟩
    refine sl_of (σ2 := [some _, some _, none, none, none]) rfl ?_
    walk_at "st"
    walk_at "go"
    intro nl hnl
    walk_at "go"
    refine ⟨a, t, rfl, by walk_at "hp", by omega, fun H1 dl e1 hdl hdn => ?_⟩
    walk_at "go"
    have hdn0 : dl ≠ nl := (ne_of_none upd_same hdl).symm
    have hn1 : H1 nl = some (.lst []) := by walk_at "hp"
    have eH1 : Ex H H1 := by walk_at "ex"
    have full := Tm.enc_put u t 0
    refine for_zipC (xs := t.enc) (ys := nums (t.deps 0)) (n := t.enc.length) (by simp [Tm.deps_len]) (fun i σ H' => ∃ y1 y2, σ = [some (.ref a), some (.ref b), some (.ref nl), y1, y2] ∧ Ex H H' ∧ H' dl = some (.lst (nums (t.deps 0))) ∧
        H' nl = some (.lst ((List.zipWith (pvs u) t.enc (t.deps 0)).take i).flatten) ∧ ((List.zipWith (pvs u) t.enc (t.deps 0)).take i).flatten.length ≤ 1000 + i)
      ⟨none, none, rfl, eH1, hdn, hn1, by simp⟩ (fun i σ H' ⟨y1, y2, _, e, hd, _⟩ => ⟨ex_t e hS, SqL.of hd⟩) ?_ ?_
    · rintro i x1 y T1 σ H2 hx hy ⟨y1, y2, rfl, e2, hd2, hs2, hl2⟩ hT1
      obtain ⟨d, hd, rfl⟩ := nums_at hy
      have hil : i < t.enc.length := (List.getElem?_eq_some_iff.mp hx).1
      have hT1s : T1 ≠ nl := (ne_of_none hs2 hT1).symm
      have hT1d : T1 ≠ dl := (ne_of_none hd2 hT1).symm
      have tk1 := zip_take (f := pvs u) hx hd
      have tk2 : ((List.zipWith (pvs u) t.enc (t.deps 0)).take (i + 1)).flatten = ((List.zipWith (pvs u) t.enc (t.deps 0)).take i).flatten ++ pvs u x1 d := by
        rw [tk1, List.flatten_append]
        simp
      have over := flat_take_le (List.zipWith (pvs u) t.enc (t.deps 0)) (i + 1)
      rw [← full] at over
      generalize ((List.zipWith (pvs u) t.enc (t.deps 0)).take i).flatten = done at *
      rw [tk2] at over
      have hU2 : SqT K H2 b u.enc := ex_t e2 hU
      have xn := Tm.int_nat (List.mem_of_getElem? hx)
      walk_at "go"
      refine ⟨x1, d, rfl, (by rcases xn with ⟨m, e⟩ | e | e; exact .inl ⟨_, e⟩; exact .inr ⟨_, e⟩; exact .inr ⟨_, e⟩), ?_⟩
      cases hf : freeV x1 d with
      | false =>
        walk_at "go"
        have ev : pvs u x1 d = [x1] := by
          rcases xn with ⟨m, rfl⟩ | rfl | rfl
          · have hf : ¬ (d : Int) ≤ m := by simpa [freeV] using hf
            exact pvs_low (by omega)
          · rfl
          · rfl
        rw [ev] at tk2
        refine ⟨_, _, rfl, by walk_at "ex", by walk_at "hp", ?_, by rw [tk2]; simp; omega⟩
        rw [upd_same, tk2]
      | true =>
        obtain ⟨m, rfl⟩ : ∃ m : Nat, x1 = .int m := by
          rcases xn with h | rfl | rfl
          · exact h
          · cases hf
          · cases hf
        have hle : (d : Int) ≤ m := by simpa [freeV] using hf
        walk_at "go"
        refine w_br (fun h3 => ?_) (fun h3 => ?_)
        · walk_at "go"
          rw [pvs_high (by omega)] at tk2
          refine ⟨_, _, rfl, by walk_at "ex", by walk_at "hp", ?_, by rw [tk2]; simp; omega⟩
          rw [upd_same, tk2]
        · have e0 : m = d := by omega
          subst e0
          rw [pvs_at] at tk2 over
          have hT1b : SqT K (upd H2 T1 (.tup [V.int (m : Int), V.int (m : Int)])) b u.enc := ex_t (Ex.new hT1) hU2
          walk_at "go"
          refine ⟨b, u, m, rfl, hT1b, by omega, fun H3 ll e3 hll hl3 => ?_⟩
          have hlne : ll ≠ nl := by
            have g1 : upd H2 T1 (.tup [V.int (m : Int), V.int (m : Int)]) nl = some (.lst done) := (upd_ne hT1s.symm).trans hs2
            exact (ne_of_none g1 hll).symm
          have hs3 : H3 nl = some (.lst done) := e3 _ _ ((upd_ne hT1s.symm).trans hs2)
          have hd3 : H3 dl = some (.lst (nums (t.deps 0))) := e3 _ _ ((upd_ne hT1d.symm).trans hd2)
          have ee : Ex H H3 := (e2.trans (Ex.new hT1)).trans e3
          have vl := Tm.vmap_len (lif m) u 0
          walk_at "go"
          · exact ly_sz (by omega)
          walk_at "go"
          refine ⟨_, rfl, fun hle2 => ?_, fun hgt => x ?_ _ (by walk_at "ex")⟩
          · walk_at "go"
            refine ⟨_, _, rfl, by walk_at "ex", by walk_at "hp", ?_, by rw [tk2]; omega⟩
            rw [upd_same, tk2]
          · have : ¬ (Tm.put u 0 t).enc.length ≤ 1000 := by omega
            simp [fitsV, this]
    · rintro σ H2 ⟨y1, y2, rfl, e2, hd2, hs2, hl2⟩
      have all : ((List.zipWith (pvs u) t.enc (t.deps 0)).take t.enc.length).flatten = (Tm.put u 0 t).enc := by
        rw [full, List.take_of_length_le (by simp [Tm.deps_len])]
      rw [all] at hs2
      walk_at "go"
      intro p hp
      walk_at "go"
      exact ⟨p, _, rfl, by walk_at "hp", Tm.flat _, fun h => q h p _ (by walk_at "ex") (by walk_at "hp"), fun h => x h _ (by walk_at "ex")⟩
end
end Ly
set_option Elab.async false
set_option linter.all false
set_option maxRecDepth 100000
set_option maxHeartbeats 8000000
namespace Ly
open PySem PySem.Spec PyProof.Rows L2 Evl
local macro_rules | `(tactic| walk_at "ne") => `(tactic| first
  | assumption
  | ((refine' Ne.symm ?hq); (case hq => assumption))
  | ((refine' ne_of_none ?nh1 ?nh2); (case nh2 => assumption); (case nh1 => walk_at "hp"))
  | ((refine' Ne.symm (ne_of_none ?nh1 ?nh2)); (case nh2 => assumption); (case nh1 => walk_at "hp")))
local macro_rules | `(tactic| walk_at "hp") => `(tactic| first
  | assumption
  | exact upd_same
  | ((refine' SqL.of ?hq); (case hq => walk_at "hp"))
  | ((refine' SqT.of ?hq); (case hq => walk_at "hp"))
  | ((refine' (upd_ne ?hne).trans ?hrest); (case hne => walk_at "ne"); (case hrest => walk_at "hp"))
  | ((refine' ly_at ?hex ?hh); (case hex => assumption); (case hh => walk_at "hp"))
  | ((refine' ly_atF ?hex ?hnn ?hh); (case hex => assumption); (case hh => walk_at "hp"); (case hnn => walk_at "ne"))
  | ((refine' ex_t ?hex ?hh); (case hh => assumption); (case hex => walk_at "ex"))
  | ((refine' ex_l ?hex ?hh); (case hh => assumption); (case hex => walk_at "ex")))
local macro_rules | `(tactic| walk_at "ex") => `(tactic| first
  | assumption
  | exact Ex.refl _
  | ((refine' ex_new ?xa ?xb); (case xb => assumption); (case xa => walk_at "ex"))
  | ((refine' ex_upd ?xa ?xb); (case xb => walk_at "free"); (case xa => walk_at "ex"))
  | ((refine' Ex.trans ?xa ?xb); (case xb => assumption); (case xa => walk_at "ex")))
local macro_rules | `(tactic| walk_at "free") => `(tactic| first
  | assumption
  | ((refine' fresh_back ?xa ?xb); (case xb => assumption); (case xa => walk_at "ex")))
local macro_rules | `(tactic| walk_at "fr") => `(tactic| first
  | assumption
  | exact Fr.refl _ _
  | ((refine' Fr.own ?hq); (case hq => walk_at "fr"))
  | ((refine' Fr.new ?xa ?xb); (case xb => assumption); (case xa => walk_at "fr"))
  | ((refine' Fr.mut ?xa ?xb); (case xb => assumption); (case xa => walk_at "fr"))
  | ((refine' Fr.trans ?xa ?xb); (case xb => assumption); (case xa => walk_at "fr"))
  | ((refine' Fr.trans ?xa (Fr.ex ?xb)); (case xb => assumption); (case xa => walk_at "fr")))
local macro_rules | `(tactic| walk_at "go1") => `(tactic| first
  | (with_reducible refine' w_seq ?_)
  | (with_reducible refine' w_asg ?_)
  | (with_reducible refine' w_ret ?_)
  | (with_reducible refine' w_drop ?_)
  | (with_reducible refine' w_if ?_)
  | (with_reducible refine' w_next ?_)
  | (with_reducible refine' w_name ?_)
  | (with_reducible refine' w_sub ?_)
  | ((with_reducible refine' w_var ?hv ?_); (case hv => exact rfl))
  | (with_reducible refine' w_c ?_)
  | (with_reducible refine' w_op ?_)
  | (with_reducible refine' w_un ?_)
  | (with_reducible refine' w_ch ?_)
  | (with_reducible refine' w_I0 ?_)
  | ((with_reducible refine' w_I ?hc ?_); (case hc => first | (exact ly_mulL (by decide) (by decide)) | (exact ly_mulR (by decide) (by decide)) | (exact ly_mulL (by omega) (by omega)) | (show (_ : Int) ≠ 0; decide) | (show (_ : Int) ≠ 0; omega) | (exact ⟨by decide, by decide⟩) | (exact ⟨by omega, by omega⟩)))
  | (with_reducible refine' w_U ?_)
  | ((with_reducible refine' w_eq ?hs ?_); (case hs => exact rfl))
  | ((with_reducible refine' w_ne ?hs ?_); (case hs => exact rfl))
  | (with_reducible refine' w_isB ?_)
  | (with_reducible refine' w_notB ?_)
  | (with_reducible refine' w_nil ?_)
  | (with_reducible refine' w_cons ?_)
  | (with_reducible refine' w_tup ?_)
  | (with_reducible refine' w_lst ?_)
  | (with_reducible refine' w_cb ?_)
  | (with_reducible refine' w_call ?_)
  | (with_reducible refine' w_bm ?_)
  | (with_reducible refine' w_bm0 ?_)
  | ((with_reducible refine' w_app ?hh ?hz ?_); (case hh => walk_at "hp"); (case hz => first | exact ly_lt (by omega) | exact ly_lt (by simp only [List.length_append, List.length_map, List.length_cons, List.length_nil]; omega)))
  | ((with_reducible refine' w_popA ?hh ?_); (case hh => walk_at "hp"))
  | ((with_reducible refine' w_ext ?hh ?hh2 ?hz ?_); (case hh => walk_at "hp"); (case hh2 => walk_at "hp"))
  | ((with_reducible refine' w_ixL ?hh ?ha ?_); (case hh => walk_at "hp"); (case ha => first | exact rfl | exact at_map (by omega) | exact atI_last _ _ | ((refine' at_of ?ae ?ah); (case ah => assumption); (case ae => omega))))
  | ((with_reducible refine' w_ixT ?hh ?ha ?_); (case hh => walk_at "hp"); (case ha => first | exact rfl | exact at_map (by omega) | exact atI_last _ _ | ((refine' at_of ?ae ?ah); (case ah => assumption); (case ae => omega))))
  | ((with_reducible refine' w_cat ?hh ?hh2 ?hz ?_); (case hh => walk_at "hp"); (case hh2 => walk_at "hp"))
  | ((with_reducible refine' w_setL ?hh ?ha ?_); (case hh => walk_at "hp"); (case ha => exact rfl))
  | (with_reducible refine' w_test ?_)
  | (with_reducible refine' w_tB ?_)
  | (with_reducible refine' w_bl ?_)
  | (with_reducible refine' w_and ?_)
  | (with_reducible refine' w_or ?_)
  | (with_reducible refine' w_not ?_)
  | (with_reducible refine' w_andV ?_)
  | (with_reducible refine' w_orV ?_)
  | (with_reducible refine' w_notV ?_)
  | (with_reducible refine' w_ifE ?_)
  | (with_reducible refine' w_for ?_)
  | ((with_reducible refine' w_nin ?hh ?_); (case hh => walk_at "hp"))
  | ((with_reducible refine' w_sorted ?hh ?_); (case hh => walk_at "hp"))
  | (with_reducible refine' w_tsadd ?_)
  | ((with_reducible refine' w_tsadd1 ?hh ?_); (case hh => walk_at "hp"))
  | ((with_reducible refine' w_sadd ?hh ?hr ?_); (case hh => walk_at "hp"); (case hr => omega))
  | (with_reducible refine' w_iZ ?_)
  | ((with_reducible refine' w_iZ1 ?hh ?hh2 ?_); (case hh => walk_at "hp"); (case hh2 => walk_at "hp"))
  | (with_reducible refine' w_iS ?_)
  | (with_reducible refine' w_iS1 ?_)
  | ((with_reducible refine' w_gtup ?hh ?hn ?_); (case hh => walk_at "hp"); (case hn => exact rfl))
  | (with_reducible refine' w_gcons ?_)
  | (with_reducible refine' w_gnil ?_)
  | (with_reducible refine' w_js ?_)
  | (with_reducible refine' w_jsn ?_)
  | ((with_reducible refine' w_js1 ?hl ?_); (case hl => decide +kernel))
  | (with_reducible refine' w_fmt ?_)
  | ((with_reducible refine' w_fmt1 ?hl ?_); (case hl => decide +kernel))
  | (with_reducible refine' w_callS ?_)
  | ((with_reducible refine' w_truL ?hh ?_); (case hh => walk_at "hp"))
  | (with_reducible refine' w_lc ?_)
  | (with_reducible refine' w_yes ?_)
  | ((with_reducible refine' w_wipe ?he ?_); (case he => exact rfl))
  | (with_reducible refine' w_iL ?_)
  | (with_reducible refine' w_iT ?_)
  | (with_reducible refine' w_iR ?_)
  | ((with_reducible refine' w_iL1 ?hh ?_); (case hh => walk_at "hp"))
  | ((with_reducible refine' w_iT1 ?hh ?_); (case hh => walk_at "hp"))
  | ((with_reducible refine' w_iR1 ?h1 ?h2 ?_); (case h1 => omega); (case h2 => omega))
  | ((with_reducible refine' w_aug ?hv ?_); (case hv => exact rfl))
  | (with_reducible refine' w_ipI ?_)
  | ((with_reducible refine' w_isi ?hy ?hk ?_); (case hy => walk_at "ty"); (case hk => walk_at "kit"))
  | ((with_reducible refine' w_int ?_))
  | ((with_reducible refine' w_intB ?_))
  | ((with_reducible refine' w_abs ?_))
  | ((with_reducible refine' w_lenL ?hh ?_); (case hh => walk_at "hp"))
  | ((with_reducible refine' w_lenT ?hh ?_); (case hh => walk_at "hp"))
  | ((with_reducible refine' w_tupL ?hh ?_); (case hh => walk_at "hp"))
  | ((with_reducible refine' w_tupT ?hh ?_); (case hh => walk_at "hp"))
  | ((with_reducible refine' w_catA ?hh ?hh2 ?hz ?_); (case hh => walk_at "hp"); (case hh2 => walk_at "hp"); (case hz => walk_at "len"))
  | ((with_reducible refine' w_repB ?hh ?hne ?h2 ?h3 ?hz ?_); (case hh => walk_at "hp"); (case hne => simp); (case h2 => omega); (case h3 => omega); (case hz => exact Nat.le_of_ble_eq_true rfl))
  | ((with_reducible refine' w_eqN ?hh ?hh2 ?n1 ?n2 ?_); (case hh => walk_at "hp"); (case hh2 => walk_at "hp"); (case n1 => walk_at "nd"); (case n2 => walk_at "nd"))
  | ((with_reducible refine' w_neN ?hh ?hh2 ?n1 ?n2 ?_); (case hh => walk_at "hp"); (case hh2 => walk_at "hp"); (case n1 => walk_at "nd"); (case n2 => walk_at "nd"))
  | ((with_reducible refine' w_eqL ?hh ?hh2 ?n1 ?n2 ?_); (case hh => walk_at "hp"); (case hh2 => walk_at "hp"); (case n1 => walk_at "nd"); (case n2 => walk_at "nd"))
  | ((with_reducible refine' w_neL ?hh ?hh2 ?n1 ?n2 ?_); (case hh => walk_at "hp"); (case hh2 => walk_at "hp"); (case n1 => walk_at "nd"); (case n2 => walk_at "nd"))
  | ((with_reducible refine' w_neNon ?hh2 ?n2 ?_); (case hh2 => walk_at "hp"); (case n2 => walk_at "nd"))
  | ((with_reducible refine' w_eqNon ?hh2 ?n2 ?_); (case hh2 => walk_at "hp"); (case n2 => walk_at "nd"))
  | ((with_reducible refine' w_slA ?hh ?_); (case hh => walk_at "hp"))
  | ((with_reducible refine' w_disp ?hz ?_); (case hz => exact sz_of (Nat.le_of_ble_eq_true rfl)))
  | ((with_reducible refine' w_tyL ?hh ?_); (case hh => walk_at "hp"))
  | (with_reducible refine' iteT ?_)
  | (with_reducible refine' iteF ?_)
  | (with_reducible refine' w_nT ?_)
  | (with_reducible refine' w_nn ?_)
  | (with_reducible refine' w_nnT ?_)
  | (with_reducible refine' w_nnR ?_)
  | (with_reducible refine' w_neG ?_)
  | (with_reducible refine' w_eqG ?_)
  | (with_reducible refine' w_neS ?_)
  | (with_reducible refine' w_eqS ?_)
  | (with_reducible refine' w_neSb ?_)
  | (with_reducible refine' w_eqSb ?_)
  | (with_reducible refine' w_deIS ?_)
  | (with_reducible refine' w_deSI ?_)
  | (with_reducible refine' w_deISn ?_)
  | ((with_reducible refine' w_deST ?he ?_); (case he => decide +kernel))
  | ((with_reducible refine' w_deSF ?he ?_); (case he => decide +kernel))
  | ((with_reducible refine' w_deSTn ?he ?_); (case he => decide +kernel))
  | ((with_reducible refine' w_deSFn ?he ?_); (case he => decide +kernel))
  | (with_reducible refine' w_nF ?_)
  | dsimp only [Bool.not_true, Bool.not_false])
local macro_rules | `(tactic| walk_at "ty") => `(tactic| first
  | exact .base (.int _) | exact .base (.str _) | exact .base (.bl _) | exact .base .non
  | ((refine' tyx_t ?hq); (case hq => walk_at "hp")) | ((refine' tyx_l ?hq); (case hq => walk_at "hp")) | ((refine' .base (.tup ?hq)); (case hq => walk_at "hp")) | assumption)
local macro_rules | `(tactic| walk_at "go") => `(tactic| repeat walk_at "go1")
local macro_rules | `(tactic| walk_at "st") => `(tactic| try dsimp only [cxOf, Cx.nox, Cx.wish])
local macro_rules | `(tactic| walk_at "kit") => `(tactic| with_reducible first | exact kit_int_int | exact kit_int_str | exact kit_int_bool | exact kit_int_tuple | exact kit_int_list | exact kit_str_int | exact kit_str_str | exact kit_str_bool | exact kit_str_tuple | exact kit_str_list | exact kit_bool_int | exact kit_bool_str | exact kit_bool_bool | exact kit_bool_tuple | exact kit_bool_list | exact kit_NoneType_int | exact kit_NoneType_str | exact kit_NoneType_bool | exact kit_NoneType_tuple | exact kit_NoneType_list | exact kit_list_int | exact kit_list_str | exact kit_list_bool | exact kit_list_tuple | exact kit_list_list | exact kit_tuple_int | exact kit_tuple_str | exact kit_tuple_bool | exact kit_tuple_tuple | exact kit_tuple_list)
local macro_rules | `(tactic| walk_at "nd") => `(tactic| first
  | assumption
  | exact Tm.nds _
  | exact Nds.nil
  | exact Nds.ofInts _
  | ((refine' Nds.cons ?na ?nb); (case na => first | exact Nds.I _ | exact Nds.L | exact Nds.A); (case nb => walk_at "nd"))
  | ((refine' Nds.app ?na ?nb); (case na => walk_at "nd"); (case nb => walk_at "nd"))
  | ((refine' Nds.rep ?na _); (case na => walk_at "nd")))
local macro_rules | `(tactic| walk_at "len") => `(tactic| first
  | exact ly_sz (by omega)
  | ((simp only [List.length_append, List.length_cons, List.length_nil, List.length_map, PyProof.Rows.lm_len_rep_flat]); exact ly_sz (by omega)))
local macro_rules | `(tactic| walk_at "go1") => `(tactic| first
  | (with_reducible refine' w_kget2 ?_)
  | (with_reducible refine' w_isRN ?_)
  | (with_reducible refine' w_isNN ?_)
  | (with_reducible refine' w_isIN ?_)
  | ((with_reducible refine' w_kg ?hd ?_); (case hd => assumption)))
local macro_rules | `(tactic| walk_at "go1") => `(tactic| first
  | ((with_reducible refine' w_extT ?hh ?hh2 ?hz ?_); (case hh => walk_at "hp"); (case hh2 => walk_at "hp"))
  | ((with_reducible refine' w_I ?hc ?_); (case hc => exact ⟨by decide, by decide, by decide⟩))
  | (with_reducible refine' w_sl ?_)
  | (with_reducible refine' w_noP ?_)
  | (with_reducible refine' w_part ?_)
  | (with_reducible refine' w_part1 ?_)
  | (with_reducible refine' w_it ?_)
  | (with_reducible refine' w_it1 ?_)
  | ((with_reducible refine' w_lenZ ?hz ?_); (case hz => omega))
  | ((with_reducible refine' w_addZb ?hz ?_); (case hz => omega))
  | ((with_reducible refine' w_addZf ?hz ?_); (case hz => omega))
  | ((with_reducible refine' w_addZa ?hz ?_); (case hz => omega))
  | ((with_reducible refine' w_inS ?hh ?_); (case hh => walk_at "hp"))
  | ((with_reducible refine' w_ixT ?hh ?ha ?_); (case hh => assumption); (case ha => exact atI_nat (by assumption))))
section
variable {P : Program} {w : World} {K : PySem.W.Frag} {mg : Str → Option Value} {base : Heap} {tk : Nat → Tok} {cl : Nat → Addr}
def spCountN : Sp := fun vs H Q _ => ∃ v, vs = [v] ∧ (((∃ n : Nat, v = .int n) ∧ Q (.int 0) H) ∨ (v = .str "lam" ∧ Q (.int 1) H) ∨ (v = .str "app" ∧ Q (.int 2) H))
theorem ok_part_count {f : Addr} {fd : FuncData} {k : Nat} (F : Fun K "part_count" "part_count" s_part_count f fd) (T : Txt w K mg tk cl) : FnOk P w K mg base CX0 (k + 1) f fd ["node"] spCountN := by
  refine F.ok sc_part_count (fun vs H Q E h => ?_) (fun cdv A outer s H vs Q E hr h => ?_)
  · obtain ⟨v, rfl, _⟩ := h
    rfl
  · obtain ⟨v, rfl, h⟩ := h
    refine ⟨_, (pss_one (ps_ret (pe_kget2 (pe_glob (v := .ref (cl 40)) (by rfl) T.g_PART_COUNTS (by rfl)) (pv 0) pe_int ⟨by rfl, by rfl, by rfl, by rfl⟩))), ?_⟩
    refine sl_of (σ2 := [some _]) rfl ?_
    walk_at "st"
    have hd := T.d_PART_COUNTS
    rcases h with ⟨⟨n, rfl⟩, q⟩ | ⟨rfl, q⟩ | ⟨rfl, q⟩
    · walk_at "go"
      exact ⟨kV_int _, q⟩
    · walk_at "go"
      exact ⟨kV_str _, q_eq q (by decide +kernel)⟩
    · walk_at "go"
      exact ⟨kV_str _, q_eq q (by decide +kernel)⟩
theorem ok_end_of {f : Addr} {fd : FuncData} (F : Fun K "end_of" "end_of" s_end_of f fd) (T : Txt w K mg tk cl)
    (D1 : Def P w K mg base CX0 1 "part_count" ["node"] spCountN) : FnOk P w K mg base CX0 2 f fd ["term", "start"] (spEnd K) := by
  obtain ⟨f1, fd1, g_part_count, kp_part_count, b_part_count, G_part_count⟩ := D1
  refine F.ok sc_end_of (fun vs H Q E h => ?_) (fun cdv A outer s H vs Q E hr h => ?_)
  · obtain ⟨a, xs, s, u, post, rfl, _⟩ := h
    rfl
  · obtain ⟨a, xs, s, u, post, rfl, hS, hu, hlen, q⟩ := h
    refine ⟨_, (pss_cons (ps_set (i := 2) sc_end_of.nd rfl (.inl rfl) pe_int) (pss_cons (ps_set (i := 3) sc_end_of.nd rfl (.inl rfl) (pv 1)) (pss_cons (ps_while PassesOwn.never (pt_cmpR op_gt (pv 2) pe_int (nomark _)) (pss_cons (ps_aug (i := 2) sc_end_of.nd rfl (.inl rfl) (pe_op op_sub (pe_call G_part_count (hr.mono (by first | decide | omega)) (by rfl) g_part_count kp_part_count b_part_count .nil pass0 (pa_cons (pe_ix ix_tup (pv 0) (pv 3) (fun _ _ => rfl)) pa_nil)) pe_int) ip_add) (pss_one (ps_aug (i := 3) sc_end_of.nd rfl (.inl rfl) pe_int ip_add)))) (pss_one (ps_ret (pv 3)))))), ?_⟩
    refine sl_of (σ2 := [some _, some _, none, none]) rfl ?_
    walk_at "st"
    walk_at "go"
    refine w_while (fun m σ H' => H' = H ∧ ∃ (e : Nat) (ts : List Tm), σ = [some (.ref a), some (.int (s : Int)), some (.int (ts.length : Int)), some (.int (e : Int))] ∧ EInv xs (s + u.enc.length) e ts ∧ m = s + u.enc.length - e) _ ⟨rfl, s, [u], rfl, EInv.start hu, rfl⟩ ?_
    rintro m σ H ⟨rfl, e, ts, rfl, inv, rfl⟩
    walk_at "go"
    cases ts with
    | nil =>
      obtain ⟨post2, h1, h2⟩ := inv
      have h2 : e = s + u.enc.length := by simpa [encs] using h2
      walk_at "go"
      refine w_br (fun h => by simp at h) (fun _ => ?_)
      walk_at "go"
      rw [h2]
      exact q
    | cons t ts =>
      obtain ⟨lt, v, ts', hv, inv', hcase⟩ := inv.step
      refine w_br (fun h => ?_) (fun h => absurd h (by simp))
      refine ⟨fun σ' H' => H' = H ∧ ∃ (e' : Nat) (ts2 : List Tm), σ' = [some (.ref a), some (.int (s : Int)), some (.int (ts2.length : Int)), some (.int (e' : Int))] ∧ EInv xs (s + u.enc.length) e' ts2 ∧ e' = e + 1, fun σ' H' ⟨h1, e', ts2, h2, h3, h4⟩ => ⟨_, ?_, h1, e', ts2, h2, h3, rfl⟩, ?_⟩
      · omega
      · walk_at "go"
        refine ⟨v, rfl, ?_⟩
        have stp : ∀ {j : Int}, (t :: ts).length + (j - 1) = (ts'.length : Int) → H = H ∧ ∃ (e' : Nat) (ts2 : List Tm), [some (V.ref a), some (.int (s : Int)), some (.int (((t :: ts).length : Int) + (j - 1))), some (.int ((e : Int) + 1))] = [some (.ref a), some (.int (s : Int)), some (.int (ts2.length : Int)), some (.int (e' : Int))] ∧ EInv xs (s + u.enc.length) e' ts2 ∧ e' = e + 1 := fun hj =>
          ⟨rfl, e + 1, ts', by rw [hj]; rfl, inv', rfl⟩
        rcases hcase with ⟨n, rfl, hl⟩ | ⟨rfl, hl⟩ | ⟨rfl, hl⟩
        · refine .inl ⟨⟨n, rfl⟩, ?_⟩
          walk_at "go"
          exact stp (by simp; omega)
        · refine .inr (.inl ⟨rfl, ?_⟩)
          walk_at "go"
          exact stp (by simp; omega)
        · refine .inr (.inr ⟨rfl, ?_⟩)
          walk_at "go"
          exact stp (by simp; omega)
def spLetters : Sp := fun vs H Q _ => ∃ v, vs = [v] ∧ (((∃ n : Nat, v = .int n) ∧ Q (.str (pl [])) H) ∨ (v = .str "lam" ∧ Q (.str (pl [98])) H) ∨ (v = .str "app" ∧ Q (.str (pl [102, 97])) H))
theorem pl_fa : ("fa" : Str) = pl [102, 97] := by decide +kernel
theorem for_revP {ls : List Nat} {g : TG} {tb : TS} {D : Ends} {σ : L2.St} {H : Hp} (Pv : Nat → L2.St → Hp → Prop) (h0 : Pv 0 σ H)
    (hs : ∀ i c σ H, ls.reverse[i]? = some c → Pv i σ H → g (.str (pl [c])) σ H fun σ2 H2 => tb { D with nx := Pv (i + 1), ct := Pv (i + 1), bk := D.nx } σ2 H2) (hd : ∀ σ H, Pv ls.length σ H → D.nx σ H) : ForB (ItvS (pl ls)) g tb D σ H := by
  have sz : (pl ls).cps.size = ls.length := by simp [pl]
  refine for_revS Pv h0 (fun i c σ H hc lt p => hs i c σ H ?_ p) (fun σ H p => hd σ H (by rw [sz] at p; exact p))
  rw [sz] at hc lt
  rw [List.getElem?_reverse lt]
  simpa [pl] using hc
theorem w_rv {te : TE} {σ : L2.St} {H : Hp} {R : It → Hp → Prop} (h : te σ H fun v H1 => ∃ z, v = .str z ∧ z.length ≤ sizeLine ∧ R (ItvS z) H1) : iRevS te σ H R := h
theorem w_rv1 {p : List Nat} {B : Str → Prop} (z : p.length ≤ 1000) (q : B (pl p)) : ∃ x, V.str (pl p) = .str x ∧ x.length ≤ sizeLine ∧ B x := ⟨pl p, rfl, by rw [pl_len]; exact ly_sz (by omega), q⟩
local macro_rules | `(tactic| walk_at "go1") => `(tactic| first
  | (with_reducible refine' w_rv ?_)
  | ((with_reducible refine' w_addZ ?hz ?_); (case hz => simp; omega)))
def spStart (K : PySem.W.Frag) (C : Addr) : Sp := fun vs H Q E => ∃ (a : Addr) (t : Tm) (p : List Nat), vs = [.ref a, .str (pl p)] ∧ SqT K H a t.enc ∧ t.enc.length ≤ 2000000 ∧ p.length ≤ 2000000 ∧
  (∀ i u, t.sub p = some (i, u) → Q (.int (i : Int)) H) ∧ (t.sub p = none → E (.ref C) none H)
/-- in the midst of the walk: the part that is reached -/
def WInv (t : Tm) (p : List Nat) (i s : Nat) (u : Tm) : Prop := (∃ post, t.enc.drop s = u.enc ++ post) ∧ t.sub p = (u.sub (p.drop i)).map (fun r => (r.1 + s, r.2))
theorem WInv.start (t : Tm) (p : List Nat) : WInv t p 0 0 t := ⟨⟨[], by simp⟩, by
  have : (fun r : Nat × Tm => (r.1 + 0, r.2)) = id := by funext r; rfl
  rw [this]
  simp⟩
theorem WInv.step {t : Tm} {p : List Nat} {i s c : Nat} {u : Tm} (h : WInv t p i s u) (hc : p[i]? = some c) : ∃ v, t.enc[s]? = some v ∧
    (((∃ n : Nat, v = .int n) ∧ t.sub p = none) ∨
     (v = .str "lam" ∧ ((c = 98 ∧ ∃ b : Tm, WInv t p (i + 1) (s + 1) b) ∨ (c ≠ 98 ∧ t.sub p = none))) ∨
     (v = .str "app" ∧ ((c = 102 ∧ ∃ g : Tm, WInv t p (i + 1) (s + 1) g) ∨ (c = 97 ∧ ∃ (g a : Tm) (post : List V), t.enc.drop (s + 1) = g.enc ++ post ∧ WInv t p (i + 1) (s + 1 + g.enc.length) a) ∨ (c ≠ 102 ∧ c ≠ 97 ∧ t.sub p = none)))) := by
  obtain ⟨⟨post, h1⟩, h2⟩ := h
  rw [drop_at hc] at h2
  cases u with
  | var n =>
    have g := drop_get (i := s) (v := .int n) (r := post) (by rw [h1]; rfl)
    exact ⟨_, g.1, .inl ⟨⟨n, rfl⟩, by rw [h2]; rfl⟩⟩
  | lam b =>
    have g := drop_get (i := s) (v := .str "lam") (r := b.enc ++ post) (by rw [h1]; simp [Tm.enc])
    refine ⟨_, g.1, .inr (.inl ⟨rfl, ?_⟩)⟩
    by_cases e : c = 98
    · refine .inl ⟨e, b, ⟨post, g.2⟩, ?_⟩
      rw [h2]
      simp only [Tm.sub, if_pos e, Option.map_map]
      congr 1
      funext r
      simp
      omega
    · exact .inr ⟨e, by rw [h2]; simp [Tm.sub, e]⟩
  | app f a =>
    have g := drop_get (i := s) (v := .str "app") (r := f.enc ++ (a.enc ++ post)) (by rw [h1]; simp [Tm.enc])
    refine ⟨_, g.1, .inr (.inr ⟨rfl, ?_⟩)⟩
    by_cases e : c = 102
    · refine .inl ⟨e, f, ⟨_, g.2⟩, ?_⟩
      rw [h2]
      simp only [Tm.sub, if_pos e, Option.map_map]
      congr 1
      funext r
      simp
      omega
    · by_cases e2 : c = 97
      · refine .inr (.inl ⟨e2, f, a, _, g.2, ⟨post, ?_⟩, ?_⟩)
        · rw [← List.drop_drop, g.2]
          simp
        · rw [h2]
          simp only [Tm.sub, if_neg e, if_pos e2, Option.map_map]
          congr 1
          funext r
          simp
          omega
      · exact .inr (.inr ⟨e, e2, by rw [h2]; simp [Tm.sub, e, e2]⟩)

end
end Ly
set_option Elab.async false
set_option linter.all false
set_option maxRecDepth 100000
set_option maxHeartbeats 8000000
namespace Ly
open PySem PySem.Spec PyProof.Rows L2 Evl
local macro_rules | `(tactic| walk_at "ne") => `(tactic| first
  | assumption
  | ((refine' Ne.symm ?hq); (case hq => assumption))
  | ((refine' ne_of_none ?nh1 ?nh2); (case nh2 => assumption); (case nh1 => walk_at "hp"))
  | ((refine' Ne.symm (ne_of_none ?nh1 ?nh2)); (case nh2 => assumption); (case nh1 => walk_at "hp")))
local macro_rules | `(tactic| walk_at "hp") => `(tactic| first
  | assumption
  | exact upd_same
  | ((refine' SqL.of ?hq); (case hq => walk_at "hp"))
  | ((refine' SqT.of ?hq); (case hq => walk_at "hp"))
  | ((refine' (upd_ne ?hne).trans ?hrest); (case hne => walk_at "ne"); (case hrest => walk_at "hp"))
  | ((refine' ly_at ?hex ?hh); (case hex => assumption); (case hh => walk_at "hp"))
  | ((refine' ly_atF ?hex ?hnn ?hh); (case hex => assumption); (case hh => walk_at "hp"); (case hnn => walk_at "ne"))
  | ((refine' ex_t ?hex ?hh); (case hh => assumption); (case hex => walk_at "ex"))
  | ((refine' ex_l ?hex ?hh); (case hh => assumption); (case hex => walk_at "ex")))
local macro_rules | `(tactic| walk_at "ex") => `(tactic| first
  | assumption
  | exact Ex.refl _
  | ((refine' ex_new ?xa ?xb); (case xb => assumption); (case xa => walk_at "ex"))
  | ((refine' ex_upd ?xa ?xb); (case xb => walk_at "free"); (case xa => walk_at "ex"))
  | ((refine' Ex.trans ?xa ?xb); (case xb => assumption); (case xa => walk_at "ex")))
local macro_rules | `(tactic| walk_at "free") => `(tactic| first
  | assumption
  | ((refine' fresh_back ?xa ?xb); (case xb => assumption); (case xa => walk_at "ex")))
local macro_rules | `(tactic| walk_at "fr") => `(tactic| first
  | assumption
  | exact Fr.refl _ _
  | ((refine' Fr.own ?hq); (case hq => walk_at "fr"))
  | ((refine' Fr.new ?xa ?xb); (case xb => assumption); (case xa => walk_at "fr"))
  | ((refine' Fr.mut ?xa ?xb); (case xb => assumption); (case xa => walk_at "fr"))
  | ((refine' Fr.trans ?xa ?xb); (case xb => assumption); (case xa => walk_at "fr"))
  | ((refine' Fr.trans ?xa (Fr.ex ?xb)); (case xb => assumption); (case xa => walk_at "fr")))
local macro_rules | `(tactic| walk_at "go1") => `(tactic| first
  | (with_reducible refine' w_seq ?_)
  | (with_reducible refine' w_asg ?_)
  | (with_reducible refine' w_ret ?_)
  | (with_reducible refine' w_drop ?_)
  | (with_reducible refine' w_if ?_)
  | (with_reducible refine' w_next ?_)
  | (with_reducible refine' w_name ?_)
  | (with_reducible refine' w_sub ?_)
  | ((with_reducible refine' w_var ?hv ?_); (case hv => exact rfl))
  | (with_reducible refine' w_c ?_)
  | (with_reducible refine' w_op ?_)
  | (with_reducible refine' w_un ?_)
  | (with_reducible refine' w_ch ?_)
  | (with_reducible refine' w_I0 ?_)
  | ((with_reducible refine' w_I ?hc ?_); (case hc => first | (exact ly_mulL (by decide) (by decide)) | (exact ly_mulR (by decide) (by decide)) | (exact ly_mulL (by omega) (by omega)) | (show (_ : Int) ≠ 0; decide) | (show (_ : Int) ≠ 0; omega) | (exact ⟨by decide, by decide⟩) | (exact ⟨by omega, by omega⟩)))
  | (with_reducible refine' w_U ?_)
  | ((with_reducible refine' w_eq ?hs ?_); (case hs => exact rfl))
  | ((with_reducible refine' w_ne ?hs ?_); (case hs => exact rfl))
  | (with_reducible refine' w_isB ?_)
  | (with_reducible refine' w_notB ?_)
  | (with_reducible refine' w_nil ?_)
  | (with_reducible refine' w_cons ?_)
  | (with_reducible refine' w_tup ?_)
  | (with_reducible refine' w_lst ?_)
  | (with_reducible refine' w_cb ?_)
  | (with_reducible refine' w_call ?_)
  | (with_reducible refine' w_bm ?_)
  | (with_reducible refine' w_bm0 ?_)
  | ((with_reducible refine' w_app ?hh ?hz ?_); (case hh => walk_at "hp"); (case hz => first | exact ly_lt (by omega) | exact ly_lt (by simp only [List.length_append, List.length_map, List.length_cons, List.length_nil]; omega)))
  | ((with_reducible refine' w_popA ?hh ?_); (case hh => walk_at "hp"))
  | ((with_reducible refine' w_ext ?hh ?hh2 ?hz ?_); (case hh => walk_at "hp"); (case hh2 => walk_at "hp"))
  | ((with_reducible refine' w_ixL ?hh ?ha ?_); (case hh => walk_at "hp"); (case ha => first | exact rfl | exact at_map (by omega) | exact atI_last _ _ | ((refine' at_of ?ae ?ah); (case ah => assumption); (case ae => omega))))
  | ((with_reducible refine' w_ixT ?hh ?ha ?_); (case hh => walk_at "hp"); (case ha => first | exact rfl | exact at_map (by omega) | exact atI_last _ _ | ((refine' at_of ?ae ?ah); (case ah => assumption); (case ae => omega))))
  | ((with_reducible refine' w_cat ?hh ?hh2 ?hz ?_); (case hh => walk_at "hp"); (case hh2 => walk_at "hp"))
  | ((with_reducible refine' w_setL ?hh ?ha ?_); (case hh => walk_at "hp"); (case ha => exact rfl))
  | (with_reducible refine' w_test ?_)
  | (with_reducible refine' w_tB ?_)
  | (with_reducible refine' w_bl ?_)
  | (with_reducible refine' w_and ?_)
  | (with_reducible refine' w_or ?_)
  | (with_reducible refine' w_not ?_)
  | (with_reducible refine' w_andV ?_)
  | (with_reducible refine' w_orV ?_)
  | (with_reducible refine' w_notV ?_)
  | (with_reducible refine' w_ifE ?_)
  | (with_reducible refine' w_for ?_)
  | ((with_reducible refine' w_nin ?hh ?_); (case hh => walk_at "hp"))
  | ((with_reducible refine' w_sorted ?hh ?_); (case hh => walk_at "hp"))
  | (with_reducible refine' w_tsadd ?_)
  | ((with_reducible refine' w_tsadd1 ?hh ?_); (case hh => walk_at "hp"))
  | ((with_reducible refine' w_sadd ?hh ?hr ?_); (case hh => walk_at "hp"); (case hr => omega))
  | (with_reducible refine' w_iZ ?_)
  | ((with_reducible refine' w_iZ1 ?hh ?hh2 ?_); (case hh => walk_at "hp"); (case hh2 => walk_at "hp"))
  | (with_reducible refine' w_iS ?_)
  | (with_reducible refine' w_iS1 ?_)
  | ((with_reducible refine' w_gtup ?hh ?hn ?_); (case hh => walk_at "hp"); (case hn => exact rfl))
  | (with_reducible refine' w_gcons ?_)
  | (with_reducible refine' w_gnil ?_)
  | (with_reducible refine' w_js ?_)
  | (with_reducible refine' w_jsn ?_)
  | ((with_reducible refine' w_js1 ?hl ?_); (case hl => decide +kernel))
  | (with_reducible refine' w_fmt ?_)
  | ((with_reducible refine' w_fmt1 ?hl ?_); (case hl => decide +kernel))
  | (with_reducible refine' w_callS ?_)
  | ((with_reducible refine' w_truL ?hh ?_); (case hh => walk_at "hp"))
  | (with_reducible refine' w_lc ?_)
  | (with_reducible refine' w_yes ?_)
  | ((with_reducible refine' w_wipe ?he ?_); (case he => exact rfl))
  | (with_reducible refine' w_iL ?_)
  | (with_reducible refine' w_iT ?_)
  | (with_reducible refine' w_iR ?_)
  | ((with_reducible refine' w_iL1 ?hh ?_); (case hh => walk_at "hp"))
  | ((with_reducible refine' w_iT1 ?hh ?_); (case hh => walk_at "hp"))
  | ((with_reducible refine' w_iR1 ?h1 ?h2 ?_); (case h1 => omega); (case h2 => omega))
  | ((with_reducible refine' w_aug ?hv ?_); (case hv => exact rfl))
  | (with_reducible refine' w_ipI ?_)
  | ((with_reducible refine' w_isi ?hy ?hk ?_); (case hy => walk_at "ty"); (case hk => walk_at "kit"))
  | ((with_reducible refine' w_int ?_))
  | ((with_reducible refine' w_intB ?_))
  | ((with_reducible refine' w_abs ?_))
  | ((with_reducible refine' w_lenL ?hh ?_); (case hh => walk_at "hp"))
  | ((with_reducible refine' w_lenT ?hh ?_); (case hh => walk_at "hp"))
  | ((with_reducible refine' w_tupL ?hh ?_); (case hh => walk_at "hp"))
  | ((with_reducible refine' w_tupT ?hh ?_); (case hh => walk_at "hp"))
  | ((with_reducible refine' w_catA ?hh ?hh2 ?hz ?_); (case hh => walk_at "hp"); (case hh2 => walk_at "hp"); (case hz => walk_at "len"))
  | ((with_reducible refine' w_repB ?hh ?hne ?h2 ?h3 ?hz ?_); (case hh => walk_at "hp"); (case hne => simp); (case h2 => omega); (case h3 => omega); (case hz => exact Nat.le_of_ble_eq_true rfl))
  | ((with_reducible refine' w_eqN ?hh ?hh2 ?n1 ?n2 ?_); (case hh => walk_at "hp"); (case hh2 => walk_at "hp"); (case n1 => walk_at "nd"); (case n2 => walk_at "nd"))
  | ((with_reducible refine' w_neN ?hh ?hh2 ?n1 ?n2 ?_); (case hh => walk_at "hp"); (case hh2 => walk_at "hp"); (case n1 => walk_at "nd"); (case n2 => walk_at "nd"))
  | ((with_reducible refine' w_eqL ?hh ?hh2 ?n1 ?n2 ?_); (case hh => walk_at "hp"); (case hh2 => walk_at "hp"); (case n1 => walk_at "nd"); (case n2 => walk_at "nd"))
  | ((with_reducible refine' w_neL ?hh ?hh2 ?n1 ?n2 ?_); (case hh => walk_at "hp"); (case hh2 => walk_at "hp"); (case n1 => walk_at "nd"); (case n2 => walk_at "nd"))
  | ((with_reducible refine' w_neNon ?hh2 ?n2 ?_); (case hh2 => walk_at "hp"); (case n2 => walk_at "nd"))
  | ((with_reducible refine' w_eqNon ?hh2 ?n2 ?_); (case hh2 => walk_at "hp"); (case n2 => walk_at "nd"))
  | ((with_reducible refine' w_slA ?hh ?_); (case hh => walk_at "hp"))
  | ((with_reducible refine' w_disp ?hz ?_); (case hz => exact sz_of (Nat.le_of_ble_eq_true rfl)))
  | ((with_reducible refine' w_tyL ?hh ?_); (case hh => walk_at "hp"))
  | (with_reducible refine' iteT ?_)
  | (with_reducible refine' iteF ?_)
  | (with_reducible refine' w_nT ?_)
  | (with_reducible refine' w_nn ?_)
  | (with_reducible refine' w_nnT ?_)
  | (with_reducible refine' w_nnR ?_)
  | (with_reducible refine' w_neG ?_)
  | (with_reducible refine' w_eqG ?_)
  | (with_reducible refine' w_neS ?_)
  | (with_reducible refine' w_eqS ?_)
  | (with_reducible refine' w_neSb ?_)
  | (with_reducible refine' w_eqSb ?_)
  | (with_reducible refine' w_deIS ?_)
  | (with_reducible refine' w_deSI ?_)
  | (with_reducible refine' w_deISn ?_)
  | ((with_reducible refine' w_deST ?he ?_); (case he => decide +kernel))
  | ((with_reducible refine' w_deSF ?he ?_); (case he => decide +kernel))
  | ((with_reducible refine' w_deSTn ?he ?_); (case he => decide +kernel))
  | ((with_reducible refine' w_deSFn ?he ?_); (case he => decide +kernel))
  | (with_reducible refine' w_nF ?_)
  | dsimp only [Bool.not_true, Bool.not_false])
local macro_rules | `(tactic| walk_at "ty") => `(tactic| first
  | exact .base (.int _) | exact .base (.str _) | exact .base (.bl _) | exact .base .non
  | ((refine' tyx_t ?hq); (case hq => walk_at "hp")) | ((refine' tyx_l ?hq); (case hq => walk_at "hp")) | ((refine' .base (.tup ?hq)); (case hq => walk_at "hp")) | assumption)
local macro_rules | `(tactic| walk_at "go") => `(tactic| repeat walk_at "go1")
local macro_rules | `(tactic| walk_at "st") => `(tactic| try dsimp only [cxOf, Cx.nox, Cx.wish])
local macro_rules | `(tactic| walk_at "kit") => `(tactic| with_reducible first | exact kit_int_int | exact kit_int_str | exact kit_int_bool | exact kit_int_tuple | exact kit_int_list | exact kit_str_int | exact kit_str_str | exact kit_str_bool | exact kit_str_tuple | exact kit_str_list | exact kit_bool_int | exact kit_bool_str | exact kit_bool_bool | exact kit_bool_tuple | exact kit_bool_list | exact kit_NoneType_int | exact kit_NoneType_str | exact kit_NoneType_bool | exact kit_NoneType_tuple | exact kit_NoneType_list | exact kit_list_int | exact kit_list_str | exact kit_list_bool | exact kit_list_tuple | exact kit_list_list | exact kit_tuple_int | exact kit_tuple_str | exact kit_tuple_bool | exact kit_tuple_tuple | exact kit_tuple_list)
local macro_rules | `(tactic| walk_at "nd") => `(tactic| first
  | assumption
  | exact Tm.nds _
  | exact Nds.nil
  | exact Nds.ofInts _
  | ((refine' Nds.cons ?na ?nb); (case na => first | exact Nds.I _ | exact Nds.L | exact Nds.A); (case nb => walk_at "nd"))
  | ((refine' Nds.app ?na ?nb); (case na => walk_at "nd"); (case nb => walk_at "nd"))
  | ((refine' Nds.rep ?na _); (case na => walk_at "nd")))
local macro_rules | `(tactic| walk_at "len") => `(tactic| first
  | exact ly_sz (by omega)
  | ((simp only [List.length_append, List.length_cons, List.length_nil, List.length_map, PyProof.Rows.lm_len_rep_flat]); exact ly_sz (by omega)))
local macro_rules | `(tactic| walk_at "go1") => `(tactic| first
  | (with_reducible refine' w_kget2 ?_)
  | (with_reducible refine' w_isRN ?_)
  | (with_reducible refine' w_isNN ?_)
  | (with_reducible refine' w_isIN ?_)
  | ((with_reducible refine' w_kg ?hd ?_); (case hd => assumption)))
local macro_rules | `(tactic| walk_at "go1") => `(tactic| first
  | ((with_reducible refine' w_extT ?hh ?hh2 ?hz ?_); (case hh => walk_at "hp"); (case hh2 => walk_at "hp"))
  | ((with_reducible refine' w_I ?hc ?_); (case hc => exact ⟨by decide, by decide, by decide⟩))
  | (with_reducible refine' w_sl ?_)
  | (with_reducible refine' w_noP ?_)
  | (with_reducible refine' w_part ?_)
  | (with_reducible refine' w_part1 ?_)
  | (with_reducible refine' w_it ?_)
  | (with_reducible refine' w_it1 ?_)
  | ((with_reducible refine' w_lenZ ?hz ?_); (case hz => omega))
  | ((with_reducible refine' w_addZb ?hz ?_); (case hz => omega))
  | ((with_reducible refine' w_addZf ?hz ?_); (case hz => omega))
  | ((with_reducible refine' w_addZa ?hz ?_); (case hz => omega))
  | ((with_reducible refine' w_inS ?hh ?_); (case hh => walk_at "hp"))
  | ((with_reducible refine' w_ixT ?hh ?ha ?_); (case hh => assumption); (case ha => exact atI_nat (by assumption))))
section
variable {P : Program} {w : World} {K : PySem.W.Frag} {mg : Str → Option Value} {base : Heap} {tk : Nat → Tok} {cl : Nat → Addr}
def spStep (K : PySem.W.Frag) (C1 C2 : Addr) : Sp := fun vs H Q E => ∃ (a : Addr) (t : Tm) (p : List Nat), vs = [.ref a, .str (pl p)] ∧ SqT K H a t.enc ∧ t.enc.length ≤ 3000 ∧ p.length ≤ 2000000 ∧
  (∀ i b u, t.Red p i b u → fitsV (t.step p).enc = true → ∀ H' r, Ex H H' → SqT K H' r (t.step p).enc → Q (.ref r) H') ∧
  (∀ i b u, t.Red p i b u → fitsV (t.step p).enc = false → ∀ H', Ex H H' → E (.ref C1) none H') ∧ ((∀ i b u, ¬ t.Red p i b u) → ∀ H', Ex H H' → E (.ref C2) none H')
def spReds (K : PySem.W.Frag) : Sp := fun vs H Q _ => ∃ (a : Addr) (t : Tm), vs = [.ref a] ∧ SqT K H a t.enc ∧ t.enc.length ≤ 3000 ∧ ∀ H' p, Ex H H' → H p = none → H' p = some (.lst (plcs (t.reds []))) → Q (.ref p) H'
def spIsRed (K : PySem.W.Frag) : Sp := fun vs H Q _ => ∃ (a : Addr) (t : Tm) (i : Nat), vs = [.ref a, .int (i : Int)] ∧ SqT K H a t.enc ∧ i < t.enc.length ∧ Q (.bl (redB t.enc i)) H
theorem ok_is_redex {f : Addr} {fd : FuncData} {k : Nat} (F : Fun K "is_redex" "is_redex" s_is_redex f fd) (T : Txt w K mg tk cl) : FnOk P w K mg base CX0 (k + 1) f fd ["term", "at"] (spIsRed K) := by
  refine F.ok sc_is_redex (fun vs H Q E h => ?_) (fun cdv A outer s H vs Q E hr h => ?_)
  · obtain ⟨a, t, i, rfl, _⟩ := h
    rfl
  · obtain ⟨a, t, i, rfl, hS, hi, q⟩ := h
    refine ⟨_, (pss_one (ps_ret (pe_and (pe_cmpR op_eq (pe_ix ix_tup (pv 0) (pv 1) (fun _ _ => rfl)) pe_str (nomark _)) (pe_one (pe_cmpR op_eq (pe_ix ix_tup (pv 0) (pe_op op_add (pv 1) pe_int) (fun _ _ => rfl)) pe_str (nomark _)))))), ?_⟩
    refine sl_of (σ2 := [some _, some _]) rfl ?_
    walk_at "st"
    obtain ⟨x, hx⟩ : ∃ x, t.enc[i]? = some x := ⟨_, List.getElem?_eq_getElem hi⟩
    rcases Tm.int_nat (List.mem_of_getElem? hx) with ⟨m, rfl⟩ | rfl | rfl
    · rw [redB_of hx (by simp)] at q
      walk_at "go"
      exact q
    · rw [redB_of hx (by simp [str_ne1])] at q
      walk_at "go"
      exact q
    · obtain ⟨y, hy, hyn⟩ := t.after_app hx
      rw [redB_app hx hy] at q
      walk_at "go"
      rcases hyn with ⟨n, rfl⟩ | rfl | rfl
      · walk_at "go"
        exact q
      · walk_at "go"
        exact q
      · walk_at "go"
        exact q
def spRedIx (K : PySem.W.Frag) : Sp := fun vs H Q _ => ∃ (a : Addr) (t : Tm), vs = [.ref a] ∧ SqT K H a t.enc ∧ t.enc.length ≤ 2000000 ∧ ∀ H' p, Ex H H' → H p = none → H' p = some (.lst (nums (redI t.enc t.enc.length))) → Q (.ref p) H'
def spRedAt (K : PySem.W.Frag) (C : Addr) : Sp := fun vs H Q E => ∃ (a : Addr) (t : Tm) (p : List Nat), vs = [.ref a, .str (pl p)] ∧ SqT K H a t.enc ∧ t.enc.length ≤ 2000000 ∧ p.length ≤ 2000000 ∧
  (∀ i b u, t.Red p i b u → Q (.int (i : Int)) H) ∧ ((∀ i b u, ¬ t.Red p i b u) → ∀ H', Ex H H' → E (.ref C) none H')
def spIndexAt (K : PySem.W.Frag) (C : Addr) : Sp := fun vs H Q E => ∃ (a : Addr) (t : Tm) (p : List Nat), vs = [.ref a, .str (pl p)] ∧ SqT K H a t.enc ∧ t.enc.length ≤ 2000000 ∧ p.length ≤ 2000000 ∧
  (∀ i u, t.sub p = some (i, u) → Q (.int (i : Int)) H) ∧ (t.sub p = none → ∀ H', Ex H H' → E (.ref C) none H')
theorem Tm.sub_lt0 {t u : Tm} {p : List Nat} {i : Nat} (hsub : t.sub p = some (i, u)) : i < t.enc.length := by
  obtain ⟨⟨post, hd⟩, _⟩ := Tm.sub_at t p [] hsub
  have hl := congrArg List.length hd
  have pos := List.length_pos_iff.mpr u.enc_ne
  rw [List.length_drop, List.length_append] at hl
  omega
def spStepped (K : PySem.W.Frag) (C : Addr) : Sp := fun vs H Q E => ∃ (a : Addr) (t : Tm) (p : List Nat) (i : Nat) (b u : Tm), vs = [.ref a, .int (i : Int)] ∧ SqT K H a t.enc ∧ t.Red p i b u ∧ t.enc.length ≤ 3000 ∧
  (fitsV (t.step p).enc = true → ∀ H' r, Ex H H' → SqT K H' r (t.step p).enc → Q (.ref r) H') ∧ (fitsV (t.step p).enc = false → ∀ H', Ex H H' → E (.ref C) none H')
theorem ok_stepped {f : Addr} {fd : FuncData} (F : Fun K "stepped" "stepped" s_stepped f fd) (T : Txt w K mg tk cl)
    (D1 : Def P w K mg base CX0 2 "end_of" ["term", "start"] (spEnd K)) (D2 : Def P w K mg base (L2.CX P w) 3 "put" ["term", "value"] (spPut K (cl 1))) (D3 : Def P w K mg base (L2.CX P w) 2 "checked" ["term"] (spChecked K (cl 1))) : FnOk P w K mg base (L2.CX P w) 4 f fd ["term", "at"] (spStepped K (cl 1)) := by
  obtain ⟨f1, fd1, g_end_of, kp_end_of, b_end_of, G_end_of⟩ := D1
  obtain ⟨f2, fd2, g_put, kp_put, b_put, G_put⟩ := D2
  obtain ⟨f3, fd3, g_checked, kp_checked, b_checked, G_checked⟩ := D3
  refine F.okX sc_stepped (fun vs H Q E h => ?_) (fun cdv A outer s H vs Q E hr h => ?_)
  · obtain ⟨a, t, p, i, b, u, rfl, _⟩ := h
    rfl
  · obtain ⟨a, t, p, i, b, u, rfl, hS, hred, hlen, good, large⟩ := h
    refine ⟨_, (pss_cons (ps_set (i := 2) sc_stepped.nd rfl (.inl rfl) (pe_call G_end_of (hr.mono (by first | decide | omega)) (by rfl) g_end_of kp_end_of b_end_of .nil pass0 (pa_cons (pv 0) (pa_cons (pe_op op_add (pv 1) pe_int) pa_nil)))) (pss_cons (ps_set (i := 3) sc_stepped.nd rfl (.inl rfl) (pe_call G_end_of (hr.mono (by first | decide | omega)) (by rfl) g_end_of kp_end_of b_end_of .nil pass0 (pa_cons (pv 0) (pa_cons (pv 2) pa_nil)))) (pss_cons (ps_set (i := 4) sc_stepped.nd rfl (.inl rfl) (pe_call G_put (hr.mono (by first | decide | omega)) (by rfl) g_put kp_put b_put .nil (passes_call (takes_of rfl rfl rfl rfl) (fun _ _ _ _ h => h)) (pa_cons (pe_slice sl_tupA (pv 0) (po_some (pe_op op_add (pv 1) pe_int)) (po_some (pv 2))) (pa_cons (pe_slice sl_tupA (pv 0) (po_some (pv 2)) (po_some (pv 3))) pa_nil)))) (pss_one (ps_ret (pe_call G_checked (hr.mono (by first | decide | omega)) (by rfl) g_checked kp_checked b_checked .nil (passes_call (takes_of rfl rfl rfl rfl) (fun _ _ _ _ h => h)) (pa_cons (pe_op op_catA (pe_op op_catA (pe_slice sl_tupA (pv 0) po_none (po_some (pv 1))) (pv 4)) (pe_slice sl_tupA (pv 0) (po_some (pv 3)) po_none)) pa_nil))))))), ?_⟩
    refine sl_of (σ2 := [some _, some _, none, none, none]) rfl ?_
    walk_at "st"
    walk_at "go"
    obtain ⟨post, hdr⟩ := Tm.red_at hred
    have lt := Tm.sub_lt hred
    have hal : (Tm.app (.lam b) u).enc.length = b.enc.length + u.enc.length + 2 := by
      simp only [Tm.enc, List.length_cons, List.length_append]
      omega
    rw [hal] at lt
    have hll : (Tm.lam b).enc.length = b.enc.length + 1 := rfl
    have d1 : t.enc.drop (i + 1) = (Tm.lam b).enc ++ (u.enc ++ post) := (at_drop hdr).2
    have d2 : t.enc.drop (i + 2) = b.enc ++ (u.enc ++ post) := (at_drop d1).2
    have d3 : t.enc.drop (i + 1 + (Tm.lam b).enc.length) = u.enc ++ post := by
      rw [← List.drop_drop, d1, List.drop_left]
    refine ⟨a, t.enc, i + 1, .lam b, _, rfl, hS, d1, by omega, ?_⟩
    walk_at "go"
    refine ⟨a, t.enc, i + 1 + (Tm.lam b).enc.length, u, _, rfl, hS, d3, by omega, ?_⟩
    walk_at "go"
    intro x2 H3 e3 hx2
    have c2 : cutV t.enc (some ((i : Int) + 2)) (some ((i + 1 + (Tm.lam b).enc.length : Nat) : Int)) = b.enc := by
      have h := cut_mid (i := i + 2) (u := b) d2
      have e : i + 1 + (Tm.lam b).enc.length = i + 2 + b.enc.length := by omega
      rw [e]
      exact h
    rw [c2] at hx2
    have hS3 := ex_t e3 hS
    walk_at "go"
    intro x3 H4 e4 hx3
    have c3 : cutV t.enc (some ((i + 1 + (Tm.lam b).enc.length : Nat) : Int)) (some ((i + 1 + (Tm.lam b).enc.length + u.enc.length : Nat) : Int)) = u.enc := cut_mid d3
    rw [c3] at hx3
    have hS4 := ex_t e4 hS3
    have hx2 := ex_t e4 hx2
    have e9 := Tm.step_enc hred
    have e34 := e3.trans e4
    have e10 : i + 1 + (Tm.lam b).enc.length + u.enc.length = i + 2 + b.enc.length + u.enc.length := by omega
    walk_at "go"
    refine ⟨x2, x3, b, u, rfl, hx2, hx3, by omega, by omega, fun hf x4 H5 e5 hx4 => ?_, fun hf H5 e5 => ?_⟩
    · have hS5 := ex_t e5 hS4
      have pl := fits_len hf
      have sl := sizeLine_eq
      walk_at "go"
      intro x1 H6 e6 hx1
      rw [cut_lo] at hx1
      have hS6 := ex_t e6 hS5
      have hx4 := ex_t e6 hx4
      walk_at "go"
      refine w_catA hx1 hx4 (by rw [List.length_take]; omega) fun x5 H7 e7 hx5 => ?_
      have hS7 := ex_t e7 hS6
      walk_at "go"
      intro x6 H8 e8 hx6
      rw [cut_hi] at hx6
      have hx5 := ex_t e8 hx5
      walk_at "go"
      refine w_catA hx5 hx6 (by rw [List.length_append, List.length_take, List.length_drop]; omega) fun x7 H9 e10b hx7 => ?_
      walk_at "go"
      rw [e10, ← e9] at hx7
      have ee : Ex H H9 := e34.trans (e5.trans (e6.trans (e7.trans (e8.trans e10b))))
      refine ⟨x7, _, rfl, hx7, (Tm.nds _).flat, fun h => ?_, fun h => large h _ ee⟩
      exact good h _ _ ee hx7
    · refine large ?_ _ (e34.trans e5)
      rw [e9]
      exact fits_mid hf

end
end Ly
set_option Elab.async false
set_option linter.all false
set_option maxRecDepth 100000
set_option maxHeartbeats 8000000
namespace Ly
open PySem PySem.Spec PyProof.Rows L2 Evl
local macro_rules | `(tactic| walk_at "ne") => `(tactic| first
  | assumption
  | ((refine' Ne.symm ?hq); (case hq => assumption))
  | ((refine' ne_of_none ?nh1 ?nh2); (case nh2 => assumption); (case nh1 => walk_at "hp"))
  | ((refine' Ne.symm (ne_of_none ?nh1 ?nh2)); (case nh2 => assumption); (case nh1 => walk_at "hp")))
local macro_rules | `(tactic| walk_at "hp") => `(tactic| first
  | assumption
  | exact upd_same
  | ((refine' SqL.of ?hq); (case hq => walk_at "hp"))
  | ((refine' SqT.of ?hq); (case hq => walk_at "hp"))
  | ((refine' (upd_ne ?hne).trans ?hrest); (case hne => walk_at "ne"); (case hrest => walk_at "hp"))
  | ((refine' ly_at ?hex ?hh); (case hex => assumption); (case hh => walk_at "hp"))
  | ((refine' ly_atF ?hex ?hnn ?hh); (case hex => assumption); (case hh => walk_at "hp"); (case hnn => walk_at "ne"))
  | ((refine' ex_t ?hex ?hh); (case hh => assumption); (case hex => walk_at "ex"))
  | ((refine' ex_l ?hex ?hh); (case hh => assumption); (case hex => walk_at "ex")))
local macro_rules | `(tactic| walk_at "ex") => `(tactic| first
  | assumption
  | exact Ex.refl _
  | ((refine' ex_new ?xa ?xb); (case xb => assumption); (case xa => walk_at "ex"))
  | ((refine' ex_upd ?xa ?xb); (case xb => walk_at "free"); (case xa => walk_at "ex"))
  | ((refine' Ex.trans ?xa ?xb); (case xb => assumption); (case xa => walk_at "ex")))
local macro_rules | `(tactic| walk_at "free") => `(tactic| first
  | assumption
  | ((refine' fresh_back ?xa ?xb); (case xb => assumption); (case xa => walk_at "ex")))
local macro_rules | `(tactic| walk_at "fr") => `(tactic| first
  | assumption
  | exact Fr.refl _ _
  | ((refine' Fr.own ?hq); (case hq => walk_at "fr"))
  | ((refine' Fr.new ?xa ?xb); (case xb => assumption); (case xa => walk_at "fr"))
  | ((refine' Fr.mut ?xa ?xb); (case xb => assumption); (case xa => walk_at "fr"))
  | ((refine' Fr.trans ?xa ?xb); (case xb => assumption); (case xa => walk_at "fr"))
  | ((refine' Fr.trans ?xa (Fr.ex ?xb)); (case xb => assumption); (case xa => walk_at "fr")))
local macro_rules | `(tactic| walk_at "go1") => `(tactic| first
  | (with_reducible refine' w_seq ?_)
  | (with_reducible refine' w_asg ?_)
  | (with_reducible refine' w_ret ?_)
  | (with_reducible refine' w_drop ?_)
  | (with_reducible refine' w_if ?_)
  | (with_reducible refine' w_next ?_)
  | (with_reducible refine' w_name ?_)
  | (with_reducible refine' w_sub ?_)
  | ((with_reducible refine' w_var ?hv ?_); (case hv => exact rfl))
  | (with_reducible refine' w_c ?_)
  | (with_reducible refine' w_op ?_)
  | (with_reducible refine' w_un ?_)
  | (with_reducible refine' w_ch ?_)
  | (with_reducible refine' w_I0 ?_)
  | ((with_reducible refine' w_I ?hc ?_); (case hc => first | (exact ly_mulL (by decide) (by decide)) | (exact ly_mulR (by decide) (by decide)) | (exact ly_mulL (by omega) (by omega)) | (show (_ : Int) ≠ 0; decide) | (show (_ : Int) ≠ 0; omega) | (exact ⟨by decide, by decide⟩) | (exact ⟨by omega, by omega⟩)))
  | (with_reducible refine' w_U ?_)
  | ((with_reducible refine' w_eq ?hs ?_); (case hs => exact rfl))
  | ((with_reducible refine' w_ne ?hs ?_); (case hs => exact rfl))
  | (with_reducible refine' w_isB ?_)
  | (with_reducible refine' w_notB ?_)
  | (with_reducible refine' w_nil ?_)
  | (with_reducible refine' w_cons ?_)
  | (with_reducible refine' w_tup ?_)
  | (with_reducible refine' w_lst ?_)
  | (with_reducible refine' w_cb ?_)
  | (with_reducible refine' w_call ?_)
  | (with_reducible refine' w_bm ?_)
  | (with_reducible refine' w_bm0 ?_)
  | ((with_reducible refine' w_app ?hh ?hz ?_); (case hh => walk_at "hp"); (case hz => first | exact ly_lt (by omega) | exact ly_lt (by simp only [List.length_append, List.length_map, List.length_cons, List.length_nil]; omega)))
  | ((with_reducible refine' w_popA ?hh ?_); (case hh => walk_at "hp"))
  | ((with_reducible refine' w_ext ?hh ?hh2 ?hz ?_); (case hh => walk_at "hp"); (case hh2 => walk_at "hp"))
  | ((with_reducible refine' w_ixL ?hh ?ha ?_); (case hh => walk_at "hp"); (case ha => first | exact rfl | exact at_map (by omega) | exact atI_last _ _ | ((refine' at_of ?ae ?ah); (case ah => assumption); (case ae => omega))))
  | ((with_reducible refine' w_ixT ?hh ?ha ?_); (case hh => walk_at "hp"); (case ha => first | exact rfl | exact at_map (by omega) | exact atI_last _ _ | ((refine' at_of ?ae ?ah); (case ah => assumption); (case ae => omega))))
  | ((with_reducible refine' w_cat ?hh ?hh2 ?hz ?_); (case hh => walk_at "hp"); (case hh2 => walk_at "hp"))
  | ((with_reducible refine' w_setL ?hh ?ha ?_); (case hh => walk_at "hp"); (case ha => exact rfl))
  | (with_reducible refine' w_test ?_)
  | (with_reducible refine' w_tB ?_)
  | (with_reducible refine' w_bl ?_)
  | (with_reducible refine' w_and ?_)
  | (with_reducible refine' w_or ?_)
  | (with_reducible refine' w_not ?_)
  | (with_reducible refine' w_andV ?_)
  | (with_reducible refine' w_orV ?_)
  | (with_reducible refine' w_notV ?_)
  | (with_reducible refine' w_ifE ?_)
  | (with_reducible refine' w_for ?_)
  | ((with_reducible refine' w_nin ?hh ?_); (case hh => walk_at "hp"))
  | ((with_reducible refine' w_sorted ?hh ?_); (case hh => walk_at "hp"))
  | (with_reducible refine' w_tsadd ?_)
  | ((with_reducible refine' w_tsadd1 ?hh ?_); (case hh => walk_at "hp"))
  | ((with_reducible refine' w_sadd ?hh ?hr ?_); (case hh => walk_at "hp"); (case hr => omega))
  | (with_reducible refine' w_iZ ?_)
  | ((with_reducible refine' w_iZ1 ?hh ?hh2 ?_); (case hh => walk_at "hp"); (case hh2 => walk_at "hp"))
  | (with_reducible refine' w_iS ?_)
  | (with_reducible refine' w_iS1 ?_)
  | ((with_reducible refine' w_gtup ?hh ?hn ?_); (case hh => walk_at "hp"); (case hn => exact rfl))
  | (with_reducible refine' w_gcons ?_)
  | (with_reducible refine' w_gnil ?_)
  | (with_reducible refine' w_js ?_)
  | (with_reducible refine' w_jsn ?_)
  | ((with_reducible refine' w_js1 ?hl ?_); (case hl => decide +kernel))
  | (with_reducible refine' w_fmt ?_)
  | ((with_reducible refine' w_fmt1 ?hl ?_); (case hl => decide +kernel))
  | (with_reducible refine' w_callS ?_)
  | ((with_reducible refine' w_truL ?hh ?_); (case hh => walk_at "hp"))
  | (with_reducible refine' w_lc ?_)
  | (with_reducible refine' w_yes ?_)
  | ((with_reducible refine' w_wipe ?he ?_); (case he => exact rfl))
  | (with_reducible refine' w_iL ?_)
  | (with_reducible refine' w_iT ?_)
  | (with_reducible refine' w_iR ?_)
  | ((with_reducible refine' w_iL1 ?hh ?_); (case hh => walk_at "hp"))
  | ((with_reducible refine' w_iT1 ?hh ?_); (case hh => walk_at "hp"))
  | ((with_reducible refine' w_iR1 ?h1 ?h2 ?_); (case h1 => omega); (case h2 => omega))
  | ((with_reducible refine' w_aug ?hv ?_); (case hv => exact rfl))
  | (with_reducible refine' w_ipI ?_)
  | ((with_reducible refine' w_isi ?hy ?hk ?_); (case hy => walk_at "ty"); (case hk => walk_at "kit"))
  | ((with_reducible refine' w_int ?_))
  | ((with_reducible refine' w_intB ?_))
  | ((with_reducible refine' w_abs ?_))
  | ((with_reducible refine' w_lenL ?hh ?_); (case hh => walk_at "hp"))
  | ((with_reducible refine' w_lenT ?hh ?_); (case hh => walk_at "hp"))
  | ((with_reducible refine' w_tupL ?hh ?_); (case hh => walk_at "hp"))
  | ((with_reducible refine' w_tupT ?hh ?_); (case hh => walk_at "hp"))
  | ((with_reducible refine' w_catA ?hh ?hh2 ?hz ?_); (case hh => walk_at "hp"); (case hh2 => walk_at "hp"); (case hz => walk_at "len"))
  | ((with_reducible refine' w_repB ?hh ?hne ?h2 ?h3 ?hz ?_); (case hh => walk_at "hp"); (case hne => simp); (case h2 => omega); (case h3 => omega); (case hz => exact Nat.le_of_ble_eq_true rfl))
  | ((with_reducible refine' w_eqN ?hh ?hh2 ?n1 ?n2 ?_); (case hh => walk_at "hp"); (case hh2 => walk_at "hp"); (case n1 => walk_at "nd"); (case n2 => walk_at "nd"))
  | ((with_reducible refine' w_neN ?hh ?hh2 ?n1 ?n2 ?_); (case hh => walk_at "hp"); (case hh2 => walk_at "hp"); (case n1 => walk_at "nd"); (case n2 => walk_at "nd"))
  | ((with_reducible refine' w_eqL ?hh ?hh2 ?n1 ?n2 ?_); (case hh => walk_at "hp"); (case hh2 => walk_at "hp"); (case n1 => walk_at "nd"); (case n2 => walk_at "nd"))
  | ((with_reducible refine' w_neL ?hh ?hh2 ?n1 ?n2 ?_); (case hh => walk_at "hp"); (case hh2 => walk_at "hp"); (case n1 => walk_at "nd"); (case n2 => walk_at "nd"))
  | ((with_reducible refine' w_neNon ?hh2 ?n2 ?_); (case hh2 => walk_at "hp"); (case n2 => walk_at "nd"))
  | ((with_reducible refine' w_eqNon ?hh2 ?n2 ?_); (case hh2 => walk_at "hp"); (case n2 => walk_at "nd"))
  | ((with_reducible refine' w_slA ?hh ?_); (case hh => walk_at "hp"))
  | ((with_reducible refine' w_disp ?hz ?_); (case hz => exact sz_of (Nat.le_of_ble_eq_true rfl)))
  | ((with_reducible refine' w_tyL ?hh ?_); (case hh => walk_at "hp"))
  | (with_reducible refine' iteT ?_)
  | (with_reducible refine' iteF ?_)
  | (with_reducible refine' w_nT ?_)
  | (with_reducible refine' w_nn ?_)
  | (with_reducible refine' w_nnT ?_)
  | (with_reducible refine' w_nnR ?_)
  | (with_reducible refine' w_neG ?_)
  | (with_reducible refine' w_eqG ?_)
  | (with_reducible refine' w_neS ?_)
  | (with_reducible refine' w_eqS ?_)
  | (with_reducible refine' w_neSb ?_)
  | (with_reducible refine' w_eqSb ?_)
  | (with_reducible refine' w_deIS ?_)
  | (with_reducible refine' w_deSI ?_)
  | (with_reducible refine' w_deISn ?_)
  | ((with_reducible refine' w_deST ?he ?_); (case he => decide +kernel))
  | ((with_reducible refine' w_deSF ?he ?_); (case he => decide +kernel))
  | ((with_reducible refine' w_deSTn ?he ?_); (case he => decide +kernel))
  | ((with_reducible refine' w_deSFn ?he ?_); (case he => decide +kernel))
  | (with_reducible refine' w_nF ?_)
  | dsimp only [Bool.not_true, Bool.not_false])
local macro_rules | `(tactic| walk_at "ty") => `(tactic| first
  | exact .base (.int _) | exact .base (.str _) | exact .base (.bl _) | exact .base .non
  | ((refine' tyx_t ?hq); (case hq => walk_at "hp")) | ((refine' tyx_l ?hq); (case hq => walk_at "hp")) | ((refine' .base (.tup ?hq)); (case hq => walk_at "hp")) | assumption)
local macro_rules | `(tactic| walk_at "go") => `(tactic| repeat walk_at "go1")
local macro_rules | `(tactic| walk_at "st") => `(tactic| try dsimp only [cxOf, Cx.nox, Cx.wish])
local macro_rules | `(tactic| walk_at "kit") => `(tactic| with_reducible first | exact kit_int_int | exact kit_int_str | exact kit_int_bool | exact kit_int_tuple | exact kit_int_list | exact kit_str_int | exact kit_str_str | exact kit_str_bool | exact kit_str_tuple | exact kit_str_list | exact kit_bool_int | exact kit_bool_str | exact kit_bool_bool | exact kit_bool_tuple | exact kit_bool_list | exact kit_NoneType_int | exact kit_NoneType_str | exact kit_NoneType_bool | exact kit_NoneType_tuple | exact kit_NoneType_list | exact kit_list_int | exact kit_list_str | exact kit_list_bool | exact kit_list_tuple | exact kit_list_list | exact kit_tuple_int | exact kit_tuple_str | exact kit_tuple_bool | exact kit_tuple_tuple | exact kit_tuple_list)
local macro_rules | `(tactic| walk_at "nd") => `(tactic| first
  | assumption
  | exact Tm.nds _
  | exact Nds.nil
  | exact Nds.ofInts _
  | ((refine' Nds.cons ?na ?nb); (case na => first | exact Nds.I _ | exact Nds.L | exact Nds.A); (case nb => walk_at "nd"))
  | ((refine' Nds.app ?na ?nb); (case na => walk_at "nd"); (case nb => walk_at "nd"))
  | ((refine' Nds.rep ?na _); (case na => walk_at "nd")))
local macro_rules | `(tactic| walk_at "len") => `(tactic| first
  | exact ly_sz (by omega)
  | ((simp only [List.length_append, List.length_cons, List.length_nil, List.length_map, PyProof.Rows.lm_len_rep_flat]); exact ly_sz (by omega)))
local macro_rules | `(tactic| walk_at "go1") => `(tactic| first
  | (with_reducible refine' w_kget2 ?_)
  | (with_reducible refine' w_isRN ?_)
  | (with_reducible refine' w_isNN ?_)
  | (with_reducible refine' w_isIN ?_)
  | ((with_reducible refine' w_kg ?hd ?_); (case hd => assumption)))
local macro_rules | `(tactic| walk_at "go1") => `(tactic| first
  | ((with_reducible refine' w_extT ?hh ?hh2 ?hz ?_); (case hh => walk_at "hp"); (case hh2 => walk_at "hp"))
  | ((with_reducible refine' w_I ?hc ?_); (case hc => exact ⟨by decide, by decide, by decide⟩))
  | (with_reducible refine' w_sl ?_)
  | (with_reducible refine' w_noP ?_)
  | (with_reducible refine' w_part ?_)
  | (with_reducible refine' w_part1 ?_)
  | (with_reducible refine' w_it ?_)
  | (with_reducible refine' w_it1 ?_)
  | ((with_reducible refine' w_lenZ ?hz ?_); (case hz => omega))
  | ((with_reducible refine' w_addZb ?hz ?_); (case hz => omega))
  | ((with_reducible refine' w_addZf ?hz ?_); (case hz => omega))
  | ((with_reducible refine' w_addZa ?hz ?_); (case hz => omega))
  | ((with_reducible refine' w_inS ?hh ?_); (case hh => walk_at "hp"))
  | ((with_reducible refine' w_ixT ?hh ?ha ?_); (case hh => assumption); (case ha => exact atI_nat (by assumption))))
local macro_rules | `(tactic| walk_at "go1") => `(tactic| first
  | (with_reducible refine' w_iR2 ?_)
  | ((with_reducible refine' w_iR21 ?h1 ?h2 ?h3 ?h4 ?_); (case h1 => omega); (case h2 => omega); (case h3 => omega); (case h4 => omega))
  | (with_reducible refine' w_nnI ?_)
  | (with_reducible refine' w_max ?_)
  | (with_reducible refine' w_break ?_)
  | (with_reducible refine' w_cont ?_))
section
variable {P : Program} {w : World} {K : PySem.W.Frag} {mg : Str → Option Value} {base : Heap} {tk : Nat → Tok} {cl : Nat → Addr}
/-! ### steps at the first redex, by the program -/
def spFirst (K : PySem.W.Frag) : Sp := fun vs H Q _ => ∃ (a : Addr) (t : Tm) (s : Nat), vs = [.ref a, .int (s : Int)] ∧ SqT K H a t.enc ∧ t.enc.length ≤ 2000000 ∧ s ≤ 2000000 ∧
  (∀ i : Nat, s ≤ i → i < t.enc.length → redB t.enc i = true → (∀ j, s ≤ j → j < i → redB t.enc j = false) → Q (.int (i : Int)) H) ∧ ((∀ j, s ≤ j → j < t.enc.length → redB t.enc j = false) → Q .non H)
theorem ok_first {f : Addr} {fd : FuncData} (F : Fun K "first_redex" "first_redex" s_first_redex f fd) (T : Txt w K mg tk cl)
    (D1 : Def P w K mg base CX0 1 "is_redex" ["term", "at"] (spIsRed K)) : FnOk P w K mg base CX0 2 f fd ["term", "start"] (spFirst K) := by
  obtain ⟨f1, fd1, g_is_redex, kp_is_redex, b_is_redex, G_is_redex⟩ := D1
  refine F.ok sc_first_redex (fun vs H Q E h => ?_) (fun cdv A outer s H vs Q E hr h => ?_)
  · obtain ⟨a, t, s0, rfl, _⟩ := h
    rfl
  · obtain ⟨a, t, s0, rfl, hS, hlen, hs0, q, x⟩ := h
    refine ⟨_, (pss_cons (ps_for PassesOwn.never rfl (pi_range2 (by rfl) T.n_range (pa_cons (pv 1) (pa_cons (pe_callB call_len_seq (by rfl) T.n_len (by decide +kernel) (pa_cons (pv 0) pa_nil)) pa_nil))) (pg_name (i := 2) sc_first_redex.nd rfl (.inl rfl)) (pss_one (ps_if (pt_val (pe_call G_is_redex (hr.mono (by first | decide | omega)) (by rfl) g_is_redex kp_is_redex b_is_redex .nil pass0 (pa_cons (pv 0) (pa_cons (pv 2) pa_nil)))) (pss_one (ps_ret (pv 2))) pss_nil))) (pss_one (ps_ret pe_non))), ?_⟩
    refine sl_of (σ2 := [some _, some _, none]) rfl ?_
    walk_at "st"
    walk_at "go"
    refine for_range (lo := (s0 : Int)) (n := ((t.enc.length : Int) - (s0 : Int)).toNat) (fun i σ H' => H' = H ∧ ∃ y : Option V, σ = [some (.ref a), some (.int (s0 : Int)), y] ∧ ∀ j, s0 ≤ j → j < s0 + i → redB t.enc j = false)
      ⟨rfl, none, rfl, fun j h1 h2 => by omega⟩ ?_ ?_
    · rintro i σ H' hi ⟨rfl, y, rfl, hno⟩
      have hil : s0 + i < t.enc.length := by omega
      walk_at "go"
      refine ⟨a, t, s0 + i, by simp, hS, hil, ?_⟩
      cases hb : redB t.enc (s0 + i) with
      | true =>
        walk_at "go"
        have e : ((s0 : Int) + (i : Int)) = ((s0 + i : Nat) : Int) := by omega
        rw [e]
        exact q (s0 + i) (by omega) hil hb fun j h1 h2 => hno j h1 h2
      | false =>
        walk_at "go"
        refine ⟨rfl, _, rfl, fun j h1 h2 => ?_⟩
        by_cases e : j = s0 + i
        · rw [e]
          exact hb
        · exact hno j h1 (by omega)
    · rintro σ H' ⟨rfl, y, rfl, hno⟩
      walk_at "go"
      exact x fun j h1 h2 => hno j h1 (by omega)
def spNextF (K : PySem.W.Frag) : Sp := fun vs H Q _ => ∃ (a : Addr) (t : Tm) (i0 : Nat), vs = [.ref a, .int (i0 : Int)] ∧ SqT K H a t.enc ∧ t.enc.length ≤ 2000000 ∧ i0 ≤ 2000000 ∧
  (∀ i : Nat, i0 - 1 ≤ i → i < t.enc.length → redB t.enc i = true → (∀ j, i0 - 1 ≤ j → j < i → redB t.enc j = false) → Q (.int (i : Int)) H) ∧ ((∀ j, i0 - 1 ≤ j → j < t.enc.length → redB t.enc j = false) → Q .non H)
theorem ok_nextf {f : Addr} {fd : FuncData} (F : Fun K "next_redex" "next_redex" s_next_redex f fd) (T : Txt w K mg tk cl)
    (D1 : Def P w K mg base CX0 2 "first_redex" ["term", "start"] (spFirst K)) : FnOk P w K mg base CX0 3 f fd ["term", "at"] (spNextF K) := by
  obtain ⟨f1, fd1, g_first_redex, kp_first_redex, b_first_redex, G_first_redex⟩ := D1
  refine F.ok sc_next_redex (fun vs H Q E h => ?_) (fun cdv A outer s H vs Q E hr h => ?_)
  · obtain ⟨a, t, s0, rfl, _⟩ := h
    rfl
  · obtain ⟨a, t, i0, rfl, hS, hlen, hs0, q, x⟩ := h
    refine ⟨_, (pss_one (ps_ret (pe_call G_first_redex (hr.mono (by first | decide | omega)) (by rfl) g_first_redex kp_first_redex b_first_redex .nil pass0 (pa_cons (pv 0) (pa_cons (pe_callB (call_max2 rfl) (by rfl) T.n_max (by decide +kernel) (pa_cons (pe_op op_sub (pv 1) pe_int) (pa_cons pe_int pa_nil))) pa_nil))))), ?_⟩
    refine sl_of (σ2 := [some _, some _]) rfl ?_
    walk_at "st"
    walk_at "go"
    have e : (if (0 : Int) > (i0 : Int) - 1 then (0 : Int) else (i0 : Int) - 1) = ((i0 - 1 : Nat) : Int) := by
      split <;> omega
    refine ⟨_, _, rfl, ?_⟩
    walk_at "go"
    rw [e]
    exact ⟨a, t, i0 - 1, rfl, hS, hlen, by omega, q, x⟩
/-- the value that stands for the first redex -/
def Fst (u : Tm) (v : V) : Prop := (∃ i : Nat, v = .int (i : Int) ∧ i < u.enc.length ∧ redB u.enc i = true ∧ ∀ j, j < i → redB u.enc j = false) ∨ (v = .non ∧ ∀ j, j < u.enc.length → redB u.enc j = false)
theorem spFirst0 {K : PySem.W.Frag} {a : Addr} {t : Tm} {H : Hp} {Q : VK} {E : XK} (hS : SqT K H a t.enc) (hlen : t.enc.length ≤ 2000000) (q : ∀ v, Fst t v → Q v H) : spFirst K [.ref a, .int 0] H Q E :=
  ⟨a, t, 0, rfl, hS, hlen, by omega, fun i _ hi hb hno => q _ (.inl ⟨i, rfl, hi, hb, fun j hj => hno j (Nat.zero_le _) hj⟩), fun hno => q _ (.inr ⟨rfl, fun j hj => hno j (Nat.zero_le _) hj⟩)⟩
theorem spNextF0 {K : PySem.W.Frag} {a : Addr} {t : Tm} {i0 : Nat} {H : Hp} {Q : VK} {E : XK} (hS : SqT K H a t.enc) (hlen : t.enc.length ≤ 2000000) (hi : i0 ≤ 2000000) (low : ∀ j, j + 1 < i0 → redB t.enc j = false) (q : ∀ v, Fst t v → Q v H) : spNextF K [.ref a, .int (i0 : Int)] H Q E :=
  ⟨a, t, i0, rfl, hS, hlen, hi, fun i _ hi hb hno => q _ (.inl ⟨i, rfl, hi, hb, fun j hj => by
    by_cases c : j + 1 < i0
    · exact low j c
    · exact hno j (by omega) hj⟩), fun hno => q _ (.inr ⟨rfl, fun j hj => by
    by_cases c : j + 1 < i0
    · exact low j c
    · exact hno j (by omega) hj⟩)⟩
def spNormal (K : PySem.W.Frag) (C1 C4 : Addr) : Sp := fun vs H Q E => ∃ (a : Addr) (t : Tm) (k : Nat), vs = [.ref a, .int (k : Int)] ∧ SqT K H a t.enc ∧ t.enc.length ≤ 3000 ∧ fitsV t.enc = true ∧ k ≤ 3000000 ∧
  (∀ road u, Tm.nf k t = (road, .done u) → ∀ H' p x, Ex H H' → SqT K H' p [.ref x, .int (road.length : Int)] → SqT K H' x u.enc → Q (.ref p) H') ∧
  (∀ road, Tm.nf k t = (road, .out) → ∀ H', Ex H H' → E (.ref C4) none H') ∧ (∀ road, Tm.nf k t = (road, .large) → ∀ H', Ex H H' → E (.ref C1) none H')
def spRepN (K : PySem.W.Frag) (mg : Str → Option Value) (C1 C4 : Addr) : Sp := fun vs H Q E => ∃ (a : Addr) (t : Tm) (k : Nat) (f1 f2 : Addr), vs = [.ref a, .int (k : Int), .ref f1, .ref f2] ∧ mg "next_redex" = some (.ref f1) ∧ mg "stepped" = some (.ref f2) ∧ SqT K H a t.enc ∧ t.enc.length ≤ 3000 ∧ fitsV t.enc = true ∧ k ≤ 3000000 ∧
  (∀ road u, Tm.nf k t = (road, .done u) → ∀ H' p x, Ex H H' → SqT K H' p [.ref x, .int (road.length : Int)] → SqT K H' x u.enc → Q (.ref p) H') ∧
  (∀ road, Tm.nf k t = (road, .out) → ∀ H', Ex H H' → E (.ref C4) none H') ∧ (∀ road, Tm.nf k t = (road, .large) → ∀ H', Ex H H' → E (.ref C1) none H')
theorem w_callL {i : Nat} {f : Addr} {sp : Sp} {dvs : List V} {E : XK} {σ : L2.St} {H : Hp} {Q : VK} {tA : TA} (h0 : σ[i]? = some (some (.ref f))) (h : tA σ H fun vs H1 => sp (vs ++ dvs) H1 Q E) : tCallL i f sp dvs E tA σ H Q := ⟨h0, h⟩
local macro_rules | `(tactic| walk_at "go1") => `(tactic| ((with_reducible refine' w_callL ?hi ?_); (case hi => exact rfl)))
theorem ok_repeated {f : Addr} {fd : FuncData} (F : Fun K "repeated" "repeated" s_repeated f fd) (T : Txt w K mg tk cl)
    (D2 : Def P w K mg base (L2.CX P w) 4 "stepped" ["term", "at"] (spStepped K (cl 1))) (D3 : Def P w K mg base CX0 3 "next_redex" ["term", "at"] (spNextF K))
    (D4 : Def P w K mg base (L2.CX P w) 2 "checked" ["term"] (spChecked K (cl 1))) : FnOk P w K mg base (L2.CX P w) 6 f fd ["term", "steps", "next_at", "step_at"] (spRepN K mg (cl 1) (cl 4)) := by
  obtain ⟨f2, fd2, g_stepped, kp_stepped, b_stepped, G_stepped⟩ := D2
  obtain ⟨f3, fd3, g_next_redex, kp_next_redex, b_next_redex, G_next_redex⟩ := D3
  obtain ⟨f4, fd4, g_checked, kp_checked, b_checked, G_checked⟩ := D4
  refine F.okX sc_repeated (fun vs H Q E h => ?_) (fun cdv A outer s H vs Q E hr h => ?_)
  · obtain ⟨a, t, k, x1, x2, rfl, _⟩ := h
    rfl
  · obtain ⟨a, t, k, x1, x2, rfl, m1, m2, hS, hlen, hfit, hk, qd, qo, ql⟩ := h
    obtain rfl : x1 = f3 := Value.ref.inj (Option.some.inj (m1.symm.trans g_next_redex))
    obtain rfl : x2 = f2 := Value.ref.inj (Option.some.inj (m2.symm.trans g_stepped))
    refine ⟨_, (pss_cons (ps_set (i := 4) sc_repeated.nd rfl (.inl rfl) pe_int) (pss_cons (ps_set (i := 5) sc_repeated.nd rfl (.inl rfl) (pe_callL (i := 2) G_next_redex (hr.mono (by first | decide | omega)) rfl (.inl rfl) kp_next_redex b_next_redex .nil pass0 (pa_cons (pv 0) (pa_cons pe_int pa_nil)))) (pss_cons (ps_while (passes_of rfl) (pt_cmpR op_notN (pv 5) pe_non (nomark _)) (pss_cons (ps_if (pt_cmpR op_ge (pv 4) (pv 1) (nomark _)) (pss_one (ps_raise rfl (takes_of rfl rfl rfl rfl) (SkE.pmk_own1 PySem.F.excBase_ValueError T.x_OutOfSteps T.g_OutOfSteps T.k_OutOfSteps (raises_own T.b_OutOfSteps T.t_OutOfSteps) rfl pe_str))) pss_nil) (pss_cons (ps_set (i := 0) sc_repeated.nd rfl (.inl rfl) (pe_callL (i := 3) G_stepped (hr.mono (by first | decide | omega)) rfl (.inl rfl) kp_stepped b_stepped .nil (passes_call (takes_of rfl rfl rfl rfl) (fun _ _ _ _ h => h)) (pa_cons (pv 0) (pa_cons (pv 5) pa_nil)))) (pss_cons (ps_aug (i := 4) sc_repeated.nd rfl (.inl rfl) pe_int ip_add) (pss_one (ps_set (i := 5) sc_repeated.nd rfl (.inl rfl) (pe_callL (i := 2) G_next_redex (hr.mono (by first | decide | omega)) rfl (.inl rfl) kp_next_redex b_next_redex .nil pass0 (pa_cons (pv 0) (pa_cons (pv 5) pa_nil))))))))) (pss_one (ps_ret (pe_tup (pa_cons (pe_call G_checked (hr.mono (by first | decide | omega)) (by rfl) g_checked kp_checked b_checked .nil (passes_call (takes_of rfl rfl rfl rfl) (fun _ _ _ _ h => h)) (pa_cons (pv 0) pa_nil)) (pa_cons (pv 4) pa_nil)))))))), ?_⟩
    refine sl_of (σ2 := [some _, some _, some _, some _, none, none]) rfl ?_
    walk_at "st"
    walk_at "go"
    refine spNextF0 (i0 := 0) hS (by omega) (by omega) (fun j hj => by omega) fun v0 hv0 => ?_
    walk_at "go"
    refine w_while (fun m σ H' => ∃ (x : Addr) (u : Tm) (n : Nat) (road : List (List Nat)) (v : V), σ = [some (.ref x), some (.int (k : Int)), some (.ref x1), some (.ref x2), some (.int (n : Int)), some v] ∧ Ex H H' ∧ SqT K H' x u.enc ∧ u.enc.length ≤ 3000 ∧ fitsV u.enc = true ∧ n = road.length ∧ n ≤ k ∧ Tm.nf k t = preW road (Tm.nf (k - n) u) ∧ m = k - n ∧ Fst u v) k
      ⟨a, t, 0, [], v0, rfl, Ex.refl H, hS, hlen, hfit, rfl, Nat.zero_le _, rfl, rfl, hv0⟩ ?_
    rintro m σ H1 ⟨x, u, n, road, v, rfl, e1, hx, hul, huf, hn, hnk, hnf, rfl, hv⟩
    rcases hv with ⟨i, rfl, hi, hb, hno⟩ | ⟨rfl, hno⟩
    · obtain ⟨p, r, b, c, hp, hrs, hred⟩ := Tm.first_red hi hb hno
      walk_at "go"
      refine ⟨fun σ' H' => ∃ (x : Addr) (u : Tm) (n' : Nat) (road : List (List Nat)) (v : V), σ' = [some (.ref x), some (.int (k : Int)), some (.ref x1), some (.ref x2), some (.int (n' : Int)), some v] ∧ Ex H H' ∧ SqT K H' x u.enc ∧ u.enc.length ≤ 3000 ∧ fitsV u.enc = true ∧ n' = road.length ∧ n' ≤ k ∧ Tm.nf k t = preW road (Tm.nf (k - n') u) ∧ n' = n + 1 ∧ Fst u v,
        fun σ' H' ⟨x, u, n', road, v, h1, h2, h3, h4, h5, h6, h7, h8, h9, h10⟩ => ⟨k - n', by omega, x, u, n', road, v, h1, h2, h3, h4, h5, h6, h7, h8, rfl, h10⟩, ?_⟩
      walk_at "go"
      refine w_br (fun c1 => ?_) (fun c1 => ?_)
      · have e0 : k - n = 0 := by omega
        rw [e0, Tm.nf_zero hrs] at hnf
        walk_at "go"
        exact qo _ hnf _ e1
      · have e0 : k - n = (k - (n + 1)) + 1 := by omega
        rw [e0] at hnf
        walk_at "go"
        refine ⟨x, u, p, i, b, c, rfl, hx, hred, hul, fun hf H2 x2 e2 hx2 => ?_, fun hf H2 e2 => ?_⟩
        · rw [Tm.nf_step hrs hf, preW_app] at hnf
          have hl2 := fits_len hf
          walk_at "go"
          refine spNextF0 hx2 (by omega) (by omega) (fun j hj => by rw [Tm.step_low hred hj]; exact hno j (by omega)) fun v2 hv2 => ?_
          walk_at "go"
          exact ⟨x2, u.step p, n + 1, road ++ [p], v2, by simp, e1.trans e2, hx2, by omega, hf, by simp [hn], by omega, hnf, rfl, hv2⟩
        · rw [Tm.nf_large hrs hf] at hnf
          exact ql _ hnf _ (e1.trans e2)
    · rw [Tm.nf_none (Tm.no_reds hno)] at hnf
      have hnf2 : Tm.nf k t = (road, .done u) := by rw [hnf]; simp [preW]
      walk_at "go"
      refine ⟨x, u.enc, rfl, hx, u.flat, fun _ => ?_, fun z => by rw [huf] at z; cases z⟩
      walk_at "go"
      intro pt hpt
      walk_at "go"
      rw [hn]
      exact qd road u hnf2 _ pt x (e1.trans (Ex.new hpt)) (SqT.of upd_same) (ex_t (Ex.new hpt) hx)
theorem ok_normal {f : Addr} {fd : FuncData} (F : Fun K "normal" "normal" s_normal f fd) (T : Txt w K mg tk cl)
    (D1 : Def P w K mg base (L2.CX P w) 6 "repeated" ["term", "steps", "next_at", "step_at"] (spRepN K mg (cl 1) (cl 4)))
    (D2 : Def P w K mg base (L2.CX P w) 4 "stepped" ["term", "at"] (spStepped K (cl 1))) (D3 : Def P w K mg base CX0 3 "next_redex" ["term", "at"] (spNextF K)) : FnOk P w K mg base (L2.CX P w) 7 f fd ["term", "steps"] (spNormal K (cl 1) (cl 4)) := by
  obtain ⟨f1, fd1, g_repeated, kp_repeated, b_repeated, G_repeated⟩ := D1
  obtain ⟨f2, fd2, g_stepped, kp_stepped, b_stepped, G_stepped⟩ := D2
  obtain ⟨f3, fd3, g_next_redex, kp_next_redex, b_next_redex, G_next_redex⟩ := D3
  refine F.okX sc_normal (fun vs H Q E h => ?_) (fun cdv A outer s H vs Q E hr h => ?_)
  · obtain ⟨a, t, k, rfl, _⟩ := h
    rfl
  · obtain ⟨a, t, k, rfl, hS, hlen, hfit, hk, qd, qo, ql⟩ := h
    refine ⟨_, (pss_one (ps_ret (pe_call G_repeated (hr.mono (by first | decide | omega)) (by rfl) g_repeated kp_repeated b_repeated .nil (passes_call (takes_of rfl rfl rfl rfl) (fun _ _ _ _ h => h)) (pa_cons (pv 0) (pa_cons (pv 1) (pa_cons (pe_glob (v := .ref _) (by rfl) g_next_redex (by rfl)) (pa_cons (pe_glob (v := .ref _) (by rfl) g_stepped (by rfl)) pa_nil))))))), ?_⟩
    refine sl_of (σ2 := [some _, some _]) rfl ?_
    walk_at "st"
    walk_at "go"
    exact ⟨a, t, k, f3, f2, rfl, g_next_redex, g_stepped, hS, hlen, hfit, hk, qd, qo, ql⟩
def spFirsts (K : PySem.W.Frag) (C1 : Addr) : Sp := fun vs H Q E => ∃ (a : Addr) (t : Tm) (k : Nat), vs = [.ref a, .int (k : Int)] ∧ SqT K H a t.enc ∧ t.enc.length ≤ 3000 ∧ fitsV t.enc = true ∧ k ≤ 2000000 ∧
  (∀ road w, Tm.nf k t = (road, w) → (w = .large → False) → ∀ H' p, Ex H H' → H p = none → H' p = some (.lst (plcs road)) → Q (.ref p) H') ∧ (∀ road, Tm.nf k t = (road, .large) → ∀ H', Ex H H' → E (.ref C1) none H')

end
end Ly
set_option Elab.async false
set_option linter.all false
set_option maxRecDepth 100000
set_option maxHeartbeats 8000000
namespace Ly
open PySem PySem.Spec PyProof.Rows L2 Evl
local macro_rules | `(tactic| walk_at "ne") => `(tactic| first
  | assumption
  | ((refine' Ne.symm ?hq); (case hq => assumption))
  | ((refine' ne_of_none ?nh1 ?nh2); (case nh2 => assumption); (case nh1 => walk_at "hp"))
  | ((refine' Ne.symm (ne_of_none ?nh1 ?nh2)); (case nh2 => assumption); (case nh1 => walk_at "hp")))
local macro_rules | `(tactic| walk_at "hp") => `(tactic| first
  | assumption
  | exact upd_same
  | ((refine' SqL.of ?hq); (case hq => walk_at "hp"))
  | ((refine' SqT.of ?hq); (case hq => walk_at "hp"))
  | ((refine' (upd_ne ?hne).trans ?hrest); (case hne => walk_at "ne"); (case hrest => walk_at "hp"))
  | ((refine' ly_at ?hex ?hh); (case hex => assumption); (case hh => walk_at "hp"))
  | ((refine' ly_atF ?hex ?hnn ?hh); (case hex => assumption); (case hh => walk_at "hp"); (case hnn => walk_at "ne"))
  | ((refine' ex_t ?hex ?hh); (case hh => assumption); (case hex => walk_at "ex"))
  | ((refine' ex_l ?hex ?hh); (case hh => assumption); (case hex => walk_at "ex")))
local macro_rules | `(tactic| walk_at "ex") => `(tactic| first
  | assumption
  | exact Ex.refl _
  | ((refine' ex_new ?xa ?xb); (case xb => assumption); (case xa => walk_at "ex"))
  | ((refine' ex_upd ?xa ?xb); (case xb => walk_at "free"); (case xa => walk_at "ex"))
  | ((refine' Ex.trans ?xa ?xb); (case xb => assumption); (case xa => walk_at "ex")))
local macro_rules | `(tactic| walk_at "free") => `(tactic| first
  | assumption
  | ((refine' fresh_back ?xa ?xb); (case xb => assumption); (case xa => walk_at "ex")))
local macro_rules | `(tactic| walk_at "fr") => `(tactic| first
  | assumption
  | exact Fr.refl _ _
  | ((refine' Fr.own ?hq); (case hq => walk_at "fr"))
  | ((refine' Fr.new ?xa ?xb); (case xb => assumption); (case xa => walk_at "fr"))
  | ((refine' Fr.mut ?xa ?xb); (case xb => assumption); (case xa => walk_at "fr"))
  | ((refine' Fr.trans ?xa ?xb); (case xb => assumption); (case xa => walk_at "fr"))
  | ((refine' Fr.trans ?xa (Fr.ex ?xb)); (case xb => assumption); (case xa => walk_at "fr")))
local macro_rules | `(tactic| walk_at "go1") => `(tactic| first
  | (with_reducible refine' w_seq ?_)
  | (with_reducible refine' w_asg ?_)
  | (with_reducible refine' w_ret ?_)
  | (with_reducible refine' w_drop ?_)
  | (with_reducible refine' w_if ?_)
  | (with_reducible refine' w_next ?_)
  | (with_reducible refine' w_name ?_)
  | (with_reducible refine' w_sub ?_)
  | ((with_reducible refine' w_var ?hv ?_); (case hv => exact rfl))
  | (with_reducible refine' w_c ?_)
  | (with_reducible refine' w_op ?_)
  | (with_reducible refine' w_un ?_)
  | (with_reducible refine' w_ch ?_)
  | (with_reducible refine' w_I0 ?_)
  | ((with_reducible refine' w_I ?hc ?_); (case hc => first | (exact ly_mulL (by decide) (by decide)) | (exact ly_mulR (by decide) (by decide)) | (exact ly_mulL (by omega) (by omega)) | (show (_ : Int) ≠ 0; decide) | (show (_ : Int) ≠ 0; omega) | (exact ⟨by decide, by decide⟩) | (exact ⟨by omega, by omega⟩)))
  | (with_reducible refine' w_U ?_)
  | ((with_reducible refine' w_eq ?hs ?_); (case hs => exact rfl))
  | ((with_reducible refine' w_ne ?hs ?_); (case hs => exact rfl))
  | (with_reducible refine' w_isB ?_)
  | (with_reducible refine' w_notB ?_)
  | (with_reducible refine' w_nil ?_)
  | (with_reducible refine' w_cons ?_)
  | (with_reducible refine' w_tup ?_)
  | (with_reducible refine' w_lst ?_)
  | (with_reducible refine' w_cb ?_)
  | (with_reducible refine' w_call ?_)
  | (with_reducible refine' w_bm ?_)
  | (with_reducible refine' w_bm0 ?_)
  | ((with_reducible refine' w_app ?hh ?hz ?_); (case hh => walk_at "hp"); (case hz => first | exact ly_lt (by omega) | exact ly_lt (by simp only [List.length_append, List.length_map, List.length_cons, List.length_nil]; omega)))
  | ((with_reducible refine' w_popA ?hh ?_); (case hh => walk_at "hp"))
  | ((with_reducible refine' w_ext ?hh ?hh2 ?hz ?_); (case hh => walk_at "hp"); (case hh2 => walk_at "hp"))
  | ((with_reducible refine' w_ixL ?hh ?ha ?_); (case hh => walk_at "hp"); (case ha => first | exact rfl | exact at_map (by omega) | exact atI_last _ _ | ((refine' at_of ?ae ?ah); (case ah => assumption); (case ae => omega))))
  | ((with_reducible refine' w_ixT ?hh ?ha ?_); (case hh => walk_at "hp"); (case ha => first | exact rfl | exact at_map (by omega) | exact atI_last _ _ | ((refine' at_of ?ae ?ah); (case ah => assumption); (case ae => omega))))
  | ((with_reducible refine' w_cat ?hh ?hh2 ?hz ?_); (case hh => walk_at "hp"); (case hh2 => walk_at "hp"))
  | ((with_reducible refine' w_setL ?hh ?ha ?_); (case hh => walk_at "hp"); (case ha => exact rfl))
  | (with_reducible refine' w_test ?_)
  | (with_reducible refine' w_tB ?_)
  | (with_reducible refine' w_bl ?_)
  | (with_reducible refine' w_and ?_)
  | (with_reducible refine' w_or ?_)
  | (with_reducible refine' w_not ?_)
  | (with_reducible refine' w_andV ?_)
  | (with_reducible refine' w_orV ?_)
  | (with_reducible refine' w_notV ?_)
  | (with_reducible refine' w_ifE ?_)
  | (with_reducible refine' w_for ?_)
  | ((with_reducible refine' w_nin ?hh ?_); (case hh => walk_at "hp"))
  | ((with_reducible refine' w_sorted ?hh ?_); (case hh => walk_at "hp"))
  | (with_reducible refine' w_tsadd ?_)
  | ((with_reducible refine' w_tsadd1 ?hh ?_); (case hh => walk_at "hp"))
  | ((with_reducible refine' w_sadd ?hh ?hr ?_); (case hh => walk_at "hp"); (case hr => omega))
  | (with_reducible refine' w_iZ ?_)
  | ((with_reducible refine' w_iZ1 ?hh ?hh2 ?_); (case hh => walk_at "hp"); (case hh2 => walk_at "hp"))
  | (with_reducible refine' w_iS ?_)
  | (with_reducible refine' w_iS1 ?_)
  | ((with_reducible refine' w_gtup ?hh ?hn ?_); (case hh => walk_at "hp"); (case hn => exact rfl))
  | (with_reducible refine' w_gcons ?_)
  | (with_reducible refine' w_gnil ?_)
  | (with_reducible refine' w_js ?_)
  | (with_reducible refine' w_jsn ?_)
  | ((with_reducible refine' w_js1 ?hl ?_); (case hl => decide +kernel))
  | (with_reducible refine' w_fmt ?_)
  | ((with_reducible refine' w_fmt1 ?hl ?_); (case hl => decide +kernel))
  | (with_reducible refine' w_callS ?_)
  | ((with_reducible refine' w_truL ?hh ?_); (case hh => walk_at "hp"))
  | (with_reducible refine' w_lc ?_)
  | (with_reducible refine' w_yes ?_)
  | ((with_reducible refine' w_wipe ?he ?_); (case he => exact rfl))
  | (with_reducible refine' w_iL ?_)
  | (with_reducible refine' w_iT ?_)
  | (with_reducible refine' w_iR ?_)
  | ((with_reducible refine' w_iL1 ?hh ?_); (case hh => walk_at "hp"))
  | ((with_reducible refine' w_iT1 ?hh ?_); (case hh => walk_at "hp"))
  | ((with_reducible refine' w_iR1 ?h1 ?h2 ?_); (case h1 => omega); (case h2 => omega))
  | ((with_reducible refine' w_aug ?hv ?_); (case hv => exact rfl))
  | (with_reducible refine' w_ipI ?_)
  | ((with_reducible refine' w_isi ?hy ?hk ?_); (case hy => walk_at "ty"); (case hk => walk_at "kit"))
  | ((with_reducible refine' w_int ?_))
  | ((with_reducible refine' w_intB ?_))
  | ((with_reducible refine' w_abs ?_))
  | ((with_reducible refine' w_lenL ?hh ?_); (case hh => walk_at "hp"))
  | ((with_reducible refine' w_lenT ?hh ?_); (case hh => walk_at "hp"))
  | ((with_reducible refine' w_tupL ?hh ?_); (case hh => walk_at "hp"))
  | ((with_reducible refine' w_tupT ?hh ?_); (case hh => walk_at "hp"))
  | ((with_reducible refine' w_catA ?hh ?hh2 ?hz ?_); (case hh => walk_at "hp"); (case hh2 => walk_at "hp"); (case hz => walk_at "len"))
  | ((with_reducible refine' w_repB ?hh ?hne ?h2 ?h3 ?hz ?_); (case hh => walk_at "hp"); (case hne => simp); (case h2 => omega); (case h3 => omega); (case hz => exact Nat.le_of_ble_eq_true rfl))
  | ((with_reducible refine' w_eqN ?hh ?hh2 ?n1 ?n2 ?_); (case hh => walk_at "hp"); (case hh2 => walk_at "hp"); (case n1 => walk_at "nd"); (case n2 => walk_at "nd"))
  | ((with_reducible refine' w_neN ?hh ?hh2 ?n1 ?n2 ?_); (case hh => walk_at "hp"); (case hh2 => walk_at "hp"); (case n1 => walk_at "nd"); (case n2 => walk_at "nd"))
  | ((with_reducible refine' w_eqL ?hh ?hh2 ?n1 ?n2 ?_); (case hh => walk_at "hp"); (case hh2 => walk_at "hp"); (case n1 => walk_at "nd"); (case n2 => walk_at "nd"))
  | ((with_reducible refine' w_neL ?hh ?hh2 ?n1 ?n2 ?_); (case hh => walk_at "hp"); (case hh2 => walk_at "hp"); (case n1 => walk_at "nd"); (case n2 => walk_at "nd"))
  | ((with_reducible refine' w_neNon ?hh2 ?n2 ?_); (case hh2 => walk_at "hp"); (case n2 => walk_at "nd"))
  | ((with_reducible refine' w_eqNon ?hh2 ?n2 ?_); (case hh2 => walk_at "hp"); (case n2 => walk_at "nd"))
  | ((with_reducible refine' w_slA ?hh ?_); (case hh => walk_at "hp"))
  | ((with_reducible refine' w_disp ?hz ?_); (case hz => exact sz_of (Nat.le_of_ble_eq_true rfl)))
  | ((with_reducible refine' w_tyL ?hh ?_); (case hh => walk_at "hp"))
  | (with_reducible refine' iteT ?_)
  | (with_reducible refine' iteF ?_)
  | (with_reducible refine' w_nT ?_)
  | (with_reducible refine' w_nn ?_)
  | (with_reducible refine' w_nnT ?_)
  | (with_reducible refine' w_nnR ?_)
  | (with_reducible refine' w_neG ?_)
  | (with_reducible refine' w_eqG ?_)
  | (with_reducible refine' w_neS ?_)
  | (with_reducible refine' w_eqS ?_)
  | (with_reducible refine' w_neSb ?_)
  | (with_reducible refine' w_eqSb ?_)
  | (with_reducible refine' w_deIS ?_)
  | (with_reducible refine' w_deSI ?_)
  | (with_reducible refine' w_deISn ?_)
  | ((with_reducible refine' w_deST ?he ?_); (case he => decide +kernel))
  | ((with_reducible refine' w_deSF ?he ?_); (case he => decide +kernel))
  | ((with_reducible refine' w_deSTn ?he ?_); (case he => decide +kernel))
  | ((with_reducible refine' w_deSFn ?he ?_); (case he => decide +kernel))
  | (with_reducible refine' w_nF ?_)
  | dsimp only [Bool.not_true, Bool.not_false])
local macro_rules | `(tactic| walk_at "ty") => `(tactic| first
  | exact .base (.int _) | exact .base (.str _) | exact .base (.bl _) | exact .base .non
  | ((refine' tyx_t ?hq); (case hq => walk_at "hp")) | ((refine' tyx_l ?hq); (case hq => walk_at "hp")) | ((refine' .base (.tup ?hq)); (case hq => walk_at "hp")) | assumption)
local macro_rules | `(tactic| walk_at "go") => `(tactic| repeat walk_at "go1")
local macro_rules | `(tactic| walk_at "st") => `(tactic| try dsimp only [cxOf, Cx.nox, Cx.wish])
local macro_rules | `(tactic| walk_at "kit") => `(tactic| with_reducible first | exact kit_int_int | exact kit_int_str | exact kit_int_bool | exact kit_int_tuple | exact kit_int_list | exact kit_str_int | exact kit_str_str | exact kit_str_bool | exact kit_str_tuple | exact kit_str_list | exact kit_bool_int | exact kit_bool_str | exact kit_bool_bool | exact kit_bool_tuple | exact kit_bool_list | exact kit_NoneType_int | exact kit_NoneType_str | exact kit_NoneType_bool | exact kit_NoneType_tuple | exact kit_NoneType_list | exact kit_list_int | exact kit_list_str | exact kit_list_bool | exact kit_list_tuple | exact kit_list_list | exact kit_tuple_int | exact kit_tuple_str | exact kit_tuple_bool | exact kit_tuple_tuple | exact kit_tuple_list)
local macro_rules | `(tactic| walk_at "nd") => `(tactic| first
  | assumption
  | exact Tm.nds _
  | exact Nds.nil
  | exact Nds.ofInts _
  | ((refine' Nds.cons ?na ?nb); (case na => first | exact Nds.I _ | exact Nds.L | exact Nds.A); (case nb => walk_at "nd"))
  | ((refine' Nds.app ?na ?nb); (case na => walk_at "nd"); (case nb => walk_at "nd"))
  | ((refine' Nds.rep ?na _); (case na => walk_at "nd")))
local macro_rules | `(tactic| walk_at "len") => `(tactic| first
  | exact ly_sz (by omega)
  | ((simp only [List.length_append, List.length_cons, List.length_nil, List.length_map, PyProof.Rows.lm_len_rep_flat]); exact ly_sz (by omega)))
local macro_rules | `(tactic| walk_at "go1") => `(tactic| first
  | (with_reducible refine' w_kget2 ?_)
  | (with_reducible refine' w_isRN ?_)
  | (with_reducible refine' w_isNN ?_)
  | (with_reducible refine' w_isIN ?_)
  | ((with_reducible refine' w_kg ?hd ?_); (case hd => assumption)))
section
variable {P : Program} {w : World} {K : PySem.W.Frag} {mg : Str → Option Value} {base : Heap} {tk : Nat → Tok} {cl : Nat → Addr}
def spCountC : Sp := fun vs H Q _ => ∃ v, vs = [v] ∧ ((v ≠ .str "app" ∧ NodeC v ∧ Q (.int 0) H) ∨ (v = .str "app" ∧ Q (.int 2) H))
theorem ok_part_countC {f : Addr} {fd : FuncData} {k : Nat} (F : Fun K "part_count" "part_count" s_part_count f fd) (T : Txt w K mg tk cl) : FnOk P w K mg base CX0 (k + 1) f fd ["node"] spCountC := by
  refine F.ok sc_part_count (fun vs H Q E h => ?_) (fun cdv A outer s H vs Q E hr h => ?_)
  · obtain ⟨v, rfl, _⟩ := h
    rfl
  · obtain ⟨v, rfl, h⟩ := h
    refine ⟨_, (pss_one (ps_ret (pe_kget2 (pe_glob (v := .ref (cl 40)) (by rfl) T.g_PART_COUNTS (by rfl)) (pv 0) pe_int ⟨by rfl, by rfl, by rfl, by rfl⟩))), ?_⟩
    refine sl_of (σ2 := [some _]) rfl ?_
    walk_at "st"
    have hd := T.d_PART_COUNTS
    rcases h with ⟨hne, hn, q⟩ | ⟨rfl, q⟩
    · rcases hn with ⟨n, rfl⟩ | rfl | rfl | rfl | rfl
      · walk_at "go"
        exact ⟨kV_int _, q⟩
      · walk_at "go"
        exact ⟨kV_str _, q_eq q (by decide +kernel)⟩
      · walk_at "go"
        exact ⟨kV_str _, q_eq q (by decide +kernel)⟩
      · walk_at "go"
        exact ⟨kV_str _, q_eq q (by decide +kernel)⟩
      · exact absurd rfl hne
    · walk_at "go"
      exact ⟨kV_str _, q_eq q (by decide +kernel)⟩
def spCEnd (K : PySem.W.Frag) : Sp := fun vs H Q _ => ∃ (a : Addr) (xs : List V) (s : Nat) (u : Cb) (post : List V), vs = [.ref a, .int (s : Int)] ∧ SqT K H a xs ∧ xs.drop s = u.enc ++ post ∧ xs.length ≤ 2000000 ∧ Q (.int ((s + u.enc.length : Nat) : Int)) H
theorem ok_end_ofC {f : Addr} {fd : FuncData} (F : Fun K "end_of" "end_of" s_end_of f fd) (T : Txt w K mg tk cl)
    (D1 : Def P w K mg base CX0 1 "part_count" ["node"] spCountC) : FnOk P w K mg base CX0 2 f fd ["term", "start"] (spCEnd K) := by
  obtain ⟨f1, fd1, g_part_count, kp_part_count, b_part_count, G_part_count⟩ := D1
  refine F.ok sc_end_of (fun vs H Q E h => ?_) (fun cdv A outer s H vs Q E hr h => ?_)
  · obtain ⟨a, xs, s, u, post, rfl, _⟩ := h
    rfl
  · obtain ⟨a, xs, s, u, post, rfl, hS, hu, hlen, q⟩ := h
    refine ⟨_, (pss_cons (ps_set (i := 2) sc_end_of.nd rfl (.inl rfl) pe_int) (pss_cons (ps_set (i := 3) sc_end_of.nd rfl (.inl rfl) (pv 1)) (pss_cons (ps_while PassesOwn.never (pt_cmpR op_gt (pv 2) pe_int (nomark _)) (pss_cons (ps_aug (i := 2) sc_end_of.nd rfl (.inl rfl) (pe_op op_sub (pe_call G_part_count (hr.mono (by first | decide | omega)) (by rfl) g_part_count kp_part_count b_part_count .nil pass0 (pa_cons (pe_ix ix_tup (pv 0) (pv 3) (fun _ _ => rfl)) pa_nil)) pe_int) ip_add) (pss_one (ps_aug (i := 3) sc_end_of.nd rfl (.inl rfl) pe_int ip_add)))) (pss_one (ps_ret (pv 3)))))), ?_⟩
    refine sl_of (σ2 := [some _, some _, none, none]) rfl ?_
    walk_at "st"
    walk_at "go"
    refine w_while (fun m σ H' => H' = H ∧ ∃ (e : Nat) (ts : List Cb), σ = [some (.ref a), some (.int (s : Int)), some (.int (ts.length : Int)), some (.int (e : Int))] ∧ CEInv xs (s + u.enc.length) e ts ∧ m = s + u.enc.length - e) _ ⟨rfl, s, [u], rfl, ⟨post, by simpa [cencs] using hu, by simp [cencs]⟩, rfl⟩ ?_
    rintro m σ H ⟨rfl, e, ts, rfl, inv, rfl⟩
    walk_at "go"
    cases ts with
    | nil =>
      obtain ⟨post2, h1, h2⟩ := inv
      have h2 : e = s + u.enc.length := by simpa [cencs] using h2
      walk_at "go"
      refine w_br (fun h => by simp at h) (fun _ => ?_)
      walk_at "go"
      rw [h2]
      exact q
    | cons t ts =>
      obtain ⟨lt, v, ts', hv, inv', hcase⟩ := inv.step
      refine w_br (fun h => ?_) (fun h => absurd h (by simp))
      refine ⟨fun σ' H' => H' = H ∧ ∃ (e' : Nat) (ts2 : List Cb), σ' = [some (.ref a), some (.int (s : Int)), some (.int (ts2.length : Int)), some (.int (e' : Int))] ∧ CEInv xs (s + u.enc.length) e' ts2 ∧ e' = e + 1, fun σ' H' ⟨h1, e', ts2, h2, h3, h4⟩ => ⟨s + u.enc.length - e', ?_, h1, e', ts2, h2, h3, rfl⟩, ?_⟩
      · omega
      · have hel : e < xs.length := (List.getElem?_eq_some_iff.mp hv).1
        walk_at "go"
        refine ⟨v, rfl, ?_⟩
        have stp : ∀ {j : Int}, (t :: ts).length + (j - 1) = (ts'.length : Int) → H = H ∧ ∃ (e' : Nat) (ts2 : List Cb), [some (V.ref a), some (.int (s : Int)), some (.int (((t :: ts).length : Int) + (j - 1))), some (.int ((e : Int) + 1))] = [some (.ref a), some (.int (s : Int)), some (.int (ts2.length : Int)), some (.int (e' : Int))] ∧ CEInv xs (s + u.enc.length) e' ts2 ∧ e' = e + 1 := fun hj =>
          ⟨rfl, e + 1, ts', by rw [hj]; rfl, inv', rfl⟩
        rcases hcase with ⟨rfl, hl⟩ | ⟨hne, hnc, hl⟩
        · refine .inr ⟨rfl, ?_⟩
          walk_at "go"
          exact stp (by omega)
        · refine .inl ⟨hne, hnc, ?_⟩
          walk_at "go"
          exact stp (by omega)
end
end Ly
set_option Elab.async false
set_option linter.all false
set_option maxRecDepth 100000
set_option maxHeartbeats 8000000
namespace Ly
open PySem PySem.Spec PyProof.Rows L2 Evl
local macro_rules | `(tactic| walk_at "ne") => `(tactic| first
  | assumption
  | ((refine' Ne.symm ?hq); (case hq => assumption))
  | ((refine' ne_of_none ?nh1 ?nh2); (case nh2 => assumption); (case nh1 => walk_at "hp"))
  | ((refine' Ne.symm (ne_of_none ?nh1 ?nh2)); (case nh2 => assumption); (case nh1 => walk_at "hp")))
local macro_rules | `(tactic| walk_at "hp") => `(tactic| first
  | assumption
  | exact upd_same
  | ((refine' SqL.of ?hq); (case hq => walk_at "hp"))
  | ((refine' SqT.of ?hq); (case hq => walk_at "hp"))
  | ((refine' (upd_ne ?hne).trans ?hrest); (case hne => walk_at "ne"); (case hrest => walk_at "hp"))
  | ((refine' ly_at ?hex ?hh); (case hex => assumption); (case hh => walk_at "hp"))
  | ((refine' ly_atF ?hex ?hnn ?hh); (case hex => assumption); (case hh => walk_at "hp"); (case hnn => walk_at "ne"))
  | ((refine' ex_t ?hex ?hh); (case hh => assumption); (case hex => walk_at "ex"))
  | ((refine' ex_l ?hex ?hh); (case hh => assumption); (case hex => walk_at "ex")))
local macro_rules | `(tactic| walk_at "ex") => `(tactic| first
  | assumption
  | exact Ex.refl _
  | ((refine' ex_new ?xa ?xb); (case xb => assumption); (case xa => walk_at "ex"))
  | ((refine' ex_upd ?xa ?xb); (case xb => walk_at "free"); (case xa => walk_at "ex"))
  | ((refine' Ex.trans ?xa ?xb); (case xb => assumption); (case xa => walk_at "ex")))
local macro_rules | `(tactic| walk_at "free") => `(tactic| first
  | assumption
  | ((refine' fresh_back ?xa ?xb); (case xb => assumption); (case xa => walk_at "ex")))
local macro_rules | `(tactic| walk_at "fr") => `(tactic| first
  | assumption
  | exact Fr.refl _ _
  | ((refine' Fr.own ?hq); (case hq => walk_at "fr"))
  | ((refine' Fr.new ?xa ?xb); (case xb => assumption); (case xa => walk_at "fr"))
  | ((refine' Fr.mut ?xa ?xb); (case xb => assumption); (case xa => walk_at "fr"))
  | ((refine' Fr.trans ?xa ?xb); (case xb => assumption); (case xa => walk_at "fr"))
  | ((refine' Fr.trans ?xa (Fr.ex ?xb)); (case xb => assumption); (case xa => walk_at "fr")))
local macro_rules | `(tactic| walk_at "go1") => `(tactic| first
  | (with_reducible refine' w_seq ?_)
  | (with_reducible refine' w_asg ?_)
  | (with_reducible refine' w_ret ?_)
  | (with_reducible refine' w_drop ?_)
  | (with_reducible refine' w_if ?_)
  | (with_reducible refine' w_next ?_)
  | (with_reducible refine' w_name ?_)
  | (with_reducible refine' w_sub ?_)
  | ((with_reducible refine' w_var ?hv ?_); (case hv => exact rfl))
  | (with_reducible refine' w_c ?_)
  | (with_reducible refine' w_op ?_)
  | (with_reducible refine' w_un ?_)
  | (with_reducible refine' w_ch ?_)
  | (with_reducible refine' w_I0 ?_)
  | ((with_reducible refine' w_I ?hc ?_); (case hc => first | (exact ly_mulL (by decide) (by decide)) | (exact ly_mulR (by decide) (by decide)) | (exact ly_mulL (by omega) (by omega)) | (show (_ : Int) ≠ 0; decide) | (show (_ : Int) ≠ 0; omega) | (exact ⟨by decide, by decide⟩) | (exact ⟨by omega, by omega⟩)))
  | (with_reducible refine' w_U ?_)
  | ((with_reducible refine' w_eq ?hs ?_); (case hs => exact rfl))
  | ((with_reducible refine' w_ne ?hs ?_); (case hs => exact rfl))
  | (with_reducible refine' w_isB ?_)
  | (with_reducible refine' w_notB ?_)
  | (with_reducible refine' w_nil ?_)
  | (with_reducible refine' w_cons ?_)
  | (with_reducible refine' w_tup ?_)
  | (with_reducible refine' w_lst ?_)
  | (with_reducible refine' w_cb ?_)
  | (with_reducible refine' w_call ?_)
  | (with_reducible refine' w_bm ?_)
  | (with_reducible refine' w_bm0 ?_)
  | ((with_reducible refine' w_app ?hh ?hz ?_); (case hh => walk_at "hp"); (case hz => first | exact ly_lt (by omega) | exact ly_lt (by simp only [List.length_append, List.length_map, List.length_cons, List.length_nil]; omega)))
  | ((with_reducible refine' w_popA ?hh ?_); (case hh => walk_at "hp"))
  | ((with_reducible refine' w_ext ?hh ?hh2 ?hz ?_); (case hh => walk_at "hp"); (case hh2 => walk_at "hp"))
  | ((with_reducible refine' w_ixL ?hh ?ha ?_); (case hh => walk_at "hp"); (case ha => first | exact rfl | exact at_map (by omega) | exact atI_last _ _ | ((refine' at_of ?ae ?ah); (case ah => assumption); (case ae => omega))))
  | ((with_reducible refine' w_ixT ?hh ?ha ?_); (case hh => walk_at "hp"); (case ha => first | exact rfl | exact at_map (by omega) | exact atI_last _ _ | ((refine' at_of ?ae ?ah); (case ah => assumption); (case ae => omega))))
  | ((with_reducible refine' w_cat ?hh ?hh2 ?hz ?_); (case hh => walk_at "hp"); (case hh2 => walk_at "hp"))
  | ((with_reducible refine' w_setL ?hh ?ha ?_); (case hh => walk_at "hp"); (case ha => exact rfl))
  | (with_reducible refine' w_test ?_)
  | (with_reducible refine' w_tB ?_)
  | (with_reducible refine' w_bl ?_)
  | (with_reducible refine' w_and ?_)
  | (with_reducible refine' w_or ?_)
  | (with_reducible refine' w_not ?_)
  | (with_reducible refine' w_andV ?_)
  | (with_reducible refine' w_orV ?_)
  | (with_reducible refine' w_notV ?_)
  | (with_reducible refine' w_ifE ?_)
  | (with_reducible refine' w_for ?_)
  | ((with_reducible refine' w_nin ?hh ?_); (case hh => walk_at "hp"))
  | ((with_reducible refine' w_sorted ?hh ?_); (case hh => walk_at "hp"))
  | (with_reducible refine' w_tsadd ?_)
  | ((with_reducible refine' w_tsadd1 ?hh ?_); (case hh => walk_at "hp"))
  | ((with_reducible refine' w_sadd ?hh ?hr ?_); (case hh => walk_at "hp"); (case hr => omega))
  | (with_reducible refine' w_iZ ?_)
  | ((with_reducible refine' w_iZ1 ?hh ?hh2 ?_); (case hh => walk_at "hp"); (case hh2 => walk_at "hp"))
  | (with_reducible refine' w_iS ?_)
  | (with_reducible refine' w_iS1 ?_)
  | ((with_reducible refine' w_gtup ?hh ?hn ?_); (case hh => walk_at "hp"); (case hn => exact rfl))
  | (with_reducible refine' w_gcons ?_)
  | (with_reducible refine' w_gnil ?_)
  | (with_reducible refine' w_js ?_)
  | (with_reducible refine' w_jsn ?_)
  | ((with_reducible refine' w_js1 ?hl ?_); (case hl => decide +kernel))
  | (with_reducible refine' w_fmt ?_)
  | ((with_reducible refine' w_fmt1 ?hl ?_); (case hl => decide +kernel))
  | (with_reducible refine' w_callS ?_)
  | ((with_reducible refine' w_truL ?hh ?_); (case hh => walk_at "hp"))
  | (with_reducible refine' w_lc ?_)
  | (with_reducible refine' w_yes ?_)
  | ((with_reducible refine' w_wipe ?he ?_); (case he => exact rfl))
  | (with_reducible refine' w_iL ?_)
  | (with_reducible refine' w_iT ?_)
  | (with_reducible refine' w_iR ?_)
  | ((with_reducible refine' w_iL1 ?hh ?_); (case hh => walk_at "hp"))
  | ((with_reducible refine' w_iT1 ?hh ?_); (case hh => walk_at "hp"))
  | ((with_reducible refine' w_iR1 ?h1 ?h2 ?_); (case h1 => omega); (case h2 => omega))
  | ((with_reducible refine' w_aug ?hv ?_); (case hv => exact rfl))
  | (with_reducible refine' w_ipI ?_)
  | ((with_reducible refine' w_isi ?hy ?hk ?_); (case hy => walk_at "ty"); (case hk => walk_at "kit"))
  | ((with_reducible refine' w_int ?_))
  | ((with_reducible refine' w_intB ?_))
  | ((with_reducible refine' w_abs ?_))
  | ((with_reducible refine' w_lenL ?hh ?_); (case hh => walk_at "hp"))
  | ((with_reducible refine' w_lenT ?hh ?_); (case hh => walk_at "hp"))
  | ((with_reducible refine' w_tupL ?hh ?_); (case hh => walk_at "hp"))
  | ((with_reducible refine' w_tupT ?hh ?_); (case hh => walk_at "hp"))
  | ((with_reducible refine' w_catA ?hh ?hh2 ?hz ?_); (case hh => walk_at "hp"); (case hh2 => walk_at "hp"); (case hz => walk_at "len"))
  | ((with_reducible refine' w_repB ?hh ?hne ?h2 ?h3 ?hz ?_); (case hh => walk_at "hp"); (case hne => simp); (case h2 => omega); (case h3 => omega); (case hz => exact Nat.le_of_ble_eq_true rfl))
  | ((with_reducible refine' w_eqN ?hh ?hh2 ?n1 ?n2 ?_); (case hh => walk_at "hp"); (case hh2 => walk_at "hp"); (case n1 => walk_at "nd"); (case n2 => walk_at "nd"))
  | ((with_reducible refine' w_neN ?hh ?hh2 ?n1 ?n2 ?_); (case hh => walk_at "hp"); (case hh2 => walk_at "hp"); (case n1 => walk_at "nd"); (case n2 => walk_at "nd"))
  | ((with_reducible refine' w_eqL ?hh ?hh2 ?n1 ?n2 ?_); (case hh => walk_at "hp"); (case hh2 => walk_at "hp"); (case n1 => walk_at "nd"); (case n2 => walk_at "nd"))
  | ((with_reducible refine' w_neL ?hh ?hh2 ?n1 ?n2 ?_); (case hh => walk_at "hp"); (case hh2 => walk_at "hp"); (case n1 => walk_at "nd"); (case n2 => walk_at "nd"))
  | ((with_reducible refine' w_neNon ?hh2 ?n2 ?_); (case hh2 => walk_at "hp"); (case n2 => walk_at "nd"))
  | ((with_reducible refine' w_eqNon ?hh2 ?n2 ?_); (case hh2 => walk_at "hp"); (case n2 => walk_at "nd"))
  | ((with_reducible refine' w_slA ?hh ?_); (case hh => walk_at "hp"))
  | ((with_reducible refine' w_disp ?hz ?_); (case hz => exact sz_of (Nat.le_of_ble_eq_true rfl)))
  | ((with_reducible refine' w_tyL ?hh ?_); (case hh => walk_at "hp"))
  | (with_reducible refine' iteT ?_)
  | (with_reducible refine' iteF ?_)
  | (with_reducible refine' w_nT ?_)
  | (with_reducible refine' w_nn ?_)
  | (with_reducible refine' w_nnT ?_)
  | (with_reducible refine' w_nnR ?_)
  | (with_reducible refine' w_neG ?_)
  | (with_reducible refine' w_eqG ?_)
  | (with_reducible refine' w_neS ?_)
  | (with_reducible refine' w_eqS ?_)
  | (with_reducible refine' w_neSb ?_)
  | (with_reducible refine' w_eqSb ?_)
  | (with_reducible refine' w_deIS ?_)
  | (with_reducible refine' w_deSI ?_)
  | (with_reducible refine' w_deISn ?_)
  | ((with_reducible refine' w_deST ?he ?_); (case he => decide +kernel))
  | ((with_reducible refine' w_deSF ?he ?_); (case he => decide +kernel))
  | ((with_reducible refine' w_deSTn ?he ?_); (case he => decide +kernel))
  | ((with_reducible refine' w_deSFn ?he ?_); (case he => decide +kernel))
  | (with_reducible refine' w_nF ?_)
  | dsimp only [Bool.not_true, Bool.not_false])
local macro_rules | `(tactic| walk_at "ty") => `(tactic| first
  | exact .base (.int _) | exact .base (.str _) | exact .base (.bl _) | exact .base .non
  | ((refine' tyx_t ?hq); (case hq => walk_at "hp")) | ((refine' tyx_l ?hq); (case hq => walk_at "hp")) | ((refine' .base (.tup ?hq)); (case hq => walk_at "hp")) | assumption)
local macro_rules | `(tactic| walk_at "go") => `(tactic| repeat walk_at "go1")
local macro_rules | `(tactic| walk_at "st") => `(tactic| try dsimp only [cxOf, Cx.nox, Cx.wish])
local macro_rules | `(tactic| walk_at "kit") => `(tactic| with_reducible first | exact kit_int_int | exact kit_int_str | exact kit_int_bool | exact kit_int_tuple | exact kit_int_list | exact kit_str_int | exact kit_str_str | exact kit_str_bool | exact kit_str_tuple | exact kit_str_list | exact kit_bool_int | exact kit_bool_str | exact kit_bool_bool | exact kit_bool_tuple | exact kit_bool_list | exact kit_NoneType_int | exact kit_NoneType_str | exact kit_NoneType_bool | exact kit_NoneType_tuple | exact kit_NoneType_list | exact kit_list_int | exact kit_list_str | exact kit_list_bool | exact kit_list_tuple | exact kit_list_list | exact kit_tuple_int | exact kit_tuple_str | exact kit_tuple_bool | exact kit_tuple_tuple | exact kit_tuple_list)
local macro_rules | `(tactic| walk_at "nd") => `(tactic| first
  | assumption
  | exact Tm.nds _
  | exact Nds.nil
  | exact Nds.ofInts _
  | ((refine' Nds.cons ?na ?nb); (case na => first | exact Nds.I _ | exact Nds.L | exact Nds.A); (case nb => walk_at "nd"))
  | ((refine' Nds.app ?na ?nb); (case na => walk_at "nd"); (case nb => walk_at "nd"))
  | ((refine' Nds.rep ?na _); (case na => walk_at "nd")))
local macro_rules | `(tactic| walk_at "len") => `(tactic| first
  | exact ly_sz (by omega)
  | ((simp only [List.length_append, List.length_cons, List.length_nil, List.length_map, PyProof.Rows.lm_len_rep_flat]); exact ly_sz (by omega)))
local macro_rules | `(tactic| walk_at "go1") => `(tactic| first
  | (with_reducible refine' w_kget2 ?_)
  | (with_reducible refine' w_isRN ?_)
  | (with_reducible refine' w_isNN ?_)
  | (with_reducible refine' w_isIN ?_)
  | ((with_reducible refine' w_kg ?hd ?_); (case hd => assumption)))
local macro_rules | `(tactic| walk_at "go1") => `(tactic| first
  | ((with_reducible refine' w_extT ?hh ?hh2 ?hz ?_); (case hh => walk_at "hp"); (case hh2 => walk_at "hp"))
  | ((with_reducible refine' w_I ?hc ?_); (case hc => exact ⟨by decide, by decide, by decide⟩))
  | (with_reducible refine' w_sl ?_)
  | (with_reducible refine' w_noP ?_)
  | (with_reducible refine' w_part ?_)
  | (with_reducible refine' w_part1 ?_)
  | (with_reducible refine' w_it ?_)
  | (with_reducible refine' w_it1 ?_)
  | ((with_reducible refine' w_lenZ ?hz ?_); (case hz => omega))
  | ((with_reducible refine' w_addZb ?hz ?_); (case hz => omega))
  | ((with_reducible refine' w_addZf ?hz ?_); (case hz => omega))
  | ((with_reducible refine' w_addZa ?hz ?_); (case hz => omega))
  | ((with_reducible refine' w_inS ?hh ?_); (case hh => walk_at "hp"))
  | ((with_reducible refine' w_ixT ?hh ?ha ?_); (case hh => assumption); (case ha => exact atI_nat (by assumption))))
section
variable {P : Program} {w : World} {K : PySem.W.Frag} {mg : Str → Option Value} {base : Heap} {tk : Nat → Tok} {cl : Nat → Addr}
/-! ### term_of, value_put -/
def spDecr (K : PySem.W.Frag) : Sp := fun vs H Q _ => ∃ (a : Addr) (xs : List V), vs = [.ref a] ∧ SqT K H a xs ∧ Flat xs ∧ xs.length ≤ 1000000 ∧ ∀ H' p, Ex H H' → H p = none → H' p = some (.lst (xs.map dcN)) → Q (.ref p) H'
theorem ok_decreased {f : Addr} {fd : FuncData} {k : Nat} (F : Fun K "decreased" "decreased" s_decreased f fd) (T : Txt w K mg tk cl) : FnOk P w K mg base CX0 (k + 1) f fd ["combination"] (spDecr K) := by
  refine F.ok sc_decreased (fun vs H Q E h => ?_) (fun cdv A outer s H vs Q E hr h => ?_)
  · obtain ⟨a, xs, rfl, _⟩ := h
    rfl
  · obtain ⟨a, xs, rfl, hS, hf, hz, q⟩ := h
    refine ⟨_, (pss_one (ps_ret (pe_lc (own := [("node", 1)]) (g := gName 1) (tt := tYes) rfl sc_decreased.nd (pi_tup (pv 0)) (blkOk_by (N := N_decreased) (sc := defScope s_decreased) (by decide +kernel)) (fun _ _ _ _ _ => pg_name (i := 1) sc_decreased.nd rfl (Or.inl rfl)) (fun _ _ _ _ _ => pts_nil) (fun _ _ _ _ _ => (pe_ifExp (pt_val (pe_callB (id := "isinstance") (r := rIsi K) call_isi (by rfl) T.n_isinstance (by decide +kernel) (pa_cons (pv 1) (pa_cons (pe_bltn (v := .ty "int") (by rfl) T.n_int (by decide +kernel) rfl) pa_nil)))) (pe_op op_sub (pv 1) pe_int) (pv 1)))))), ?_⟩
    refine sl_of (σ2 := [some _, none]) rfl ?_
    walk_at "st"
    walk_at "go"
    intro dl hdl
    refine lc_tup (K := K) (a := a) (xs := xs) (fun i H' => Ex H H' ∧ H' dl = some (.lst ((xs.take i).map dcN))) ⟨Ex.new hdl, upd_same⟩ (fun i H' _ e => ex_t e.1 hS) ?_ ?_
    · rintro i x H2 hi ⟨e2, hd2⟩
      have tk1 : (xs.take (i + 1)).map dcN = (xs.take i).map dcN ++ [dcN x] := by
        rw [List.take_add_one, hi]
        simp
      have ll : ((xs.take i).map dcN).length ≤ 1000000 := by
        simp only [List.length_map, List.length_take]
        omega
      walk_at "go"
      rcases hf x (List.mem_of_getElem? hi) with ⟨j, rfl⟩ | ⟨z, rfl⟩
      · walk_at "go"
        refine ⟨_, hd2, ly_lt (by omega), by walk_at "ex", ?_⟩
        rw [upd_same, tk1]
        rfl
      · walk_at "go"
        refine ⟨_, hd2, ly_lt (by omega), by walk_at "ex", ?_⟩
        rw [upd_same, tk1]
        rfl
    · rintro H2 ⟨e2, hd2⟩
      walk_at "go"
      rw [List.take_length] at hd2
      exact q H2 dl e2 hdl hd2
def spTmOf (K : PySem.W.Frag) (C : Addr) : Sp := fun vs H Q E => ∃ (a : Addr) (xs : List V), vs = [.ref a] ∧ SqT K H a xs ∧ (∀ x ∈ xs, NodeC x) ∧ xs.length ≤ 3000 ∧
  (fitsV ((xs.map tmN).flatten) = true → ∀ H' p, Ex H H' → SqT K H' p ((xs.map tmN).flatten) → Q (.ref p) H') ∧ (fitsV ((xs.map tmN).flatten) = false → ∀ H', Ex H H' → E (.ref C) none H')
theorem tmN_flat1 {x : V} (h : NodeC x) : Flat (tmN x) := by
  rcases h with ⟨n, rfl⟩ | rfl | rfl | rfl | rfl
  · rw [tmN_int]
    exact Flat.one _ (.inl ⟨_, rfl⟩)
  · rw [tmN_S]
    repeat (first | exact Flat.nil | refine Flat.cons (.inr ⟨_, rfl⟩) ?_ | refine Flat.cons (.inl ⟨_, rfl⟩) ?_)
  · rw [tmN_K]
    repeat (first | exact Flat.nil | refine Flat.cons (.inr ⟨_, rfl⟩) ?_ | refine Flat.cons (.inl ⟨_, rfl⟩) ?_)
  · rw [tmN_I]
    repeat (first | exact Flat.nil | refine Flat.cons (.inr ⟨_, rfl⟩) ?_ | refine Flat.cons (.inl ⟨_, rfl⟩) ?_)
  · rw [tmN_A]
    exact Flat.one _ (.inr ⟨_, rfl⟩)
theorem tmN_flat {xs : List V} (h : ∀ x ∈ xs, NodeC x) : Flat ((xs.map tmN).flatten) := fun y hy => by
  obtain ⟨l, h1, h2⟩ := List.mem_flatten.mp hy
  obtain ⟨x, hx, rfl⟩ := List.mem_map.mp h1
  exact tmN_flat1 (h x hx) y h2
theorem ok_term_of {f : Addr} {fd : FuncData} (F : Fun K "term_of" "term_of" s_term_of f fd) (T : Txt w K mg tk cl)
    (D1 : Def P w K mg base (L2.CX P w) 2 "checked" ["term"] (spChecked K (cl 1))) : FnOk P w K mg base (L2.CX P w) 3 f fd ["combination"] (spTmOf K (cl 1)) := by
  obtain ⟨f1, fd1, g_checked, kp_checked, b_checked, G_checked⟩ := D1
  refine F.okX sc_term_of (fun vs H Q E h => ?_) (fun cdv A outer s H vs Q E hr h => ?_)
  · obtain ⟨a, xs, rfl, _⟩ := h
    rfl
  · obtain ⟨a, xs, rfl, hS, hn, hz, q, x⟩ := h
    have hd := T.d_TERMS
    have t0 := T.t_TERMS_0
    have t1 := T.t_TERMS_1
    have t2 := T.t_TERMS_2
    refine ⟨_, (pss_cons (ps_set (i := 1) sc_term_of.nd rfl (.inl rfl) (pe_lst pa_nil)) (pss_cons (ps_for (passes_of rfl) rfl (pi_tup (pv 0)) (pg_name (i := 2) sc_term_of.nd rfl (.inl rfl)) (pss_one (ps_expr (pe_bm PySem.F.plainAttrs_list PySem.F.slot_list_extend PySem.F.type_list_extend mt_extT (pv 1) (pa_cons (pe_kget2 (pe_glob (v := .ref (cl 41)) (by rfl) T.g_TERMS (by rfl)) (pv 2) (pe_tup (pa_cons (pv 2) pa_nil)) ⟨by rfl, by rfl, by rfl, by rfl⟩) pa_nil))))) (pss_one (ps_ret (pe_call G_checked (hr.mono (by first | decide | omega)) (by rfl) g_checked kp_checked b_checked .nil (passes_call (takes_of rfl rfl rfl rfl) (fun _ _ _ _ h => h)) (pa_cons (pe_callTy call_tuple_of (by rfl) T.n_tuple (by decide +kernel) (pa_cons (pv 1) pa_nil)) pa_nil)))))), ?_⟩
    refine sl_of (σ2 := [some _, none, none]) rfl ?_
    walk_at "st"
    walk_at "go"
    intro nl hnl
    walk_at "go"
    refine for_tup (K := K) (a := a) (xs := xs) (fun i σ H' => ∃ y, σ = [some (.ref a), some (.ref nl), y] ∧ Ex H H' ∧ H' nl = some (.lst (((xs.take i).map tmN).flatten)))
      ⟨none, rfl, Ex.new hnl, upd_same⟩ (fun i σ H' _ ⟨_, _, e, _⟩ => ex_t e hS) ?_ ?_
    · rintro i v σ H1 hi ⟨y, rfl, e1, hn1⟩
      have hv := hn v (List.mem_of_getElem? hi)
      have tk := fm_take (f := tmN) hi
      have ll := fm_len (f := tmN) (n := 10) (xs := xs.take i) fun x hx => tmN_len (hn x (List.mem_of_mem_take hx))
      have l2 : (xs.take i).length ≤ 3000 := by rw [List.length_take]; omega
      have key : ∀ {H3 : Hp} {p : Addr} {y : Option V}, Ex H H3 → H3 nl = some (.lst (((xs.take i).map tmN).flatten)) → SqT K H3 p (tmN v) → (tmN v).length ≤ 10 → rExtT K (.ref nl) [.ref p] H3 fun _ H4 => ∃ y, [some (V.ref a), some (.ref nl), some v] = [some (V.ref a), some (.ref nl), y] ∧ Ex H H4 ∧ H4 nl = some (.lst (((xs.take (i + 1)).map tmN).flatten)) := fun {H3 p y} e3 hn3 hp3 hl3 =>
        w_extT hn3 hp3 (ly_sz (by omega)) ⟨_, rfl, e3.mut hnl, by rw [upd_same, tk]⟩
      have tl := tmN_len hv
      walk_at "go"
      intro p hp
      refine ⟨hv.key, ?_⟩
      have e2 := e1.trans (Ex.new hp (o := .tup [v]))
      have hn2 := Ex.new hp (o := .tup [v]) _ _ hn1
      have hp2 : SqT K (upd H1 p (.tup [v])) p [v] := SqT.of upd_same
      have d1 : decide (("S" : Str) = "K") = false := by decide +kernel
      have d2 : decide (("S" : Str) = "I") = false := by decide +kernel
      have d3 : decide (("K" : Str) = "I") = false := by decide +kernel
      have d4 : decide (("S" : Str) = "app") = false := by decide +kernel
      have d5 : decide (("K" : Str) = "app") = false := by decide +kernel
      have d6 : decide (("I" : Str) = "app") = false := by decide +kernel
      generalize upd H1 p (.tup [v]) = H2 at *
      rcases hv with ⟨n, rfl⟩ | rfl | rfl | rfl | rfl
      · rw [getS_int]
        exact key (y := y) e2 hn2 (by rw [tmN_int]; exact hp2) tl
      · rw [getS_hit]
        exact key (y := y) e2 hn2 (by rw [tmN_S]; exact t0.sq _) tl
      · rw [getS_miss d1, getS_hit]
        exact key (y := y) e2 hn2 (by rw [tmN_K]; exact t1.sq _) tl
      · rw [getS_miss d2, getS_miss d3, getS_hit]
        exact key (y := y) e2 hn2 (by rw [tmN_I]; exact t2.sq _) tl
      · rw [getS_miss d4, getS_miss d5, getS_miss d6, getS_nil]
        exact key (y := y) e2 hn2 (by rw [tmN_A]; exact hp2) tl
    · rintro σ H1 ⟨y, rfl, e1, hn1⟩
      rw [List.take_length] at hn1
      walk_at "go"
      intro p hp
      walk_at "go"
      refine ⟨p, _, rfl, SqT.of upd_same, tmN_flat hn, fun h => q h _ p (e1.trans (Ex.new hp)) (SqT.of upd_same), fun h => x h _ (e1.trans (Ex.new hp))⟩
def spVPut (K : PySem.W.Frag) (C : Addr) : Sp := fun vs H Q E => ∃ (a b : Addr) (xs ys : List V), vs = [.ref a, .ref b] ∧ SqT K H a xs ∧ SqT K H b ys ∧ (∀ x ∈ xs, NodeC x) ∧ (∀ y ∈ ys, NodeC y) ∧ xs.length ≤ 3000 ∧ 1 ≤ ys.length ∧ ys.length ≤ 3000 ∧
  (fitsV ((xs.map (vpN ys)).flatten) = true → ∀ H' p, Ex H H' → SqT K H' p ((xs.map (vpN ys)).flatten) → Q (.ref p) H') ∧ (fitsV ((xs.map (vpN ys)).flatten) = false → ∀ H', Ex H H' → E (.ref C) none H')
theorem vpN_flat {xs ys : List V} (h : ∀ x ∈ xs, NodeC x) (k : ∀ y ∈ ys, NodeC y) : Flat ((xs.map (vpN ys)).flatten) := fun y hy => by
  obtain ⟨l, h1, h2⟩ := List.mem_flatten.mp hy
  obtain ⟨x, hx, rfl⟩ := List.mem_map.mp h1
  rcases h x hx with ⟨n, rfl⟩ | rfl | rfl | rfl | rfl
  · by_cases c : (n : Int) = 0
    · rw [vpN_z c] at h2
      exact (k y h2).flat1
    · rw [vpN_p c] at h2
      exact .inl ⟨_, List.mem_singleton.mp h2⟩
  all_goals exact .inr ⟨_, List.mem_singleton.mp h2⟩
theorem vpN_len {ys : List V} {x : V} (h : 1 ≤ ys.length) : (vpN ys x).length ≤ ys.length := by
  unfold vpN
  split
  · split
    · exact Nat.le_refl _
    · simpa using h
  · simpa using h
theorem ok_value_put {f : Addr} {fd : FuncData} (F : Fun K "value_put" "value_put" s_value_put f fd) (T : Txt w K mg tk cl)
    (D0 : Def P w K mg base CX0 1 "decreased" ["combination"] (spDecr K)) (D1 : Def P w K mg base (L2.CX P w) 2 "checked" ["term"] (spChecked K (cl 1))) : FnOk P w K mg base (L2.CX P w) 3 f fd ["combination", "value"] (spVPut K (cl 1)) := by
  obtain ⟨f0, fd0, g_decreased, kp_decreased, b_decreased, G_decreased⟩ := D0
  obtain ⟨f1, fd1, g_checked, kp_checked, b_checked, G_checked⟩ := D1
  refine F.okX sc_value_put (fun vs H Q E h => ?_) (fun cdv A outer s H vs Q E hr h => ?_)
  · obtain ⟨a, b, xs, ys, rfl, _⟩ := h
    rfl
  · obtain ⟨a, b, xs, ys, rfl, hS, hY, hn, hm, hz, h1y, hzy, q, x⟩ := h
    refine ⟨_, (pss_cons (ps_set (i := 2) sc_value_put.nd rfl (.inl rfl) (pe_lst pa_nil)) (pss_cons (ps_for (passes_of rfl) rfl (pi_tup (pv 0)) (pg_name (i := 3) sc_value_put.nd rfl (.inl rfl)) (pss_one (ps_if (pt_cmpR op_eq (pv 3) pe_int (nomark _)) (pss_one (ps_expr (pe_bm PySem.F.plainAttrs_list PySem.F.slot_list_extend PySem.F.type_list_extend mt_extT (pv 2) (pa_cons (pv 1) pa_nil)))) (pss_one (ps_expr (pe_bm PySem.F.plainAttrs_list PySem.F.slot_list_extend PySem.F.type_list_extend mt_extend (pv 2) (pa_cons (pe_call G_decreased (hr.mono (by first | decide | omega)) (by rfl) g_decreased kp_decreased b_decreased .nil pass0 (pa_cons (pe_tup (pa_cons (pv 3) pa_nil)) pa_nil)) pa_nil))))))) (pss_one (ps_ret (pe_call G_checked (hr.mono (by first | decide | omega)) (by rfl) g_checked kp_checked b_checked .nil (passes_call (takes_of rfl rfl rfl rfl) (fun _ _ _ _ h => h)) (pa_cons (pe_callTy call_tuple_of (by rfl) T.n_tuple (by decide +kernel) (pa_cons (pv 2) pa_nil)) pa_nil)))))), ?_⟩
    refine sl_of (σ2 := [some _, some _, none, none]) rfl ?_
    walk_at "st"
    walk_at "go"
    intro nl hnl
    walk_at "go"
    have prod : xs.length * ys.length ≤ 3000 * 3000 := Nat.mul_le_mul hz hzy
    refine for_tup (K := K) (a := a) (xs := xs) (fun i σ H' => ∃ y, σ = [some (.ref a), some (.ref b), some (.ref nl), y] ∧ Ex H H' ∧ H' nl = some (.lst (((xs.take i).map (vpN ys)).flatten)))
      ⟨none, rfl, Ex.new hnl, upd_same⟩ (fun i σ H' _ ⟨_, _, e, _⟩ => ex_t e hS) ?_ ?_
    · rintro i v σ H1 hi ⟨y, rfl, e1, hn1⟩
      have hv := hn v (List.mem_of_getElem? hi)
      have hY1 := ex_t e1 hY
      have tk := fm_take (f := vpN ys) hi
      have ll := fm_len (f := vpN ys) (n := ys.length) (xs := xs.take i) fun x hx => vpN_len h1y
      have l2 : (xs.take i).length ≤ 3000 := by rw [List.length_take]; omega
      have l3 : ys.length * (xs.take i).length ≤ 3000 * 3000 := Nat.mul_le_mul hzy l2
      generalize ((xs.take i).map (vpN ys)).flatten = done at *
      rcases hv with ⟨n, rfl⟩ | rfl | rfl | rfl | rfl
      · walk_at "go"
        refine w_brI (fun h3 => ?_) (fun h3 => ?_)
        · walk_at "go"
          · exact ly_sz (by omega)
          walk_at "go"
          refine ⟨_, rfl, e1.mut hnl, ?_⟩
          rw [upd_same, tk, vpN_z h3]
        · walk_at "go"
          intro p hp
          walk_at "go"
          refine ⟨p, _, rfl, SqT.of upd_same, Flat.one _ (.inl ⟨_, rfl⟩), by simp, fun H3 l e3 hl hl3 => ?_⟩
          have hn3 := e3 _ _ (Ex.new hp (o := .tup [V.int (n : Int)]) _ _ hn1)
          have e3' := e1.trans ((Ex.new hp (o := .tup [V.int (n : Int)])).trans e3)
          walk_at "go"
          · exact ly_sz (by simp; omega)
          walk_at "go"
          refine ⟨_, rfl, e3'.mut hnl, ?_⟩
          rw [upd_same, tk, vpN_p h3]
          rfl
      all_goals
        walk_at "go"
        intro p hp
        walk_at "go"
        refine ⟨p, _, rfl, SqT.of upd_same, Flat.one _ (.inr ⟨_, rfl⟩), by simp, fun H3 l e3 hl hl3 => ?_⟩
        have hn3 := e3 _ _ (Ex.new hp (o := .tup [_]) _ _ hn1)
        have e3' := e1.trans ((Ex.new hp (o := .tup [_])).trans e3)
        walk_at "go"
        · exact ly_sz (by simp; omega)
        walk_at "go"
        refine ⟨_, rfl, e3'.mut hnl, ?_⟩
        rw [upd_same, tk]
        rfl
    · rintro σ H1 ⟨y, rfl, e1, hn1⟩
      rw [List.take_length] at hn1
      walk_at "go"
      intro p hp
      walk_at "go"
      refine ⟨p, _, rfl, SqT.of upd_same, vpN_flat hn hm, fun h => q h _ p (e1.trans (Ex.new hp)) (SqT.of upd_same), fun h => x h _ (e1.trans (Ex.new hp))⟩
end
end Ly
set_option Elab.async false
set_option linter.all false
set_option maxRecDepth 100000
set_option maxHeartbeats 8000000
namespace Ly
open PySem PySem.Spec PyProof.Rows L2 Evl
local macro_rules | `(tactic| walk_at "ne") => `(tactic| first
  | assumption
  | ((refine' Ne.symm ?hq); (case hq => assumption))
  | ((refine' ne_of_none ?nh1 ?nh2); (case nh2 => assumption); (case nh1 => walk_at "hp"))
  | ((refine' Ne.symm (ne_of_none ?nh1 ?nh2)); (case nh2 => assumption); (case nh1 => walk_at "hp")))
local macro_rules | `(tactic| walk_at "hp") => `(tactic| first
  | assumption
  | exact upd_same
  | ((refine' SqL.of ?hq); (case hq => walk_at "hp"))
  | ((refine' SqT.of ?hq); (case hq => walk_at "hp"))
  | ((refine' (upd_ne ?hne).trans ?hrest); (case hne => walk_at "ne"); (case hrest => walk_at "hp"))
  | ((refine' ly_at ?hex ?hh); (case hex => assumption); (case hh => walk_at "hp"))
  | ((refine' ly_atF ?hex ?hnn ?hh); (case hex => assumption); (case hh => walk_at "hp"); (case hnn => walk_at "ne"))
  | ((refine' ex_t ?hex ?hh); (case hh => assumption); (case hex => walk_at "ex"))
  | ((refine' ex_l ?hex ?hh); (case hh => assumption); (case hex => walk_at "ex")))
local macro_rules | `(tactic| walk_at "ex") => `(tactic| first
  | assumption
  | exact Ex.refl _
  | ((refine' ex_new ?xa ?xb); (case xb => assumption); (case xa => walk_at "ex"))
  | ((refine' ex_upd ?xa ?xb); (case xb => walk_at "free"); (case xa => walk_at "ex"))
  | ((refine' Ex.trans ?xa ?xb); (case xb => assumption); (case xa => walk_at "ex")))
local macro_rules | `(tactic| walk_at "free") => `(tactic| first
  | assumption
  | ((refine' fresh_back ?xa ?xb); (case xb => assumption); (case xa => walk_at "ex")))
local macro_rules | `(tactic| walk_at "fr") => `(tactic| first
  | assumption
  | exact Fr.refl _ _
  | ((refine' Fr.own ?hq); (case hq => walk_at "fr"))
  | ((refine' Fr.new ?xa ?xb); (case xb => assumption); (case xa => walk_at "fr"))
  | ((refine' Fr.mut ?xa ?xb); (case xb => assumption); (case xa => walk_at "fr"))
  | ((refine' Fr.trans ?xa ?xb); (case xb => assumption); (case xa => walk_at "fr"))
  | ((refine' Fr.trans ?xa (Fr.ex ?xb)); (case xb => assumption); (case xa => walk_at "fr")))
local macro_rules | `(tactic| walk_at "go1") => `(tactic| first
  | (with_reducible refine' w_seq ?_)
  | (with_reducible refine' w_asg ?_)
  | (with_reducible refine' w_ret ?_)
  | (with_reducible refine' w_drop ?_)
  | (with_reducible refine' w_if ?_)
  | (with_reducible refine' w_next ?_)
  | (with_reducible refine' w_name ?_)
  | (with_reducible refine' w_sub ?_)
  | ((with_reducible refine' w_var ?hv ?_); (case hv => exact rfl))
  | (with_reducible refine' w_c ?_)
  | (with_reducible refine' w_op ?_)
  | (with_reducible refine' w_un ?_)
  | (with_reducible refine' w_ch ?_)
  | (with_reducible refine' w_I0 ?_)
  | ((with_reducible refine' w_I ?hc ?_); (case hc => first | (exact ly_mulL (by decide) (by decide)) | (exact ly_mulR (by decide) (by decide)) | (exact ly_mulL (by omega) (by omega)) | (show (_ : Int) ≠ 0; decide) | (show (_ : Int) ≠ 0; omega) | (exact ⟨by decide, by decide⟩) | (exact ⟨by omega, by omega⟩)))
  | (with_reducible refine' w_U ?_)
  | ((with_reducible refine' w_eq ?hs ?_); (case hs => exact rfl))
  | ((with_reducible refine' w_ne ?hs ?_); (case hs => exact rfl))
  | (with_reducible refine' w_isB ?_)
  | (with_reducible refine' w_notB ?_)
  | (with_reducible refine' w_nil ?_)
  | (with_reducible refine' w_cons ?_)
  | (with_reducible refine' w_tup ?_)
  | (with_reducible refine' w_lst ?_)
  | (with_reducible refine' w_cb ?_)
  | (with_reducible refine' w_call ?_)
  | (with_reducible refine' w_bm ?_)
  | (with_reducible refine' w_bm0 ?_)
  | ((with_reducible refine' w_app ?hh ?hz ?_); (case hh => walk_at "hp"); (case hz => first | exact ly_lt (by omega) | exact ly_lt (by simp only [List.length_append, List.length_map, List.length_cons, List.length_nil]; omega)))
  | ((with_reducible refine' w_popA ?hh ?_); (case hh => walk_at "hp"))
  | ((with_reducible refine' w_ext ?hh ?hh2 ?hz ?_); (case hh => walk_at "hp"); (case hh2 => walk_at "hp"))
  | ((with_reducible refine' w_ixL ?hh ?ha ?_); (case hh => walk_at "hp"); (case ha => first | exact rfl | exact at_map (by omega) | exact atI_last _ _ | ((refine' at_of ?ae ?ah); (case ah => assumption); (case ae => omega))))
  | ((with_reducible refine' w_ixT ?hh ?ha ?_); (case hh => walk_at "hp"); (case ha => first | exact rfl | exact at_map (by omega) | exact atI_last _ _ | ((refine' at_of ?ae ?ah); (case ah => assumption); (case ae => omega))))
  | ((with_reducible refine' w_cat ?hh ?hh2 ?hz ?_); (case hh => walk_at "hp"); (case hh2 => walk_at "hp"))
  | ((with_reducible refine' w_setL ?hh ?ha ?_); (case hh => walk_at "hp"); (case ha => exact rfl))
  | (with_reducible refine' w_test ?_)
  | (with_reducible refine' w_tB ?_)
  | (with_reducible refine' w_bl ?_)
  | (with_reducible refine' w_and ?_)
  | (with_reducible refine' w_or ?_)
  | (with_reducible refine' w_not ?_)
  | (with_reducible refine' w_andV ?_)
  | (with_reducible refine' w_orV ?_)
  | (with_reducible refine' w_notV ?_)
  | (with_reducible refine' w_ifE ?_)
  | (with_reducible refine' w_for ?_)
  | ((with_reducible refine' w_nin ?hh ?_); (case hh => walk_at "hp"))
  | ((with_reducible refine' w_sorted ?hh ?_); (case hh => walk_at "hp"))
  | (with_reducible refine' w_tsadd ?_)
  | ((with_reducible refine' w_tsadd1 ?hh ?_); (case hh => walk_at "hp"))
  | ((with_reducible refine' w_sadd ?hh ?hr ?_); (case hh => walk_at "hp"); (case hr => omega))
  | (with_reducible refine' w_iZ ?_)
  | ((with_reducible refine' w_iZ1 ?hh ?hh2 ?_); (case hh => walk_at "hp"); (case hh2 => walk_at "hp"))
  | (with_reducible refine' w_iS ?_)
  | (with_reducible refine' w_iS1 ?_)
  | ((with_reducible refine' w_gtup ?hh ?hn ?_); (case hh => walk_at "hp"); (case hn => exact rfl))
  | (with_reducible refine' w_gcons ?_)
  | (with_reducible refine' w_gnil ?_)
  | (with_reducible refine' w_js ?_)
  | (with_reducible refine' w_jsn ?_)
  | ((with_reducible refine' w_js1 ?hl ?_); (case hl => decide +kernel))
  | (with_reducible refine' w_fmt ?_)
  | ((with_reducible refine' w_fmt1 ?hl ?_); (case hl => decide +kernel))
  | (with_reducible refine' w_callS ?_)
  | ((with_reducible refine' w_truL ?hh ?_); (case hh => walk_at "hp"))
  | (with_reducible refine' w_lc ?_)
  | (with_reducible refine' w_yes ?_)
  | ((with_reducible refine' w_wipe ?he ?_); (case he => exact rfl))
  | (with_reducible refine' w_iL ?_)
  | (with_reducible refine' w_iT ?_)
  | (with_reducible refine' w_iR ?_)
  | ((with_reducible refine' w_iL1 ?hh ?_); (case hh => walk_at "hp"))
  | ((with_reducible refine' w_iT1 ?hh ?_); (case hh => walk_at "hp"))
  | ((with_reducible refine' w_iR1 ?h1 ?h2 ?_); (case h1 => omega); (case h2 => omega))
  | ((with_reducible refine' w_aug ?hv ?_); (case hv => exact rfl))
  | (with_reducible refine' w_ipI ?_)
  | ((with_reducible refine' w_isi ?hy ?hk ?_); (case hy => walk_at "ty"); (case hk => walk_at "kit"))
  | ((with_reducible refine' w_int ?_))
  | ((with_reducible refine' w_intB ?_))
  | ((with_reducible refine' w_abs ?_))
  | ((with_reducible refine' w_lenL ?hh ?_); (case hh => walk_at "hp"))
  | ((with_reducible refine' w_lenT ?hh ?_); (case hh => walk_at "hp"))
  | ((with_reducible refine' w_tupL ?hh ?_); (case hh => walk_at "hp"))
  | ((with_reducible refine' w_tupT ?hh ?_); (case hh => walk_at "hp"))
  | ((with_reducible refine' w_catA ?hh ?hh2 ?hz ?_); (case hh => walk_at "hp"); (case hh2 => walk_at "hp"); (case hz => walk_at "len"))
  | ((with_reducible refine' w_repB ?hh ?hne ?h2 ?h3 ?hz ?_); (case hh => walk_at "hp"); (case hne => simp); (case h2 => omega); (case h3 => omega); (case hz => exact Nat.le_of_ble_eq_true rfl))
  | ((with_reducible refine' w_eqN ?hh ?hh2 ?n1 ?n2 ?_); (case hh => walk_at "hp"); (case hh2 => walk_at "hp"); (case n1 => walk_at "nd"); (case n2 => walk_at "nd"))
  | ((with_reducible refine' w_neN ?hh ?hh2 ?n1 ?n2 ?_); (case hh => walk_at "hp"); (case hh2 => walk_at "hp"); (case n1 => walk_at "nd"); (case n2 => walk_at "nd"))
  | ((with_reducible refine' w_eqL ?hh ?hh2 ?n1 ?n2 ?_); (case hh => walk_at "hp"); (case hh2 => walk_at "hp"); (case n1 => walk_at "nd"); (case n2 => walk_at "nd"))
  | ((with_reducible refine' w_neL ?hh ?hh2 ?n1 ?n2 ?_); (case hh => walk_at "hp"); (case hh2 => walk_at "hp"); (case n1 => walk_at "nd"); (case n2 => walk_at "nd"))
  | ((with_reducible refine' w_neNon ?hh2 ?n2 ?_); (case hh2 => walk_at "hp"); (case n2 => walk_at "nd"))
  | ((with_reducible refine' w_eqNon ?hh2 ?n2 ?_); (case hh2 => walk_at "hp"); (case n2 => walk_at "nd"))
  | ((with_reducible refine' w_slA ?hh ?_); (case hh => walk_at "hp"))
  | ((with_reducible refine' w_disp ?hz ?_); (case hz => exact sz_of (Nat.le_of_ble_eq_true rfl)))
  | ((with_reducible refine' w_tyL ?hh ?_); (case hh => walk_at "hp"))
  | (with_reducible refine' iteT ?_)
  | (with_reducible refine' iteF ?_)
  | (with_reducible refine' w_nT ?_)
  | (with_reducible refine' w_nn ?_)
  | (with_reducible refine' w_nnT ?_)
  | (with_reducible refine' w_nnR ?_)
  | (with_reducible refine' w_neG ?_)
  | (with_reducible refine' w_eqG ?_)
  | (with_reducible refine' w_neS ?_)
  | (with_reducible refine' w_eqS ?_)
  | (with_reducible refine' w_neSb ?_)
  | (with_reducible refine' w_eqSb ?_)
  | (with_reducible refine' w_deIS ?_)
  | (with_reducible refine' w_deSI ?_)
  | (with_reducible refine' w_deISn ?_)
  | ((with_reducible refine' w_deST ?he ?_); (case he => decide +kernel))
  | ((with_reducible refine' w_deSF ?he ?_); (case he => decide +kernel))
  | ((with_reducible refine' w_deSTn ?he ?_); (case he => decide +kernel))
  | ((with_reducible refine' w_deSFn ?he ?_); (case he => decide +kernel))
  | (with_reducible refine' w_nF ?_)
  | dsimp only [Bool.not_true, Bool.not_false])
local macro_rules | `(tactic| walk_at "ty") => `(tactic| first
  | exact .base (.int _) | exact .base (.str _) | exact .base (.bl _) | exact .base .non
  | ((refine' tyx_t ?hq); (case hq => walk_at "hp")) | ((refine' tyx_l ?hq); (case hq => walk_at "hp")) | ((refine' .base (.tup ?hq)); (case hq => walk_at "hp")) | assumption)
local macro_rules | `(tactic| walk_at "go") => `(tactic| repeat walk_at "go1")
local macro_rules | `(tactic| walk_at "st") => `(tactic| try dsimp only [cxOf, Cx.nox, Cx.wish])
local macro_rules | `(tactic| walk_at "kit") => `(tactic| with_reducible first | exact kit_int_int | exact kit_int_str | exact kit_int_bool | exact kit_int_tuple | exact kit_int_list | exact kit_str_int | exact kit_str_str | exact kit_str_bool | exact kit_str_tuple | exact kit_str_list | exact kit_bool_int | exact kit_bool_str | exact kit_bool_bool | exact kit_bool_tuple | exact kit_bool_list | exact kit_NoneType_int | exact kit_NoneType_str | exact kit_NoneType_bool | exact kit_NoneType_tuple | exact kit_NoneType_list | exact kit_list_int | exact kit_list_str | exact kit_list_bool | exact kit_list_tuple | exact kit_list_list | exact kit_tuple_int | exact kit_tuple_str | exact kit_tuple_bool | exact kit_tuple_tuple | exact kit_tuple_list)
local macro_rules | `(tactic| walk_at "nd") => `(tactic| first
  | assumption
  | exact Tm.nds _
  | exact Nds.nil
  | exact Nds.ofInts _
  | ((refine' Nds.cons ?na ?nb); (case na => first | exact Nds.I _ | exact Nds.L | exact Nds.A); (case nb => walk_at "nd"))
  | ((refine' Nds.app ?na ?nb); (case na => walk_at "nd"); (case nb => walk_at "nd"))
  | ((refine' Nds.rep ?na _); (case na => walk_at "nd")))
local macro_rules | `(tactic| walk_at "len") => `(tactic| first
  | exact ly_sz (by omega)
  | ((simp only [List.length_append, List.length_cons, List.length_nil, List.length_map, PyProof.Rows.lm_len_rep_flat]); exact ly_sz (by omega)))
local macro_rules | `(tactic| walk_at "go1") => `(tactic| first
  | (with_reducible refine' w_kget2 ?_)
  | (with_reducible refine' w_isRN ?_)
  | (with_reducible refine' w_isNN ?_)
  | (with_reducible refine' w_isIN ?_)
  | ((with_reducible refine' w_kg ?hd ?_); (case hd => assumption)))
section
variable {P : Program} {w : World} {K : PySem.W.Frag} {mg : Str → Option Value} {base : Heap} {tk : Nat → Tok} {cl : Nat → Addr}
/-! ### a drawn term -/
def spTerm : Sp := fun vs H Q _ => ∃ (s : Addr) (m : Stm) (size loose : Nat), vs = [.ref s, .int size, .int loose] ∧ StAt H s m ∧ 1 ≤ size ∧ size ≤ 1000 ∧ loose ≤ 1000 ∧
  ∀ H' p m' (t : Tm), Fr s H H' → StAt H' s m' → Fol m m' → H p = none → H' p = some (.tup t.enc) → t.wf loose → t.enc.length ≤ 2 * size → Q (.ref p) H'
def zeros (ds : List Nat) : Nat := (ds.filter (· == 0)).length
theorem zeros_app (a b : List Nat) : zeros (a ++ b) = zeros a + zeros b := by
  unfold zeros
  rw [List.filter_append, List.length_append]
theorem zeros_le (a : List Nat) : zeros a ≤ a.length := List.length_filter_le _ _
theorem zeros_one (d : Nat) : zeros [d] = if d = 0 then 1 else 0 := by
  unfold zeros
  by_cases h : d = 0
  · simp [h]
  · simp [h]
theorem pop_last {ds : List Nat} (h : ds ≠ []) : ∃ r d, ds = r ++ [d] := ⟨ds.dropLast, ds.getLast h, (List.dropLast_concat_getLast h).symm⟩
def TI (a nl : Addr) (H : Hp) (size loose : Nat) (m : Stm) (n : Nat) (σ : L2.St) (H' : Hp) : Prop := ∃ (m' : Stm) (nodes : List V) (ds : List Nat) (wl : Addr) (y1 y2 y3 : Option V), (wl ≠ nl ∧ H wl = none ∧ wl ≠ a ∧ wl ≠ m.home) ∧ σ = [some (.ref a), some (.int size), some (.int loose), some (.ref nl), some (.ref wl), y1, y2, y3] ∧ Fr a H H' ∧ StAt H' a m' ∧ Fol m m' ∧ H' nl = some (.lst nodes) ∧ H' wl = some (.lst (ds.map fun (d : Nat) => V.int d)) ∧
  Comp loose nodes ds ∧ nodes.length + ds.length + zeros ds ≤ 2 * size ∧ (∀ d ∈ ds, d ≤ nodes.length) ∧ nodes.length = n
theorem ok_term {f : Addr} {fd : FuncData} (F : Fun K "_law_term" "_law_term" s_law_term f fd) (T : Txt w K mg tk cl)
    (D1 : Def P w K mg base CX0 1 "_law_draw" ["stream", "many"] spDraw) : FnOk P w K mg base CX0 2 f fd ["stream", "size", "widest"] spTerm := by
  obtain ⟨f1, fd1, g_law_draw, kp_law_draw, b_law_draw, G_law_draw⟩ := D1
  refine F.ok sc_law_term (fun vs H Q E h => ?_) (fun cdv A outer s H vs Q E hr h => ?_)
  · obtain ⟨a, m, n1, n2, rfl, _⟩ := h
    rfl
  · obtain ⟨a, m, size, loose, rfl, hst, hs1, hs2, hlo, q⟩ := h
    refine ⟨_, (pss_cons (ps_set (i := 3) sc_law_term.nd rfl (.inl rfl) (pe_lst pa_nil)) (pss_cons (ps_set (i := 4) sc_law_term.nd rfl (.inl rfl) (pe_lst (pa_cons pe_int pa_nil))) (pss_cons (ps_while PassesOwn.never (pt_truth (pv 4) (by intro _; rfl)) (pss_cons (ps_set (i := 5) sc_law_term.nd rfl (.inl rfl) (pe_bm0 PySem.F.plainAttrs_list PySem.F.slot_list_pop PySem.F.type_list_pop mt_pop (pv 4))) (pss_cons (ps_set (i := 6) sc_law_term.nd rfl (.inl rfl) (pe_op op_sub (pe_op op_sub (pe_op op_sub (pv 1) (pe_callB call_len_seq (by rfl) T.n_len (by decide +kernel) (pa_cons (pv 3) pa_nil))) (pe_callB call_len_seq (by rfl) T.n_len (by decide +kernel) (pa_cons (pv 4) pa_nil))) pe_int)) (pss_cons (ps_set (i := 7) sc_law_term.nd rfl (.inl rfl) (pe_call G_law_draw (hr.mono (by first | decide | omega)) (by rfl) g_law_draw kp_law_draw b_law_draw .nil pass0 (pa_cons (pv 0) (pa_cons pe_int pa_nil)))) (pss_one (ps_if (PW.pt (pw_and (pt_cmpR op_gt (pv 6) pe_int (nomark _)) (pw_and1 (pt_cmpR op_lt (pv 7) pe_int (nomark _))))) (pss_cons (ps_expr (pe_bm PySem.F.plainAttrs_list PySem.F.slot_list_append PySem.F.type_list_append mt_append (pv 3) (pa_cons pe_str pa_nil))) (pss_one (ps_set (i := 4) sc_law_term.nd rfl (.inl rfl) (pe_op op_cat (pv 4) (pe_lst (pa_cons (pv 5) (pa_cons (pv 5) pa_nil))))))) (pss_one (ps_if (PW.pt (pw_or (PW.pt (pw_and (pt_cmpR op_gt (pv 6) pe_int (nomark _)) (pw_and1 (pt_cmpR op_lt (pv 7) pe_int (nomark _))))) (pw_or1 (pt_cmpR op_eq (pe_op op_add (pv 5) (pv 2)) pe_int (nomark _))))) (pss_cons (ps_expr (pe_bm PySem.F.plainAttrs_list PySem.F.slot_list_append PySem.F.type_list_append mt_append (pv 3) (pa_cons pe_str pa_nil))) (pss_one (ps_expr (pe_bm PySem.F.plainAttrs_list PySem.F.slot_list_append PySem.F.type_list_append mt_append (pv 4) (pa_cons (pe_op op_add (pv 5) pe_int) pa_nil))))) (pss_one (ps_expr (pe_bm PySem.F.plainAttrs_list PySem.F.slot_list_append PySem.F.type_list_append mt_append (pv 3) (pa_cons (pe_call G_law_draw (hr.mono (by first | decide | omega)) (by rfl) g_law_draw kp_law_draw b_law_draw .nil pass0 (pa_cons (pv 0) (pa_cons (pe_op op_add (pv 5) (pv 2)) pa_nil))) pa_nil)))))))))))) (pss_one (ps_ret (pe_callTy call_tuple_of (by rfl) T.n_tuple (by decide +kernel) (pa_cons (pv 3) pa_nil))))))), ?_⟩
    refine sl_of (σ2 := [some _, some _, some _, none, none, none, none, none]) rfl ?_
    walk_at "st"
    walk_at "go"
    intro nl hnl
    walk_at "go"
    intro wl hwl
    obtain ⟨hna, hnh⟩ := hst.ne hnl
    obtain ⟨hwa, hwh⟩ := (hst.new (o := .lst []) hnl).ne hwl
    have hwn : wl ≠ nl := (ne_of_none upd_same hwl).symm
    have hwl0 : H wl = none := by
      rw [upd_ne hwn] at hwl
      exact hwl
    walk_at "go"
    refine w_while (fun k σ' H' => ∃ n, TI a nl H size loose m n σ' H' ∧ k = 2 * size - n) (2 * size) ⟨0, ⟨m, [], [0], wl, none, none, none, ⟨hwn, hwl0, hwa, hwh⟩, rfl, by walk_at "fr", (hst.new hnl).new hwl, Fol.refl _, by walk_at "hp", upd_same, Comp.start _, ?_, ?_, rfl⟩, rfl⟩ ?_
    · simp [zeros]
      omega
    · simp
    · clear hwn hwl0 hwa hwh hwl
      rintro k σ H1 ⟨n, ⟨m1, nodes, ds, wl, y1, y2, y3, ⟨hwn, hwl0, hwa, hwh⟩, rfl, fr1, st1, fol1, hn1, hw1, hcomp, hphi, hd, hlen⟩, rfl⟩
      have hnh1 : ∀ {m2 : Stm}, Fol m m2 → nl ≠ m2.home := fun {m2} h => by
        rw [h.1]
        exact hnh
      have hwh1 : ∀ {m2 : Stm}, Fol m m2 → wl ≠ m2.home := fun {m2} h => by
        rw [h.1]
        exact hwh
      walk_at "go"
      by_cases hemp : ds = []
      · subst hemp
        obtain ⟨t, ht1, ht2⟩ := hcomp.done
        refine iteF ?_
        walk_at "go"
        intro p hp
        refine q _ p m1 t ?_ (st1.new hp) fol1 ?_ ?_ ht1 ?_
        · walk_at "fr"
        · refine Fr.free fr1 hst.2.1 hp ?_
          exact (st1.ne hp).1
        · rw [ht2]
          exact upd_same
        · rw [ht2]
          simp at hphi
          omega
      · obtain ⟨r, d, rfl⟩ := pop_last hemp
        rw [List.map_append] at hw1
        have he : (!(List.map (fun (d : Nat) => V.int d) (r ++ [d])).isEmpty) = true := by simp
        rw [he]
        refine iteT ⟨TI a nl H size loose m (n + 1), fun σ' H' h => ⟨2 * size - (n + 1), ?_, n + 1, h, rfl⟩, ?_⟩
        · simp at hphi
          omega
        have hdn : d ≤ nodes.length := hd d (by simp)
        have hdr : ∀ x ∈ r, x ≤ nodes.length := fun x hx => hd x (by simp [hx])
        have hphi2 : nodes.length + r.length + 1 + zeros r + (if d = 0 then 1 else 0) ≤ 2 * size := by
          rw [List.length_append, zeros_app, zeros_one] at hphi
          simp at hphi
          omega
        have hzr := zeros_le r
        have hw1b : H1 wl = some (.lst (List.map (fun (d : Nat) => V.int d) r ++ [V.int d])) := hw1
        walk_at "go"
        have st2 := st1.put (o := .lst (List.map (fun (d : Nat) => V.int d) r)) hwa (hwh1 fol1)
        have hn2 : upd H1 wl (.lst (List.map (fun (d : Nat) => V.int d) r)) nl = some (.lst nodes) := by walk_at "hp"
        refine ⟨a, m1, 5, rfl, st2, by decide, by decide, fun H2 fr2 st3 => ?_⟩
        have fol2 := fol1.step 5
        have hn3 : H2 nl = some (.lst nodes) := by walk_at "hp"
        have hw3 : H2 wl = some (.lst (List.map (fun (d : Nat) => V.int d) r)) := by walk_at "hp"
        have fr3 : Fr a H H2 := (Fr.mut fr1 hwl0).trans fr2
        have hw3l : (List.map (fun (d : Nat) => V.int d) r).length = r.length := List.length_map _
        generalize m1.val 5 = pick at *
        generalize m1.next 5 = m2 at *
        have toApp : ∀ {y1 y2 y3 : Option V} {H5 : Hp} {q : Addr}, ((r.length + nodes.length + 2 : Nat) : Int) < size → q ≠ nl → H q = none → q ≠ a → q ≠ m.home → Fr a H H5 → StAt H5 a m2 → H5 nl = some (.lst (nodes ++ [V.str "app"])) → H5 q = some (.lst (List.map (fun (d : Nat) => V.int d) r ++ [V.int d, V.int d])) → TI a nl H size loose m (n + 1) [some (.ref a), some (.int size), some (.int loose), some (.ref nl), some (.ref q), y1, y2, y3] H5 := fun {y1 y2 y3 H5 q} hroom q1 q2 q3 q4 frq stq hnq hqq => by
          refine ⟨m2, nodes ++ [.str "app"], r ++ [d] ++ [d], q, y1, y2, y3, ⟨q1, q2, q3, q4⟩, rfl, frq, stq, fol2, hnq, ?_, hcomp.app, ?_, ?_, ?_⟩
          · rw [hqq]
            simp
          · rw [zeros_app, zeros_app, zeros_one]
            simp
            split <;> omega
          · intro x hx
            simp at hx
            rw [List.length_append, List.length_singleton]
            rcases hx with hx | hx
            · have := hdr x hx
              omega
            · omega
          · rw [List.length_append, List.length_singleton, hlen]
        have toLam : ∀ {y1 y2 y3 : Option V}, (((r.length + nodes.length + 1 : Nat) : Int) < size ∨ d = 0) → TI a nl H size loose m (n + 1) [some (.ref a), some (.int size), some (.int loose), some (.ref nl), some (.ref wl), y1, y2, y3] (upd (upd H2 nl (.lst (nodes ++ [V.str "lam"]))) wl (.lst (List.map (fun (d : Nat) => V.int d) r ++ [V.int (d + 1)]))) := fun {y1 y2 y3} hroom => by
          refine ⟨m2, nodes ++ [.str "lam"], r ++ [d + 1], wl, y1, y2, y3, ⟨hwn, hwl0, hwa, hwh⟩, rfl, ?_, ?_, fol2, ?_, ?_, hcomp.lam, ?_, ?_, ?_⟩
          · walk_at "fr"
          · exact (st3.put hna (hnh1 fol2)).put hwa (hwh1 fol2)
          · walk_at "hp"
          · rw [upd_same]
            simp
          · rw [zeros_app, zeros_one, if_neg (Nat.succ_ne_zero d)]
            simp
            rcases hroom with h | h
            · omega
            · rw [if_pos h] at hphi2
              omega
          · intro x hx
            simp at hx
            rw [List.length_append, List.length_singleton]
            rcases hx with hx | hx
            · have := hdr x hx
              omega
            · omega
          · rw [List.length_append, List.length_singleton, hlen]
        have toVar : ∀ {y1 y2 y3 : Option V}, d + loose ≠ 0 → spDraw ([V.ref a, V.int ((d : Int) + (loose : Int))] ++ []) H2 (fun y H3 => rAppend (V.ref nl) [y] H3 fun _ H4 => TI a nl H size loose m (n + 1) [some (.ref a), some (.int size), some (.int loose), some (.ref nl), some (.ref wl), y1, y2, y3] H4) E0 := fun {y1 y2 y3} hne => by
          have hds : d ≤ 2 * size := by omega
          refine ⟨a, m2, _, rfl, st3, by omega, by omega, fun H3 fr4 st4 => ?_⟩
          have hv := m2.val_lt (n := (d : Int) + (loose : Int)) (by omega)
          have hn4 : H3 nl = some (.lst nodes) := by walk_at "hp"
          have hw4 : H3 wl = some (.lst (List.map (fun (d : Nat) => V.int d) r)) := by walk_at "hp"
          have fr5 := fr3.trans fr4
          walk_at "go"
          refine ⟨m2.next _, _, r, wl, y1, y2, y3, ⟨hwn, hwl0, hwa, hwh⟩, rfl, Fr.mut fr5 hnl, st4.put hna (hnh1 (fol2.step _)), fol2.step _, upd_same, by walk_at "hp", ?_, ?_, ?_, ?_⟩
          · have := hcomp.var (n := (m2.val ((d : Int) + (loose : Int))).toNat) (by omega)
            rw [Int.toNat_of_nonneg hv.1] at this
            exact this
          · rw [List.length_append, List.length_singleton]
            omega
          · intro x hx
            have := hdr x hx
            rw [List.length_append, List.length_singleton]
            omega
          · rw [List.length_append, List.length_singleton, hlen]
        walk_at "go"
        rw [hw3l]
        refine w_br (fun c1 => ?_) (fun c1 => ?_)
        · walk_at "go"
          refine w_br (fun c2 => ?_) (fun c2 => ?_)
          · walk_at "go"
            have st4 := st3.put (o := .lst (nodes ++ [V.str "app"])) hna (hnh1 fol2)
            have hn4 : upd H2 nl (.lst (nodes ++ [V.str "app"])) nl = some (.lst (nodes ++ [V.str "app"])) := upd_same
            have hw4 : upd H2 nl (.lst (nodes ++ [V.str "app"])) wl = some (.lst (List.map (fun (d : Nat) => V.int d) r)) := by rw [upd_ne hwn]; exact hw3
            have fr4 : Fr a H (upd H2 nl (.lst (nodes ++ [V.str "app"]))) := Fr.mut fr3 hnl
            generalize upd H2 nl (.lst (nodes ++ [V.str "app"])) = H4 at *
            intro p hp
            have hpn : p ≠ nl := (ne_of_none hn4 hp).symm
            have hpw : p ≠ wl := (ne_of_none hw4 hp).symm
            have e5 := Ex.new hp (o := .lst [V.int (d : Int), V.int (d : Int)])
            have hp5 : upd H4 p (.lst [V.int (d : Int), V.int (d : Int)]) p = some (.lst [V.int (d : Int), V.int (d : Int)]) := upd_same
            have hw5 := e5 _ _ hw4
            have hn5 := e5 _ _ hn4
            have st5 := st4.ex e5
            have fr5 := fr4.trans (Fr.ex e5)
            generalize upd H4 p (.lst [V.int (d : Int), V.int (d : Int)]) = H5 at *
            walk_at "go"
            · exact ly_sz (by rw [hw3l]; simp; omega)
            intro q hq
            have hqn : q ≠ nl := (ne_of_none hn5 hq).symm
            obtain ⟨hqa, hqh⟩ := st5.ne hq
            walk_at "go"
            have hqh2 : q ≠ m.home := by rw [← fol2.1]; exact hqh
            exact toApp (by omega) hqn (Fr.free fr5 hst.2.1 hq hqa) hqa hqh2 (Fr.new fr5 hq) (st5.new hq) (by rw [upd_ne hqn.symm]; exact hn5) upd_same
          · walk_at "go"
            refine w_br (fun c3 => ?_) (fun c3 => by omega)
            walk_at "go"
            refine w_br (fun c4 => ?_) (fun c4 => ?_)
            · walk_at "go"
              exact toLam (.inl (by omega))
            · walk_at "go"
              refine w_brI (fun c5 => ?_) (fun c5 => ?_)
              · walk_at "go"
                exact toLam (.inr (by omega))
              · walk_at "go"
                exact toVar (by omega)
        · walk_at "go"
          refine w_br (fun c3 => ?_) (fun c3 => ?_)
          · walk_at "go"
            refine w_br (fun c4 => ?_) (fun c4 => ?_)
            · walk_at "go"
              exact toLam (.inl (by omega))
            · walk_at "go"
              refine w_brI (fun c5 => ?_) (fun c5 => ?_)
              · walk_at "go"
                exact toLam (.inr (by omega))
              · walk_at "go"
                exact toVar (by omega)
          · walk_at "go"
            refine w_brI (fun c5 => ?_) (fun c5 => ?_)
            · walk_at "go"
              exact toLam (.inr (by omega))
            · walk_at "go"
              exact toVar (by omega)
end
end Ly
set_option Elab.async false
set_option linter.all false
set_option maxRecDepth 100000
set_option maxHeartbeats 8000000
namespace Ly
open PySem PySem.Spec PyProof.Rows L2 Evl
local macro_rules | `(tactic| walk_at "ne") => `(tactic| first
  | assumption
  | ((refine' Ne.symm ?hq); (case hq => assumption))
  | ((refine' ne_of_none ?nh1 ?nh2); (case nh2 => assumption); (case nh1 => walk_at "hp"))
  | ((refine' Ne.symm (ne_of_none ?nh1 ?nh2)); (case nh2 => assumption); (case nh1 => walk_at "hp")))
local macro_rules | `(tactic| walk_at "hp") => `(tactic| first
  | assumption
  | exact upd_same
  | ((refine' SqL.of ?hq); (case hq => walk_at "hp"))
  | ((refine' SqT.of ?hq); (case hq => walk_at "hp"))
  | ((refine' (upd_ne ?hne).trans ?hrest); (case hne => walk_at "ne"); (case hrest => walk_at "hp"))
  | ((refine' ly_at ?hex ?hh); (case hex => assumption); (case hh => walk_at "hp"))
  | ((refine' ly_atF ?hex ?hnn ?hh); (case hex => assumption); (case hh => walk_at "hp"); (case hnn => walk_at "ne"))
  | ((refine' ex_t ?hex ?hh); (case hh => assumption); (case hex => walk_at "ex"))
  | ((refine' ex_l ?hex ?hh); (case hh => assumption); (case hex => walk_at "ex")))
local macro_rules | `(tactic| walk_at "ex") => `(tactic| first
  | assumption
  | exact Ex.refl _
  | ((refine' ex_new ?xa ?xb); (case xb => assumption); (case xa => walk_at "ex"))
  | ((refine' ex_upd ?xa ?xb); (case xb => walk_at "free"); (case xa => walk_at "ex"))
  | ((refine' Ex.trans ?xa ?xb); (case xb => assumption); (case xa => walk_at "ex")))
local macro_rules | `(tactic| walk_at "free") => `(tactic| first
  | assumption
  | ((refine' fresh_back ?xa ?xb); (case xb => assumption); (case xa => walk_at "ex")))
local macro_rules | `(tactic| walk_at "fr") => `(tactic| first
  | assumption
  | exact Fr.refl _ _
  | ((refine' Fr.own ?hq); (case hq => walk_at "fr"))
  | ((refine' Fr.new ?xa ?xb); (case xb => assumption); (case xa => walk_at "fr"))
  | ((refine' Fr.mut ?xa ?xb); (case xb => assumption); (case xa => walk_at "fr"))
  | ((refine' Fr.trans ?xa ?xb); (case xb => assumption); (case xa => walk_at "fr"))
  | ((refine' Fr.trans ?xa (Fr.ex ?xb)); (case xb => assumption); (case xa => walk_at "fr")))
local macro_rules | `(tactic| walk_at "go1") => `(tactic| first
  | (with_reducible refine' w_seq ?_)
  | (with_reducible refine' w_asg ?_)
  | (with_reducible refine' w_ret ?_)
  | (with_reducible refine' w_drop ?_)
  | (with_reducible refine' w_if ?_)
  | (with_reducible refine' w_next ?_)
  | (with_reducible refine' w_name ?_)
  | (with_reducible refine' w_sub ?_)
  | ((with_reducible refine' w_var ?hv ?_); (case hv => exact rfl))
  | (with_reducible refine' w_c ?_)
  | (with_reducible refine' w_op ?_)
  | (with_reducible refine' w_un ?_)
  | (with_reducible refine' w_ch ?_)
  | (with_reducible refine' w_I0 ?_)
  | ((with_reducible refine' w_I ?hc ?_); (case hc => first | (exact ly_mulL (by decide) (by decide)) | (exact ly_mulR (by decide) (by decide)) | (exact ly_mulL (by omega) (by omega)) | (show (_ : Int) ≠ 0; decide) | (show (_ : Int) ≠ 0; omega) | (exact ⟨by decide, by decide⟩) | (exact ⟨by omega, by omega⟩)))
  | (with_reducible refine' w_U ?_)
  | ((with_reducible refine' w_eq ?hs ?_); (case hs => exact rfl))
  | ((with_reducible refine' w_ne ?hs ?_); (case hs => exact rfl))
  | (with_reducible refine' w_isB ?_)
  | (with_reducible refine' w_notB ?_)
  | (with_reducible refine' w_nil ?_)
  | (with_reducible refine' w_cons ?_)
  | (with_reducible refine' w_tup ?_)
  | (with_reducible refine' w_lst ?_)
  | (with_reducible refine' w_cb ?_)
  | (with_reducible refine' w_call ?_)
  | (with_reducible refine' w_bm ?_)
  | (with_reducible refine' w_bm0 ?_)
  | ((with_reducible refine' w_app ?hh ?hz ?_); (case hh => walk_at "hp"); (case hz => first | exact ly_lt (by omega) | exact ly_lt (by simp only [List.length_append, List.length_map, List.length_cons, List.length_nil]; omega)))
  | ((with_reducible refine' w_popA ?hh ?_); (case hh => walk_at "hp"))
  | ((with_reducible refine' w_ext ?hh ?hh2 ?hz ?_); (case hh => walk_at "hp"); (case hh2 => walk_at "hp"))
  | ((with_reducible refine' w_ixL ?hh ?ha ?_); (case hh => walk_at "hp"); (case ha => first | exact rfl | exact at_map (by omega) | exact atI_last _ _ | ((refine' at_of ?ae ?ah); (case ah => assumption); (case ae => omega))))
  | ((with_reducible refine' w_ixT ?hh ?ha ?_); (case hh => walk_at "hp"); (case ha => first | exact rfl | exact at_map (by omega) | exact atI_last _ _ | ((refine' at_of ?ae ?ah); (case ah => assumption); (case ae => omega))))
  | ((with_reducible refine' w_cat ?hh ?hh2 ?hz ?_); (case hh => walk_at "hp"); (case hh2 => walk_at "hp"))
  | ((with_reducible refine' w_setL ?hh ?ha ?_); (case hh => walk_at "hp"); (case ha => exact rfl))
  | (with_reducible refine' w_test ?_)
  | (with_reducible refine' w_tB ?_)
  | (with_reducible refine' w_bl ?_)
  | (with_reducible refine' w_and ?_)
  | (with_reducible refine' w_or ?_)
  | (with_reducible refine' w_not ?_)
  | (with_reducible refine' w_andV ?_)
  | (with_reducible refine' w_orV ?_)
  | (with_reducible refine' w_notV ?_)
  | (with_reducible refine' w_ifE ?_)
  | (with_reducible refine' w_for ?_)
  | ((with_reducible refine' w_nin ?hh ?_); (case hh => walk_at "hp"))
  | ((with_reducible refine' w_sorted ?hh ?_); (case hh => walk_at "hp"))
  | (with_reducible refine' w_tsadd ?_)
  | ((with_reducible refine' w_tsadd1 ?hh ?_); (case hh => walk_at "hp"))
  | ((with_reducible refine' w_sadd ?hh ?hr ?_); (case hh => walk_at "hp"); (case hr => omega))
  | (with_reducible refine' w_iZ ?_)
  | ((with_reducible refine' w_iZ1 ?hh ?hh2 ?_); (case hh => walk_at "hp"); (case hh2 => walk_at "hp"))
  | (with_reducible refine' w_iS ?_)
  | (with_reducible refine' w_iS1 ?_)
  | ((with_reducible refine' w_gtup ?hh ?hn ?_); (case hh => walk_at "hp"); (case hn => exact rfl))
  | (with_reducible refine' w_gcons ?_)
  | (with_reducible refine' w_gnil ?_)
  | (with_reducible refine' w_js ?_)
  | (with_reducible refine' w_jsn ?_)
  | ((with_reducible refine' w_js1 ?hl ?_); (case hl => decide +kernel))
  | (with_reducible refine' w_fmt ?_)
  | ((with_reducible refine' w_fmt1 ?hl ?_); (case hl => decide +kernel))
  | (with_reducible refine' w_callS ?_)
  | ((with_reducible refine' w_truL ?hh ?_); (case hh => walk_at "hp"))
  | (with_reducible refine' w_lc ?_)
  | (with_reducible refine' w_yes ?_)
  | ((with_reducible refine' w_wipe ?he ?_); (case he => exact rfl))
  | (with_reducible refine' w_iL ?_)
  | (with_reducible refine' w_iT ?_)
  | (with_reducible refine' w_iR ?_)
  | ((with_reducible refine' w_iL1 ?hh ?_); (case hh => walk_at "hp"))
  | ((with_reducible refine' w_iT1 ?hh ?_); (case hh => walk_at "hp"))
  | ((with_reducible refine' w_iR1 ?h1 ?h2 ?_); (case h1 => omega); (case h2 => omega))
  | ((with_reducible refine' w_aug ?hv ?_); (case hv => exact rfl))
  | (with_reducible refine' w_ipI ?_)
  | ((with_reducible refine' w_isi ?hy ?hk ?_); (case hy => walk_at "ty"); (case hk => walk_at "kit"))
  | ((with_reducible refine' w_int ?_))
  | ((with_reducible refine' w_intB ?_))
  | ((with_reducible refine' w_abs ?_))
  | ((with_reducible refine' w_lenL ?hh ?_); (case hh => walk_at "hp"))
  | ((with_reducible refine' w_lenT ?hh ?_); (case hh => walk_at "hp"))
  | ((with_reducible refine' w_tupL ?hh ?_); (case hh => walk_at "hp"))
  | ((with_reducible refine' w_tupT ?hh ?_); (case hh => walk_at "hp"))
  | ((with_reducible refine' w_catA ?hh ?hh2 ?hz ?_); (case hh => walk_at "hp"); (case hh2 => walk_at "hp"); (case hz => walk_at "len"))
  | ((with_reducible refine' w_repB ?hh ?hne ?h2 ?h3 ?hz ?_); (case hh => walk_at "hp"); (case hne => simp); (case h2 => omega); (case h3 => omega); (case hz => exact Nat.le_of_ble_eq_true rfl))
  | ((with_reducible refine' w_eqN ?hh ?hh2 ?n1 ?n2 ?_); (case hh => walk_at "hp"); (case hh2 => walk_at "hp"); (case n1 => walk_at "nd"); (case n2 => walk_at "nd"))
  | ((with_reducible refine' w_neN ?hh ?hh2 ?n1 ?n2 ?_); (case hh => walk_at "hp"); (case hh2 => walk_at "hp"); (case n1 => walk_at "nd"); (case n2 => walk_at "nd"))
  | ((with_reducible refine' w_eqL ?hh ?hh2 ?n1 ?n2 ?_); (case hh => walk_at "hp"); (case hh2 => walk_at "hp"); (case n1 => walk_at "nd"); (case n2 => walk_at "nd"))
  | ((with_reducible refine' w_neL ?hh ?hh2 ?n1 ?n2 ?_); (case hh => walk_at "hp"); (case hh2 => walk_at "hp"); (case n1 => walk_at "nd"); (case n2 => walk_at "nd"))
  | ((with_reducible refine' w_neNon ?hh2 ?n2 ?_); (case hh2 => walk_at "hp"); (case n2 => walk_at "nd"))
  | ((with_reducible refine' w_eqNon ?hh2 ?n2 ?_); (case hh2 => walk_at "hp"); (case n2 => walk_at "nd"))
  | ((with_reducible refine' w_slA ?hh ?_); (case hh => walk_at "hp"))
  | ((with_reducible refine' w_disp ?hz ?_); (case hz => exact sz_of (Nat.le_of_ble_eq_true rfl)))
  | ((with_reducible refine' w_tyL ?hh ?_); (case hh => walk_at "hp"))
  | (with_reducible refine' iteT ?_)
  | (with_reducible refine' iteF ?_)
  | (with_reducible refine' w_nT ?_)
  | (with_reducible refine' w_nn ?_)
  | (with_reducible refine' w_nnT ?_)
  | (with_reducible refine' w_nnR ?_)
  | (with_reducible refine' w_neG ?_)
  | (with_reducible refine' w_eqG ?_)
  | (with_reducible refine' w_neS ?_)
  | (with_reducible refine' w_eqS ?_)
  | (with_reducible refine' w_neSb ?_)
  | (with_reducible refine' w_eqSb ?_)
  | (with_reducible refine' w_deIS ?_)
  | (with_reducible refine' w_deSI ?_)
  | (with_reducible refine' w_deISn ?_)
  | ((with_reducible refine' w_deST ?he ?_); (case he => decide +kernel))
  | ((with_reducible refine' w_deSF ?he ?_); (case he => decide +kernel))
  | ((with_reducible refine' w_deSTn ?he ?_); (case he => decide +kernel))
  | ((with_reducible refine' w_deSFn ?he ?_); (case he => decide +kernel))
  | (with_reducible refine' w_nF ?_)
  | dsimp only [Bool.not_true, Bool.not_false])
local macro_rules | `(tactic| walk_at "ty") => `(tactic| first
  | exact .base (.int _) | exact .base (.str _) | exact .base (.bl _) | exact .base .non
  | ((refine' tyx_t ?hq); (case hq => walk_at "hp")) | ((refine' tyx_l ?hq); (case hq => walk_at "hp")) | ((refine' .base (.tup ?hq)); (case hq => walk_at "hp")) | assumption)
local macro_rules | `(tactic| walk_at "go") => `(tactic| repeat walk_at "go1")
local macro_rules | `(tactic| walk_at "st") => `(tactic| try dsimp only [cxOf, Cx.nox, Cx.wish])
local macro_rules | `(tactic| walk_at "kit") => `(tactic| with_reducible first | exact kit_int_int | exact kit_int_str | exact kit_int_bool | exact kit_int_tuple | exact kit_int_list | exact kit_str_int | exact kit_str_str | exact kit_str_bool | exact kit_str_tuple | exact kit_str_list | exact kit_bool_int | exact kit_bool_str | exact kit_bool_bool | exact kit_bool_tuple | exact kit_bool_list | exact kit_NoneType_int | exact kit_NoneType_str | exact kit_NoneType_bool | exact kit_NoneType_tuple | exact kit_NoneType_list | exact kit_list_int | exact kit_list_str | exact kit_list_bool | exact kit_list_tuple | exact kit_list_list | exact kit_tuple_int | exact kit_tuple_str | exact kit_tuple_bool | exact kit_tuple_tuple | exact kit_tuple_list)
local macro_rules | `(tactic| walk_at "nd") => `(tactic| first
  | assumption
  | exact Tm.nds _
  | exact Nds.nil
  | exact Nds.ofInts _
  | ((refine' Nds.cons ?na ?nb); (case na => first | exact Nds.I _ | exact Nds.L | exact Nds.A); (case nb => walk_at "nd"))
  | ((refine' Nds.app ?na ?nb); (case na => walk_at "nd"); (case nb => walk_at "nd"))
  | ((refine' Nds.rep ?na _); (case na => walk_at "nd")))
local macro_rules | `(tactic| walk_at "len") => `(tactic| first
  | exact ly_sz (by omega)
  | ((simp only [List.length_append, List.length_cons, List.length_nil, List.length_map, PyProof.Rows.lm_len_rep_flat]); exact ly_sz (by omega)))
local macro_rules | `(tactic| walk_at "go1") => `(tactic| first
  | (with_reducible refine' w_kget2 ?_)
  | (with_reducible refine' w_isRN ?_)
  | (with_reducible refine' w_isNN ?_)
  | (with_reducible refine' w_isIN ?_)
  | ((with_reducible refine' w_kg ?hd ?_); (case hd => assumption)))
local macro_rules | `(tactic| walk_at "go1") => `(tactic| first
  | ((with_reducible refine' w_extT ?hh ?hh2 ?hz ?_); (case hh => walk_at "hp"); (case hh2 => walk_at "hp"))
  | ((with_reducible refine' w_I ?hc ?_); (case hc => exact ⟨by decide, by decide, by decide⟩))
  | (with_reducible refine' w_sl ?_)
  | (with_reducible refine' w_noP ?_)
  | (with_reducible refine' w_part ?_)
  | (with_reducible refine' w_part1 ?_)
  | (with_reducible refine' w_it ?_)
  | (with_reducible refine' w_it1 ?_)
  | ((with_reducible refine' w_lenZ ?hz ?_); (case hz => omega))
  | ((with_reducible refine' w_addZb ?hz ?_); (case hz => omega))
  | ((with_reducible refine' w_addZf ?hz ?_); (case hz => omega))
  | ((with_reducible refine' w_addZa ?hz ?_); (case hz => omega))
  | ((with_reducible refine' w_inS ?hh ?_); (case hh => walk_at "hp"))
  | ((with_reducible refine' w_ixT ?hh ?ha ?_); (case hh => assumption); (case ha => exact atI_nat (by assumption))))
local macro_rules | `(tactic| walk_at "go1") => `(tactic| first
  | (with_reducible refine' w_iR2 ?_)
  | ((with_reducible refine' w_iR21 ?h1 ?h2 ?h3 ?h4 ?_); (case h1 => omega); (case h2 => omega); (case h3 => omega); (case h4 => omega))
  | (with_reducible refine' w_nnI ?_)
  | (with_reducible refine' w_max ?_)
  | (with_reducible refine' w_break ?_)
  | (with_reducible refine' w_cont ?_))
section
variable {P : Program} {w : World} {K : PySem.W.Frag} {mg : Str → Option Value} {base : Heap} {tk : Nat → Tok} {cl : Nat → Addr}
theorem sqt_updL8 {H : Hp} {l b : Addr} {xs zs ys : List V} (hl : H l = some (.lst xs)) (h : SqT K H b ys) : SqT K (upd H l (.lst zs)) b ys := fr_t (s := l) (fun c o h1 h2 => by rw [upd_ne h1]; exact h2) hl h
theorem w_revL {te : TE} {σ : L2.St} {H : Hp} {Q : VK} (h : te σ H fun x H1 => ∃ a xs, x = .ref a ∧ SqL K H1 a xs ∧ ∀ p, H1 p = none → Q (.ref p) (upd H1 p (.lst xs.reverse))) : tRevL K te σ H Q := h
local macro_rules | `(tactic| walk_at "go1") => `(tactic| (with_reducible refine' w_revL ?_))
/-- for each node, if its part has the variable 0 -/
def Cb.zs : Cb → List Bool
  | .app f a => (Cb.app f a).has0 :: (f.zs ++ a.zs)
  | t => [t.has0]
def zsF (us : List Cb) : List Bool := (us.map Cb.zs).flatten
theorem zsF_cons (u : Cb) (us : List Cb) : zsF (u :: us) = u.zs ++ zsF us := by simp [zsF]
theorem Cb.zs_len (t : Cb) : t.zs.length = t.enc.length := by
  induction t with
  | app f a h1 h2 => simp [Cb.zs, Cb.enc, h1, h2]
  | _ => rfl
theorem zsF_len : ∀ us : List Cb, (zsF us).length = (cencs us).length
  | [] => rfl
  | u :: us => by rw [zsF_cons, cencs_cons, List.length_append, List.length_append, Cb.zs_len, zsF_len us]
theorem Leaf.zs {c : Cb} {x : V} (h : Leaf c x) : c.zs = [c.has0] ∧ (x = .int 0 ↔ c.has0 = true) := by
  cases h with
  | S => exact ⟨rfl, by simp [Cb.has0]⟩
  | K => exact ⟨rfl, by simp [Cb.has0]⟩
  | I => exact ⟨rfl, by simp [Cb.has0]⟩
  | var n => exact ⟨rfl, by simp [Cb.has0]⟩
theorem Leaf.eq0 {c : Cb} {x : V} (h : Leaf c x) : decide (x = .int 0) = c.has0 := by
  rw [Bool.eq_iff_iff, decide_eq_true_iff]
  exact h.zs.2
theorem Leaf.scal0 {c : Cb} {x : V} (h : Leaf c x) : scal x (.int 0) = true ∧ scal x (.str "app") = true := by cases h <;> exact ⟨rfl, rfl⟩
def spZero (K : PySem.W.Frag) : Sp := fun vs H Q _ => ∃ (a : Addr) (t : Cb), vs = [.ref a] ∧ SqT K H a t.enc ∧ t.enc.length ≤ 300000 ∧ ∀ H' p, Ex H H' → H p = none → H' p = some (.lst (t.zs.map V.bl)) → Q (.ref p) H'
theorem ok_pzero {f : Addr} {fd : FuncData} {k : Nat} (F : Fun K "parts_with_zero" "parts_with_zero" s_parts_with_zero f fd) (T : Txt w K mg tk cl) : FnOk P w K mg base CX0 (k + 1) f fd ["combination"] (spZero K) := by
  refine F.ok sc_parts_with_zero (fun vs H Q E h => ?_) (fun cdv A outer s H vs Q E hr h => ?_)
  · obtain ⟨a, t, rfl, _⟩ := h
    rfl
  · obtain ⟨a, t, rfl, hS, hlen, q⟩ := h
    refine ⟨_, (pss_cons (ps_set (i := 1) sc_parts_with_zero.nd rfl (.inl rfl) (pe_lst pa_nil)) (pss_cons (ps_set (i := 2) sc_parts_with_zero.nd rfl (.inl rfl) (pe_lst pa_nil)) (pss_cons (ps_for PassesOwn.never rfl (RT.pi_revA (by rfl) T.n_reversed (pv 0)) (pg_name (i := 3) sc_parts_with_zero.nd rfl (.inl rfl)) (pss_cons (ps_set (i := 4) sc_parts_with_zero.nd rfl (.inl rfl) (pe_cmpR op_eq (pv 3) pe_int (nomark _))) (pss_cons (ps_if (pt_cmpR op_eq (pv 3) pe_str (nomark _)) (pss_cons (ps_set (i := 5) sc_parts_with_zero.nd rfl (.inl rfl) (pe_bm0 PySem.F.plainAttrs_list PySem.F.slot_list_pop PySem.F.type_list_pop mt_pop (pv 2))) (pss_one (ps_set (i := 4) sc_parts_with_zero.nd rfl (.inl rfl) (pe_or (pe_bm0 PySem.F.plainAttrs_list PySem.F.slot_list_pop PySem.F.type_list_pop mt_pop (pv 2)) (pe_one (pv 5)))))) pss_nil) (pss_cons (ps_expr (pe_bm PySem.F.plainAttrs_list PySem.F.slot_list_append PySem.F.type_list_append mt_append (pv 2) (pa_cons (pv 4) pa_nil))) (pss_one (ps_expr (pe_bm PySem.F.plainAttrs_list PySem.F.slot_list_append PySem.F.type_list_append mt_append (pv 1) (pa_cons (pv 4) pa_nil)))))))) (pss_one (ps_ret (pe_revL (pv 1))))))), ?_⟩
    refine sl_of (σ2 := [some _, none, none, none, none, none]) rfl ?_
    walk_at "st"
    walk_at "go"
    intro fl hfl
    walk_at "go"
    intro pd hpd
    have hpf : pd ≠ fl := (ne_of_none upd_same hpd).symm
    have hpd0 : H pd = none := by
      rw [upd_ne hpf] at hpd
      exact hpd
    have e1 : Ex H (upd (upd H fl (.lst [])) pd (.lst [])) := (Ex.new hfl).trans (Ex.new hpd)
    have hf1 : upd (upd H fl (.lst [])) pd (.lst []) fl = some (.lst []) := by rw [upd_ne hpf.symm]; exact upd_same
    have hp1 : upd (upd H fl (.lst [])) pd (.lst []) pd = some (.lst []) := upd_same
    generalize upd (upd H fl (.lst [])) pd (.lst []) = H1 at *
    clear hpd
    have hS1 := ex_t e1 hS
    walk_at "go"
    refine ⟨_, rfl, ?_⟩
    refine ⟨a, t.enc, rfl, .inr ⟨hS1, ?_⟩⟩
    refine RT.for_ItvT (K := K) (a := a) (xs := t.enc) (fun i σ H' => ∃ (us : List Cb) (y3 y4 y5 : Option V), σ = [some (.ref a), some (.ref fl), some (.ref pd), y3, y4, y5] ∧ Ex H H' ∧ ForC t (t.enc.length - i) us ∧ H' fl = some (.lst ((zsF us).reverse.map V.bl)) ∧ H' pd = some (.lst ((us.map Cb.has0).reverse.map V.bl)))
      ⟨[], none, none, none, rfl, e1, ?_, hf1, hp1⟩ (fun i σ H' ⟨_, _, _, _, _, e, _⟩ => ex_t e hS) ?_ ?_
    · obtain ⟨us, hu⟩ := ForC.ex (t := t) (i := t.enc.length) (Nat.le_refl _)
      have e := hu.enc
      rw [List.drop_length] at e
      rw [cencs_nil e.symm] at hu
      simpa using hu
    · rintro i x σ H2 hi hx ⟨us, y3, y4, y5, rfl, e2, hus, hf2, hp2⟩
      have ei : t.enc.length - 1 - i + 1 = t.enc.length - i := by omega
      obtain ⟨ws, hws, hcase⟩ := ForC.back (us := us) hx (by rw [ei]; exact hus)
      have ei2 : t.enc.length - (i + 1) = t.enc.length - 1 - i := by omega
      rw [← ei2] at hws
      have l1 := cencs_pos us
      have l2 := congrArg List.length hus.enc
      rw [List.length_drop] at l2
      have l3 := zsF_len us
      have ral : ((us.map Cb.has0).reverse.map V.bl).length ≤ 300000 := by simp; omega
      have raf : ((zsF us).reverse.map V.bl).length ≤ 300000 := by simp; omega
      rcases hcase with ⟨c, hl, rfl⟩ | ⟨f, b, us2, rfl, rfl, rfl⟩
      · walk_at "go"
        refine w_eq hl.scal0.1 ?_
        rw [hl.eq0]
        walk_at "go"
        refine w_eq hl.scal0.2 ?_
        walk_at "go"
        refine w_br (fun z => absurd z hl.ne) (fun _ => ?_)
        walk_at "go"
        refine ⟨c :: us, _, _, _, rfl, (e2.mut hpd0).mut hfl, hws, ?_, ?_⟩
        · rw [upd_same, zsF_cons, hl.zs.1]
          simp
        · rw [upd_ne hpf, upd_same]
          simp
      · have hp2 : H2 pd = some (.lst (((us2.map Cb.has0).reverse.map V.bl ++ [.bl b.has0]) ++ [.bl f.has0])) := by rw [hp2]; simp
        have rb : ((us2.map Cb.has0).reverse.map V.bl).length ≤ 300000 := by
          simp only [List.length_map, List.length_reverse]
          simp only [List.length_cons] at l1
          omega
        walk_at "go"
        have e3 := e2.mut hpd0 (o := .lst ((us2.map Cb.has0).reverse.map V.bl ++ [.bl b.has0]))
        have hf3 : upd H2 pd (.lst ((us2.map Cb.has0).reverse.map V.bl ++ [.bl b.has0])) fl = some (.lst ((zsF (f :: b :: us2)).reverse.map V.bl)) := by rw [upd_ne hpf.symm]; exact hf2
        have hp3 : upd H2 pd (.lst ((us2.map Cb.has0).reverse.map V.bl ++ [.bl b.has0])) pd = some (.lst ((us2.map Cb.has0).reverse.map V.bl ++ [.bl b.has0])) := upd_same
        generalize upd H2 pd (.lst ((us2.map Cb.has0).reverse.map V.bl ++ [.bl b.has0])) = H3 at *
        walk_at "go"
        have e4 := e3.mut hpd0 (o := .lst ((us2.map Cb.has0).reverse.map V.bl))
        have hf4 : upd H3 pd (.lst ((us2.map Cb.has0).reverse.map V.bl)) fl = some (.lst ((zsF (f :: b :: us2)).reverse.map V.bl)) := by rw [upd_ne hpf.symm]; exact hf3
        have hp4 : upd H3 pd (.lst ((us2.map Cb.has0).reverse.map V.bl)) pd = some (.lst ((us2.map Cb.has0).reverse.map V.bl)) := upd_same
        generalize upd H3 pd (.lst ((us2.map Cb.has0).reverse.map V.bl)) = H4 at *
        have hor : (Cb.app f b).has0 = (f.has0 || b.has0) := rfl
        have ez : zsF (.app f b :: us2) = (Cb.app f b).has0 :: zsF (f :: b :: us2) := by simp [zsF, Cb.zs]
        cases hb : b.has0 with
        | true =>
          walk_at "go"
          refine ⟨.app f b :: us2, _, _, _, rfl, (e4.mut hpd0).mut hfl, hws, ?_, ?_⟩
          · rw [upd_same, ez, hor, hb, Bool.or_true]
            simp
          · rw [upd_ne hpf, upd_same, List.map_cons, List.reverse_cons, hor, hb, Bool.or_true]
            simp
        | false =>
          walk_at "go"
          refine ⟨.app f b :: us2, _, _, _, rfl, (e4.mut hpd0).mut hfl, hws, ?_, ?_⟩
          · rw [upd_same, ez, hor, hb, Bool.or_false]
            simp
          · rw [upd_ne hpf, upd_same, List.map_cons, List.reverse_cons, hor, hb, Bool.or_false]
            simp
    · rintro σ H2 ⟨us, y3, y4, y5, rfl, e2, hus, hf2, hp2⟩
      have hus : ForC t 0 us := by simpa using hus
      rw [hus.last] at hf2
      walk_at "go"
      refine ⟨fl, _, rfl, SqL.of hf2, fun p hp => ?_⟩
      refine q _ p (e2.trans (Ex.new hp)) (fresh_back e2 hp) ?_
      rw [upd_same]
      simp [zsF]
end
end Ly
set_option Elab.async false
set_option linter.all false
set_option maxRecDepth 100000
set_option maxHeartbeats 8000000
namespace Ly
open PySem PySem.Spec PyProof.Rows L2 Evl
local macro_rules | `(tactic| walk_at "ne") => `(tactic| first
  | assumption
  | ((refine' Ne.symm ?hq); (case hq => assumption))
  | ((refine' ne_of_none ?nh1 ?nh2); (case nh2 => assumption); (case nh1 => walk_at "hp"))
  | ((refine' Ne.symm (ne_of_none ?nh1 ?nh2)); (case nh2 => assumption); (case nh1 => walk_at "hp")))
local macro_rules | `(tactic| walk_at "hp") => `(tactic| first
  | assumption
  | exact upd_same
  | ((refine' SqL.of ?hq); (case hq => walk_at "hp"))
  | ((refine' SqT.of ?hq); (case hq => walk_at "hp"))
  | ((refine' (upd_ne ?hne).trans ?hrest); (case hne => walk_at "ne"); (case hrest => walk_at "hp"))
  | ((refine' ly_at ?hex ?hh); (case hex => assumption); (case hh => walk_at "hp"))
  | ((refine' ly_atF ?hex ?hnn ?hh); (case hex => assumption); (case hh => walk_at "hp"); (case hnn => walk_at "ne"))
  | ((refine' ex_t ?hex ?hh); (case hh => assumption); (case hex => walk_at "ex"))
  | ((refine' ex_l ?hex ?hh); (case hh => assumption); (case hex => walk_at "ex")))
local macro_rules | `(tactic| walk_at "ex") => `(tactic| first
  | assumption
  | exact Ex.refl _
  | ((refine' ex_new ?xa ?xb); (case xb => assumption); (case xa => walk_at "ex"))
  | ((refine' ex_upd ?xa ?xb); (case xb => walk_at "free"); (case xa => walk_at "ex"))
  | ((refine' Ex.trans ?xa ?xb); (case xb => assumption); (case xa => walk_at "ex")))
local macro_rules | `(tactic| walk_at "free") => `(tactic| first
  | assumption
  | ((refine' fresh_back ?xa ?xb); (case xb => assumption); (case xa => walk_at "ex")))
local macro_rules | `(tactic| walk_at "fr") => `(tactic| first
  | assumption
  | exact Fr.refl _ _
  | ((refine' Fr.own ?hq); (case hq => walk_at "fr"))
  | ((refine' Fr.new ?xa ?xb); (case xb => assumption); (case xa => walk_at "fr"))
  | ((refine' Fr.mut ?xa ?xb); (case xb => assumption); (case xa => walk_at "fr"))
  | ((refine' Fr.trans ?xa ?xb); (case xb => assumption); (case xa => walk_at "fr"))
  | ((refine' Fr.trans ?xa (Fr.ex ?xb)); (case xb => assumption); (case xa => walk_at "fr")))
local macro_rules | `(tactic| walk_at "go1") => `(tactic| first
  | (with_reducible refine' w_seq ?_)
  | (with_reducible refine' w_asg ?_)
  | (with_reducible refine' w_ret ?_)
  | (with_reducible refine' w_drop ?_)
  | (with_reducible refine' w_if ?_)
  | (with_reducible refine' w_next ?_)
  | (with_reducible refine' w_name ?_)
  | (with_reducible refine' w_sub ?_)
  | ((with_reducible refine' w_var ?hv ?_); (case hv => exact rfl))
  | (with_reducible refine' w_c ?_)
  | (with_reducible refine' w_op ?_)
  | (with_reducible refine' w_un ?_)
  | (with_reducible refine' w_ch ?_)
  | (with_reducible refine' w_I0 ?_)
  | ((with_reducible refine' w_I ?hc ?_); (case hc => first | (exact ly_mulL (by decide) (by decide)) | (exact ly_mulR (by decide) (by decide)) | (exact ly_mulL (by omega) (by omega)) | (show (_ : Int) ≠ 0; decide) | (show (_ : Int) ≠ 0; omega) | (exact ⟨by decide, by decide⟩) | (exact ⟨by omega, by omega⟩)))
  | (with_reducible refine' w_U ?_)
  | ((with_reducible refine' w_eq ?hs ?_); (case hs => exact rfl))
  | ((with_reducible refine' w_ne ?hs ?_); (case hs => exact rfl))
  | (with_reducible refine' w_isB ?_)
  | (with_reducible refine' w_notB ?_)
  | (with_reducible refine' w_nil ?_)
  | (with_reducible refine' w_cons ?_)
  | (with_reducible refine' w_tup ?_)
  | (with_reducible refine' w_lst ?_)
  | (with_reducible refine' w_cb ?_)
  | (with_reducible refine' w_call ?_)
  | (with_reducible refine' w_bm ?_)
  | (with_reducible refine' w_bm0 ?_)
  | ((with_reducible refine' w_app ?hh ?hz ?_); (case hh => walk_at "hp"); (case hz => first | exact ly_lt (by omega) | exact ly_lt (by simp only [List.length_append, List.length_map, List.length_cons, List.length_nil]; omega)))
  | ((with_reducible refine' w_popA ?hh ?_); (case hh => walk_at "hp"))
  | ((with_reducible refine' w_ext ?hh ?hh2 ?hz ?_); (case hh => walk_at "hp"); (case hh2 => walk_at "hp"))
  | ((with_reducible refine' w_ixL ?hh ?ha ?_); (case hh => walk_at "hp"); (case ha => first | exact rfl | exact at_map (by omega) | exact atI_last _ _ | ((refine' at_of ?ae ?ah); (case ah => assumption); (case ae => omega))))
  | ((with_reducible refine' w_ixT ?hh ?ha ?_); (case hh => walk_at "hp"); (case ha => first | exact rfl | exact at_map (by omega) | exact atI_last _ _ | ((refine' at_of ?ae ?ah); (case ah => assumption); (case ae => omega))))
  | ((with_reducible refine' w_cat ?hh ?hh2 ?hz ?_); (case hh => walk_at "hp"); (case hh2 => walk_at "hp"))
  | ((with_reducible refine' w_setL ?hh ?ha ?_); (case hh => walk_at "hp"); (case ha => exact rfl))
  | (with_reducible refine' w_test ?_)
  | (with_reducible refine' w_tB ?_)
  | (with_reducible refine' w_bl ?_)
  | (with_reducible refine' w_and ?_)
  | (with_reducible refine' w_or ?_)
  | (with_reducible refine' w_not ?_)
  | (with_reducible refine' w_andV ?_)
  | (with_reducible refine' w_orV ?_)
  | (with_reducible refine' w_notV ?_)
  | (with_reducible refine' w_ifE ?_)
  | (with_reducible refine' w_for ?_)
  | ((with_reducible refine' w_nin ?hh ?_); (case hh => walk_at "hp"))
  | ((with_reducible refine' w_sorted ?hh ?_); (case hh => walk_at "hp"))
  | (with_reducible refine' w_tsadd ?_)
  | ((with_reducible refine' w_tsadd1 ?hh ?_); (case hh => walk_at "hp"))
  | ((with_reducible refine' w_sadd ?hh ?hr ?_); (case hh => walk_at "hp"); (case hr => omega))
  | (with_reducible refine' w_iZ ?_)
  | ((with_reducible refine' w_iZ1 ?hh ?hh2 ?_); (case hh => walk_at "hp"); (case hh2 => walk_at "hp"))
  | (with_reducible refine' w_iS ?_)
  | (with_reducible refine' w_iS1 ?_)
  | ((with_reducible refine' w_gtup ?hh ?hn ?_); (case hh => walk_at "hp"); (case hn => exact rfl))
  | (with_reducible refine' w_gcons ?_)
  | (with_reducible refine' w_gnil ?_)
  | (with_reducible refine' w_js ?_)
  | (with_reducible refine' w_jsn ?_)
  | ((with_reducible refine' w_js1 ?hl ?_); (case hl => decide +kernel))
  | (with_reducible refine' w_fmt ?_)
  | ((with_reducible refine' w_fmt1 ?hl ?_); (case hl => decide +kernel))
  | (with_reducible refine' w_callS ?_)
  | ((with_reducible refine' w_truL ?hh ?_); (case hh => walk_at "hp"))
  | (with_reducible refine' w_lc ?_)
  | (with_reducible refine' w_yes ?_)
  | ((with_reducible refine' w_wipe ?he ?_); (case he => exact rfl))
  | (with_reducible refine' w_iL ?_)
  | (with_reducible refine' w_iT ?_)
  | (with_reducible refine' w_iR ?_)
  | ((with_reducible refine' w_iL1 ?hh ?_); (case hh => walk_at "hp"))
  | ((with_reducible refine' w_iT1 ?hh ?_); (case hh => walk_at "hp"))
  | ((with_reducible refine' w_iR1 ?h1 ?h2 ?_); (case h1 => omega); (case h2 => omega))
  | ((with_reducible refine' w_aug ?hv ?_); (case hv => exact rfl))
  | (with_reducible refine' w_ipI ?_)
  | ((with_reducible refine' w_isi ?hy ?hk ?_); (case hy => walk_at "ty"); (case hk => walk_at "kit"))
  | ((with_reducible refine' w_int ?_))
  | ((with_reducible refine' w_intB ?_))
  | ((with_reducible refine' w_abs ?_))
  | ((with_reducible refine' w_lenL ?hh ?_); (case hh => walk_at "hp"))
  | ((with_reducible refine' w_lenT ?hh ?_); (case hh => walk_at "hp"))
  | ((with_reducible refine' w_tupL ?hh ?_); (case hh => walk_at "hp"))
  | ((with_reducible refine' w_tupT ?hh ?_); (case hh => walk_at "hp"))
  | ((with_reducible refine' w_catA ?hh ?hh2 ?hz ?_); (case hh => walk_at "hp"); (case hh2 => walk_at "hp"); (case hz => walk_at "len"))
  | ((with_reducible refine' w_repB ?hh ?hne ?h2 ?h3 ?hz ?_); (case hh => walk_at "hp"); (case hne => simp); (case h2 => omega); (case h3 => omega); (case hz => exact Nat.le_of_ble_eq_true rfl))
  | ((with_reducible refine' w_eqN ?hh ?hh2 ?n1 ?n2 ?_); (case hh => walk_at "hp"); (case hh2 => walk_at "hp"); (case n1 => walk_at "nd"); (case n2 => walk_at "nd"))
  | ((with_reducible refine' w_neN ?hh ?hh2 ?n1 ?n2 ?_); (case hh => walk_at "hp"); (case hh2 => walk_at "hp"); (case n1 => walk_at "nd"); (case n2 => walk_at "nd"))
  | ((with_reducible refine' w_eqL ?hh ?hh2 ?n1 ?n2 ?_); (case hh => walk_at "hp"); (case hh2 => walk_at "hp"); (case n1 => walk_at "nd"); (case n2 => walk_at "nd"))
  | ((with_reducible refine' w_neL ?hh ?hh2 ?n1 ?n2 ?_); (case hh => walk_at "hp"); (case hh2 => walk_at "hp"); (case n1 => walk_at "nd"); (case n2 => walk_at "nd"))
  | ((with_reducible refine' w_neNon ?hh2 ?n2 ?_); (case hh2 => walk_at "hp"); (case n2 => walk_at "nd"))
  | ((with_reducible refine' w_eqNon ?hh2 ?n2 ?_); (case hh2 => walk_at "hp"); (case n2 => walk_at "nd"))
  | ((with_reducible refine' w_slA ?hh ?_); (case hh => walk_at "hp"))
  | ((with_reducible refine' w_disp ?hz ?_); (case hz => exact sz_of (Nat.le_of_ble_eq_true rfl)))
  | ((with_reducible refine' w_tyL ?hh ?_); (case hh => walk_at "hp"))
  | (with_reducible refine' iteT ?_)
  | (with_reducible refine' iteF ?_)
  | (with_reducible refine' w_nT ?_)
  | (with_reducible refine' w_nn ?_)
  | (with_reducible refine' w_nnT ?_)
  | (with_reducible refine' w_nnR ?_)
  | (with_reducible refine' w_neG ?_)
  | (with_reducible refine' w_eqG ?_)
  | (with_reducible refine' w_neS ?_)
  | (with_reducible refine' w_eqS ?_)
  | (with_reducible refine' w_neSb ?_)
  | (with_reducible refine' w_eqSb ?_)
  | (with_reducible refine' w_deIS ?_)
  | (with_reducible refine' w_deSI ?_)
  | (with_reducible refine' w_deISn ?_)
  | ((with_reducible refine' w_deST ?he ?_); (case he => decide +kernel))
  | ((with_reducible refine' w_deSF ?he ?_); (case he => decide +kernel))
  | ((with_reducible refine' w_deSTn ?he ?_); (case he => decide +kernel))
  | ((with_reducible refine' w_deSFn ?he ?_); (case he => decide +kernel))
  | (with_reducible refine' w_nF ?_)
  | dsimp only [Bool.not_true, Bool.not_false])
local macro_rules | `(tactic| walk_at "ty") => `(tactic| first
  | exact .base (.int _) | exact .base (.str _) | exact .base (.bl _) | exact .base .non
  | ((refine' tyx_t ?hq); (case hq => walk_at "hp")) | ((refine' tyx_l ?hq); (case hq => walk_at "hp")) | ((refine' .base (.tup ?hq)); (case hq => walk_at "hp")) | assumption)
local macro_rules | `(tactic| walk_at "go") => `(tactic| repeat walk_at "go1")
local macro_rules | `(tactic| walk_at "st") => `(tactic| try dsimp only [cxOf, Cx.nox, Cx.wish])
local macro_rules | `(tactic| walk_at "kit") => `(tactic| with_reducible first | exact kit_int_int | exact kit_int_str | exact kit_int_bool | exact kit_int_tuple | exact kit_int_list | exact kit_str_int | exact kit_str_str | exact kit_str_bool | exact kit_str_tuple | exact kit_str_list | exact kit_bool_int | exact kit_bool_str | exact kit_bool_bool | exact kit_bool_tuple | exact kit_bool_list | exact kit_NoneType_int | exact kit_NoneType_str | exact kit_NoneType_bool | exact kit_NoneType_tuple | exact kit_NoneType_list | exact kit_list_int | exact kit_list_str | exact kit_list_bool | exact kit_list_tuple | exact kit_list_list | exact kit_tuple_int | exact kit_tuple_str | exact kit_tuple_bool | exact kit_tuple_tuple | exact kit_tuple_list)
local macro_rules | `(tactic| walk_at "nd") => `(tactic| first
  | assumption
  | exact Tm.nds _
  | exact Nds.nil
  | exact Nds.ofInts _
  | ((refine' Nds.cons ?na ?nb); (case na => first | exact Nds.I _ | exact Nds.L | exact Nds.A); (case nb => walk_at "nd"))
  | ((refine' Nds.app ?na ?nb); (case na => walk_at "nd"); (case nb => walk_at "nd"))
  | ((refine' Nds.rep ?na _); (case na => walk_at "nd")))
local macro_rules | `(tactic| walk_at "len") => `(tactic| first
  | exact ly_sz (by omega)
  | ((simp only [List.length_append, List.length_cons, List.length_nil, List.length_map, PyProof.Rows.lm_len_rep_flat]); exact ly_sz (by omega)))
local macro_rules | `(tactic| walk_at "go1") => `(tactic| first
  | (with_reducible refine' w_kget2 ?_)
  | (with_reducible refine' w_isRN ?_)
  | (with_reducible refine' w_isNN ?_)
  | (with_reducible refine' w_isIN ?_)
  | ((with_reducible refine' w_kg ?hd ?_); (case hd => assumption)))
local macro_rules | `(tactic| walk_at "go1") => `(tactic| first
  | ((with_reducible refine' w_extT ?hh ?hh2 ?hz ?_); (case hh => walk_at "hp"); (case hh2 => walk_at "hp"))
  | ((with_reducible refine' w_I ?hc ?_); (case hc => exact ⟨by decide, by decide, by decide⟩))
  | (with_reducible refine' w_sl ?_)
  | (with_reducible refine' w_noP ?_)
  | (with_reducible refine' w_part ?_)
  | (with_reducible refine' w_part1 ?_)
  | (with_reducible refine' w_it ?_)
  | (with_reducible refine' w_it1 ?_)
  | ((with_reducible refine' w_lenZ ?hz ?_); (case hz => omega))
  | ((with_reducible refine' w_addZb ?hz ?_); (case hz => omega))
  | ((with_reducible refine' w_addZf ?hz ?_); (case hz => omega))
  | ((with_reducible refine' w_addZa ?hz ?_); (case hz => omega))
  | ((with_reducible refine' w_inS ?hh ?_); (case hh => walk_at "hp"))
  | ((with_reducible refine' w_ixT ?hh ?ha ?_); (case hh => assumption); (case ha => exact atI_nat (by assumption))))
local macro_rules | `(tactic| walk_at "go1") => `(tactic| first
  | (with_reducible refine' w_iR2 ?_)
  | ((with_reducible refine' w_iR21 ?h1 ?h2 ?h3 ?h4 ?_); (case h1 => omega); (case h2 => omega); (case h3 => omega); (case h4 => omega))
  | (with_reducible refine' w_nnI ?_)
  | (with_reducible refine' w_max ?_)
  | (with_reducible refine' w_break ?_)
  | (with_reducible refine' w_cont ?_))
section
variable {P : Program} {w : World} {K : PySem.W.Frag} {mg : Str → Option Value} {base : Heap} {tk : Nat → Tok} {cl : Nat → Addr}
theorem cutI {xs : List V} {i k : Nat} : cutV xs (some (i : Int)) (some ((i : Int) + (k : Int))) = (xs.drop i).take k := by
  have e : (i : Int) + (k : Int) = ((i + k : Nat) : Int) := by omega
  unfold cutV
  rw [e, HT.sIx_nat, HT.sIx_nat]
  by_cases h : i ≤ xs.length
  · rw [Nat.min_eq_left h]
    by_cases h2 : i + k ≤ xs.length
    · rw [Nat.min_eq_left h2]
      congr 1
      omega
    · rw [Nat.min_eq_right (by omega), List.take_of_length_le (by simp), List.take_of_length_le (by simp; omega)]
  · rw [Nat.min_eq_right (show xs.length ≤ i by omega), List.drop_length, List.drop_of_length_le (show xs.length ≤ i by omega)]
    simp
theorem cut_midV {xs ys post : List V} {i : Nat} (h : xs.drop i = ys ++ post) : cutV xs (some (i : Int)) (some ((i + ys.length : Nat) : Int)) = ys := by
  have e : ((i + ys.length : Nat) : Int) = (i : Int) + (ys.length : Int) := by omega
  rw [e, cutI, h, List.take_left]

theorem sqt_updL9 {H : Hp} {l b : Addr} {xs zs ys : List V} (hl : H l = some (.lst xs)) (h : SqT K H b ys) : SqT K (upd H l (.lst zs)) b ys := fr_t (s := l) (fun c o h1 h2 => by rw [upd_ne h1]; exact h2) hl h
def absF (us : List Cb) : List V := (us.map fun u => u.abs.enc).flatten
theorem absF_cons (u : Cb) (us : List Cb) : absF (u :: us) = u.abs.enc ++ absF us := by simp [absF]
theorem absF_len : ∀ us : List Cb, (absF us).length ≤ 3 * (cencs us).length
  | [] => by simp [absF]
  | u :: us => by
    have h1 := absF_len us
    have h2 := u.abs_len.2
    rw [absF_cons, cencs_cons, List.length_append, List.length_append]
    omega
def spAbs (K : PySem.W.Frag) (C : Addr) : Sp := fun vs H Q E => ∃ (a : Addr) (t : Cb) (w : Nat), vs = [.ref a] ∧ SqT K H a t.enc ∧ t.enc.length ≤ 3000 ∧ t.lt w ∧ w ≤ 1000000 ∧
  (t.abs.enc.length ≤ 1000 → ∀ H' p, Ex H H' → SqT K H' p t.abs.enc → Q (.ref p) H') ∧ (1000 < t.abs.enc.length → ∀ H', Ex H H' → E (.ref C) none H')
theorem ok_abstracted {f : Addr} {fd : FuncData} (F : Fun K "abstracted" "abstracted" s_abstracted f fd) (T : Txt w K mg tk cl)
    (D1 : Def P w K mg base CX0 1 "parts_with_zero" ["combination"] (spZero K)) (D2 : Def P w K mg base CX0 2 "end_of" ["term", "start"] (spCEnd K)) (D3 : Def P w K mg base CX0 1 "decreased" ["combination"] (spDecr K))
    (D4 : Def P w K mg base (L2.CX P w) 2 "checked" ["term"] (spChecked K (cl 1))) : FnOk P w K mg base (L2.CX P w) 4 f fd ["combination"] (spAbs K (cl 1)) := by
  obtain ⟨f1, fd1, g_parts_with_zero, kp_parts_with_zero, b_parts_with_zero, G_parts_with_zero⟩ := D1
  obtain ⟨f2, fd2, g_end_of, kp_end_of, b_end_of, G_end_of⟩ := D2
  obtain ⟨f3, fd3, g_decreased, kp_decreased, b_decreased, G_decreased⟩ := D3
  obtain ⟨f4, fd4, g_checked, kp_checked, b_checked, G_checked⟩ := D4
  refine F.okX sc_abstracted (fun vs H Q E h => ?_) (fun cdv A outer s H vs Q E hr h => ?_)
  · obtain ⟨a, t, wd, rfl, _⟩ := h
    rfl
  · obtain ⟨a, t, wd, rfl, hS, hlen, hlt, hwd, good, large⟩ := h
    refine ⟨_, (pss_cons (ps_set (i := 1) sc_abstracted.nd rfl (.inl rfl) (pe_call G_parts_with_zero (hr.mono (by first | decide | omega)) (by rfl) g_parts_with_zero kp_parts_with_zero b_parts_with_zero .nil pass0 (pa_cons (pv 0) pa_nil))) (pss_cons (ps_set (i := 2) sc_abstracted.nd rfl (.inl rfl) (pe_lst pa_nil)) (pss_cons (ps_set (i := 3) sc_abstracted.nd rfl (.inl rfl) pe_int) (pss_cons (ps_while (passes_of rfl) (pt_cmpR op_lt (pv 3) (pe_callB call_len_seq (by rfl) T.n_len (by decide +kernel) (pa_cons (pv 0) pa_nil)) (nomark _)) (pss_cons (ps_set (i := 4) sc_abstracted.nd rfl (.inl rfl) (pe_op op_add (pv 3) pe_int)) (pss_cons (ps_if (pt_not (pt_val (pe_ix ix_list (pv 1) (pv 3) (fun _ _ => rfl)))) (pss_cons (ps_set (i := 4) sc_abstracted.nd rfl (.inl rfl) (pe_call G_end_of (hr.mono (by first | decide | omega)) (by rfl) g_end_of kp_end_of b_end_of .nil pass0 (pa_cons (pv 0) (pa_cons (pv 3) pa_nil)))) (pss_cons (ps_expr (pe_bm PySem.F.plainAttrs_list PySem.F.slot_list_extend PySem.F.type_list_extend mt_extend (pv 2) (pa_cons (pe_lst (pa_cons pe_str (pa_cons pe_str pa_nil))) pa_nil))) (pss_one (ps_expr (pe_bm PySem.F.plainAttrs_list PySem.F.slot_list_extend PySem.F.type_list_extend mt_extend (pv 2) (pa_cons (pe_call G_decreased (hr.mono (by first | decide | omega)) (by rfl) g_decreased kp_decreased b_decreased .nil pass0 (pa_cons (pe_slice sl_tupA (pv 0) (po_some (pv 3)) (po_some (pv 4))) pa_nil)) pa_nil)))))) (pss_one (ps_if (pt_cmpR op_eq (pe_ix ix_tup (pv 0) (pv 3) (fun _ _ => rfl)) pe_int (nomark _)) (pss_one (ps_expr (pe_bm PySem.F.plainAttrs_list PySem.F.slot_list_append PySem.F.type_list_append mt_append (pv 2) (pa_cons pe_str pa_nil)))) (pss_one (ps_expr (pe_bm PySem.F.plainAttrs_list PySem.F.slot_list_extend PySem.F.type_list_extend mt_extend (pv 2) (pa_cons (pe_lst (pa_cons pe_str (pa_cons pe_str (pa_cons pe_str pa_nil)))) pa_nil))))))) (pss_one (ps_set (i := 3) sc_abstracted.nd rfl (.inl rfl) (pv 4)))))) (pss_one (ps_ret (pe_call G_checked (hr.mono (by first | decide | omega)) (by rfl) g_checked kp_checked b_checked .nil (passes_call (takes_of rfl rfl rfl rfl) (fun _ _ _ _ h => h)) (pa_cons (pe_callTy call_tuple_of (by rfl) T.n_tuple (by decide +kernel) (pa_cons (pv 2) pa_nil)) pa_nil)))))))), ?_⟩
    refine sl_of (σ2 := [some _, none, none, none, none]) rfl ?_
    walk_at "st"
    walk_at "go"
    refine ⟨a, t, rfl, hS, by omega, fun H1 zl e1 hzl hz1 => ?_⟩
    walk_at "go"
    intro nl hnl
    have hnl0 : H nl = none := fresh_back e1 hnl
    have hzn : zl ≠ nl := ne_of_none hz1 hnl
    have e2 := ex_new e1 hnl (o := .lst [])
    have hz2 : upd H1 nl (.lst []) zl = some (.lst (t.zs.map V.bl)) := by rw [upd_ne hzn]; exact hz1
    have hn2 : upd H1 nl (.lst []) nl = some (.lst []) := upd_same
    generalize upd H1 nl (.lst []) = H2 at *
    clear hz1 hnl
    walk_at "go"
    refine w_while (fun k σ H' => ∃ (at1 : Nat) (us : List Cb) (nodes : List V) (y4 : Option V), σ = [some (.ref a), some (.ref zl), some (.ref nl), some (.int (at1 : Int)), y4] ∧ Ex H H' ∧ H' zl = some (.lst (t.zs.map V.bl)) ∧ H' nl = some (.lst nodes) ∧ t.enc.drop at1 = cencs us ∧ t.zs.drop at1 = zsF us ∧ t.abs.enc = nodes ++ absF us ∧ at1 ≤ t.enc.length ∧ k = t.enc.length - at1) t.enc.length
      ⟨0, [t], [], none, rfl, e2, hz2, hn2, by simp [cencs], by simp [zsF], by simp [absF], Nat.zero_le _, rfl⟩ ?_
    rintro k σ H3 ⟨at1, us, nodes, y4, rfl, e3, hz3, hn3, hdr, hzd, habs, hat, rfl⟩
    have hS3 := ex_t e3 hS
    have tal := t.abs_len.2
    have nln : nodes.length ≤ 9000 := by
      have := congrArg List.length habs
      rw [List.length_append] at this
      omega
    have hdl := congrArg List.length hdr
    rw [List.length_drop] at hdl
    walk_at "go"
    refine w_br (fun c1 => ?_) (fun c1 => ?_)
    · cases us with
      | nil =>
        simp [cencs] at hdl
        omega
      | cons p ps =>
        have hpp := p.pos
        rw [cencs_cons] at hdr
        rw [zsF_cons] at hzd
        rw [absF_cons] at habs
        rw [cencs_cons, List.length_append] at hdl
        refine ⟨fun σ' H' => ∃ (at2 : Nat) (us : List Cb) (nodes : List V) (y4 : Option V), σ' = [some (.ref a), some (.ref zl), some (.ref nl), some (.int (at2 : Int)), y4] ∧ Ex H H' ∧ H' zl = some (.lst (t.zs.map V.bl)) ∧ H' nl = some (.lst nodes) ∧ t.enc.drop at2 = cencs us ∧ t.zs.drop at2 = zsF us ∧ t.abs.enc = nodes ++ absF us ∧ at2 ≤ t.enc.length ∧ at1 < at2,
          fun σ' H' ⟨at2, us, nodes, y4, h1, h2, h3, h4, h5, h6, h7, h8, h9⟩ => ⟨t.enc.length - at2, by omega, at2, us, nodes, y4, h1, h2, h3, h4, h5, h6, h7, h8, rfl⟩, ?_⟩
        have hz0 : ∃ r, p.zs = p.has0 :: r := by cases p <;> exact ⟨_, rfl⟩
        obtain ⟨zr, hzr⟩ := hz0
        have hzat : (t.zs.map V.bl)[at1]? = some (.bl p.has0) := by
          rw [hzr] at hzd
          have e : (t.zs.drop at1)[0]? = some p.has0 := by rw [hzd]; rfl
          rw [List.getElem?_drop, Nat.add_zero] at e
          rw [List.getElem?_map, e]
          rfl
        have skip : t.enc.drop (at1 + p.enc.length) = cencs ps ∧ t.zs.drop (at1 + p.enc.length) = zsF ps := by
          constructor
          · rw [← List.drop_drop, hdr, List.drop_left]
          · rw [← List.drop_drop, hzd, ← p.zs_len, List.drop_left]
        walk_at "go"
        cases hb : p.has0 with
        | false =>
          rw [hb] at hzat
          have pab := Cb.abs_no hb
          have pdl := p.dec_len
          have pde := Cb.dec_enc hb
          have hpa : p.abs.enc = [V.str "app", V.str "K"] ++ p.enc.map dcN := by rw [pab, ← pde]; rfl
          walk_at "go"
          refine ⟨a, t.enc, at1, p, _, rfl, hS3, hdr, by omega, ?_⟩
          walk_at "go"
          intro kl hkl
          have hkn : kl ≠ nl := (ne_of_none hn3 hkl).symm
          have e4 := ex_new e3 hkl (o := .lst [V.str "app", V.str "K"])
          have hk4 : upd H3 kl (.lst [V.str "app", V.str "K"]) kl = some (.lst [V.str "app", V.str "K"]) := upd_same
          have hn4 : upd H3 kl (.lst [V.str "app", V.str "K"]) nl = some (.lst nodes) := by rw [upd_ne hkn.symm]; exact hn3
          have hz4 : upd H3 kl (.lst [V.str "app", V.str "K"]) zl = some (.lst (t.zs.map V.bl)) := by rw [upd_ne (ne_of_none hz3 hkl)]; exact hz3
          generalize upd H3 kl (.lst [V.str "app", V.str "K"]) = H4 at *
          walk_at "go"
          · exact ly_sz (by simp; omega)
          have e5 := ex_upd e4 hnl0 (o := .lst (nodes ++ [V.str "app", V.str "K"]))
          have hn5 : upd H4 nl (.lst (nodes ++ [V.str "app", V.str "K"])) nl = some (.lst (nodes ++ [V.str "app", V.str "K"])) := upd_same
          have hz5 : upd H4 nl (.lst (nodes ++ [V.str "app", V.str "K"])) zl = some (.lst (t.zs.map V.bl)) := by rw [upd_ne hzn]; exact hz4
          generalize upd H4 nl (.lst (nodes ++ [V.str "app", V.str "K"])) = H5 at *
          have hS5 := ex_t e5 hS
          walk_at "go"
          intro x6 H6 e6 hx6
          rw [cut_midV hdr] at hx6
          have hn6 := e6 _ _ hn5
          have hz6 := e6 _ _ hz5
          walk_at "go"
          refine ⟨x6, p.enc, rfl, hx6, p.flat, by omega, fun H7 dl e7 hdl7 hd7 => ?_⟩
          have hn7 := e7 _ _ hn6
          have hz7 := e7 _ _ hz6
          have e07 := e5.trans (e6.trans e7)
          walk_at "go"
          · exact ly_sz (by simp; omega)
          walk_at "go"
          refine ⟨at1 + p.enc.length, ps, nodes ++ p.abs.enc, _, rfl, ex_upd e07 hnl0, by rw [upd_ne hzn]; exact hz7, ?_, skip.1, skip.2, by rw [habs, List.append_assoc], by omega, by omega⟩
          rw [upd_same, hpa, List.append_assoc]
        | true =>
          rw [hb] at hzat
          walk_at "go"
          cases p with
          | S => cases hb
          | K => cases hb
          | I => cases hb
          | var n =>
            have hn0 : n = 0 := by simpa [Cb.has0] using hb
            subst hn0
            have hx : t.enc[at1]? = some (.int ((0 : Nat) : Int)) := (drop_get (i := at1) (v := .int ((0 : Nat) : Int)) (r := cencs ps) (by rw [hdr]; rfl)).1
            walk_at "go"
            refine w_brI (fun _ => ?_) (fun z => absurd rfl z)
            walk_at "go"
            refine ⟨at1 + 1, ps, nodes ++ [V.str "I"], _, rfl, ex_upd e3 hnl0, by rw [upd_ne hzn]; exact hz3, upd_same, skip.1, skip.2, by rw [habs]; simp [Cb.abs, Cb.enc], by omega, by omega⟩
          | app f b =>
            have hx : t.enc[at1]? = some (.str "app") := (drop_get (i := at1) (v := .str "app") (r := f.enc ++ b.enc ++ cencs ps) (by rw [hdr]; rfl)).1
            have hx2 : t.enc.drop (at1 + 1) = f.enc ++ b.enc ++ cencs ps := (drop_get (i := at1) (v := .str "app") (r := f.enc ++ b.enc ++ cencs ps) (by rw [hdr]; rfl)).2
            have hz2b : t.zs.drop (at1 + 1) = f.zs ++ b.zs ++ zsF ps := by
              rw [← List.drop_drop, hzd]
              simp [Cb.zs]
            walk_at "go"
            intro kl hkl
            have hkn : kl ≠ nl := (ne_of_none hn3 hkl).symm
            have e4 := ex_new e3 hkl (o := .lst [V.str "app", V.str "app", V.str "S"])
            have hk4 : upd H3 kl (.lst [V.str "app", V.str "app", V.str "S"]) kl = some (.lst [V.str "app", V.str "app", V.str "S"]) := upd_same
            have hn4 : upd H3 kl (.lst [V.str "app", V.str "app", V.str "S"]) nl = some (.lst nodes) := by rw [upd_ne hkn.symm]; exact hn3
            have hz4 : upd H3 kl (.lst [V.str "app", V.str "app", V.str "S"]) zl = some (.lst (t.zs.map V.bl)) := by rw [upd_ne (ne_of_none hz3 hkl)]; exact hz3
            generalize upd H3 kl (.lst [V.str "app", V.str "app", V.str "S"]) = H4 at *
            walk_at "go"
            · exact ly_sz (by simp; omega)
            walk_at "go"
            refine ⟨at1 + 1, f :: b :: ps, nodes ++ [V.str "app", V.str "app", V.str "S"], _, rfl, ex_upd e4 hnl0, by rw [upd_ne hzn]; exact hz4, upd_same, by rw [hx2, cencs_cons, cencs_cons, List.append_assoc], by rw [hz2b, zsF_cons, zsF_cons, List.append_assoc], ?_, by omega, by omega⟩
            rw [habs, absF_cons, absF_cons, Cb.abs_app hb]
            simp [Cb.enc]
    · have hus : us = [] := cencs_nil (List.length_eq_zero_iff.mp (by omega))
      subst hus
      have habs : t.abs.enc = nodes := by rw [habs]; simp [absF]
      subst habs
      walk_at "go"
      intro p hp
      have hfit := Cb.fits_lt (Cb.abs_lt hlt) hwd
      have e4 := ex_new e3 hp (o := .tup t.abs.enc)
      refine ⟨p, t.abs.enc, rfl, SqT.of upd_same, t.abs.flat, fun z => ?_, fun z => ?_⟩
      · rw [hfit] at z
        exact good (of_decide_eq_true z) _ p e4 (SqT.of upd_same)
      · rw [hfit] at z
        have := of_decide_eq_false z
        exact large (by omega) _ e4
end
end Ly
set_option Elab.async false
set_option linter.all false
set_option maxRecDepth 100000
set_option maxHeartbeats 8000000
namespace Ly
open PySem PySem.Spec PyProof.Rows L2 Evl
local macro_rules | `(tactic| walk_at "ne") => `(tactic| first
  | assumption
  | ((refine' Ne.symm ?hq); (case hq => assumption))
  | ((refine' ne_of_none ?nh1 ?nh2); (case nh2 => assumption); (case nh1 => walk_at "hp"))
  | ((refine' Ne.symm (ne_of_none ?nh1 ?nh2)); (case nh2 => assumption); (case nh1 => walk_at "hp")))
local macro_rules | `(tactic| walk_at "hp") => `(tactic| first
  | assumption
  | exact upd_same
  | ((refine' SqL.of ?hq); (case hq => walk_at "hp"))
  | ((refine' SqT.of ?hq); (case hq => walk_at "hp"))
  | ((refine' (upd_ne ?hne).trans ?hrest); (case hne => walk_at "ne"); (case hrest => walk_at "hp"))
  | ((refine' ly_at ?hex ?hh); (case hex => assumption); (case hh => walk_at "hp"))
  | ((refine' ly_atF ?hex ?hnn ?hh); (case hex => assumption); (case hh => walk_at "hp"); (case hnn => walk_at "ne"))
  | ((refine' ex_t ?hex ?hh); (case hh => assumption); (case hex => walk_at "ex"))
  | ((refine' ex_l ?hex ?hh); (case hh => assumption); (case hex => walk_at "ex")))
local macro_rules | `(tactic| walk_at "ex") => `(tactic| first
  | assumption
  | exact Ex.refl _
  | ((refine' ex_new ?xa ?xb); (case xb => assumption); (case xa => walk_at "ex"))
  | ((refine' ex_upd ?xa ?xb); (case xb => walk_at "free"); (case xa => walk_at "ex"))
  | ((refine' Ex.trans ?xa ?xb); (case xb => assumption); (case xa => walk_at "ex")))
local macro_rules | `(tactic| walk_at "free") => `(tactic| first
  | assumption
  | ((refine' fresh_back ?xa ?xb); (case xb => assumption); (case xa => walk_at "ex")))
local macro_rules | `(tactic| walk_at "fr") => `(tactic| first
  | assumption
  | exact Fr.refl _ _
  | ((refine' Fr.own ?hq); (case hq => walk_at "fr"))
  | ((refine' Fr.new ?xa ?xb); (case xb => assumption); (case xa => walk_at "fr"))
  | ((refine' Fr.mut ?xa ?xb); (case xb => assumption); (case xa => walk_at "fr"))
  | ((refine' Fr.trans ?xa ?xb); (case xb => assumption); (case xa => walk_at "fr"))
  | ((refine' Fr.trans ?xa (Fr.ex ?xb)); (case xb => assumption); (case xa => walk_at "fr")))
local macro_rules | `(tactic| walk_at "go1") => `(tactic| first
  | (with_reducible refine' w_seq ?_)
  | (with_reducible refine' w_asg ?_)
  | (with_reducible refine' w_ret ?_)
  | (with_reducible refine' w_drop ?_)
  | (with_reducible refine' w_if ?_)
  | (with_reducible refine' w_next ?_)
  | (with_reducible refine' w_name ?_)
  | (with_reducible refine' w_sub ?_)
  | ((with_reducible refine' w_var ?hv ?_); (case hv => exact rfl))
  | (with_reducible refine' w_c ?_)
  | (with_reducible refine' w_op ?_)
  | (with_reducible refine' w_un ?_)
  | (with_reducible refine' w_ch ?_)
  | (with_reducible refine' w_I0 ?_)
  | ((with_reducible refine' w_I ?hc ?_); (case hc => first | (exact ly_mulL (by decide) (by decide)) | (exact ly_mulR (by decide) (by decide)) | (exact ly_mulL (by omega) (by omega)) | (show (_ : Int) ≠ 0; decide) | (show (_ : Int) ≠ 0; omega) | (exact ⟨by decide, by decide⟩) | (exact ⟨by omega, by omega⟩)))
  | (with_reducible refine' w_U ?_)
  | ((with_reducible refine' w_eq ?hs ?_); (case hs => exact rfl))
  | ((with_reducible refine' w_ne ?hs ?_); (case hs => exact rfl))
  | (with_reducible refine' w_isB ?_)
  | (with_reducible refine' w_notB ?_)
  | (with_reducible refine' w_nil ?_)
  | (with_reducible refine' w_cons ?_)
  | (with_reducible refine' w_tup ?_)
  | (with_reducible refine' w_lst ?_)
  | (with_reducible refine' w_cb ?_)
  | (with_reducible refine' w_call ?_)
  | (with_reducible refine' w_bm ?_)
  | (with_reducible refine' w_bm0 ?_)
  | ((with_reducible refine' w_app ?hh ?hz ?_); (case hh => walk_at "hp"); (case hz => first | exact ly_lt (by omega) | exact ly_lt (by simp only [List.length_append, List.length_map, List.length_cons, List.length_nil]; omega)))
  | ((with_reducible refine' w_popA ?hh ?_); (case hh => walk_at "hp"))
  | ((with_reducible refine' w_ext ?hh ?hh2 ?hz ?_); (case hh => walk_at "hp"); (case hh2 => walk_at "hp"))
  | ((with_reducible refine' w_ixL ?hh ?ha ?_); (case hh => walk_at "hp"); (case ha => first | exact rfl | exact at_map (by omega) | exact atI_last _ _ | ((refine' at_of ?ae ?ah); (case ah => assumption); (case ae => omega))))
  | ((with_reducible refine' w_ixT ?hh ?ha ?_); (case hh => walk_at "hp"); (case ha => first | exact rfl | exact at_map (by omega) | exact atI_last _ _ | ((refine' at_of ?ae ?ah); (case ah => assumption); (case ae => omega))))
  | ((with_reducible refine' w_cat ?hh ?hh2 ?hz ?_); (case hh => walk_at "hp"); (case hh2 => walk_at "hp"))
  | ((with_reducible refine' w_setL ?hh ?ha ?_); (case hh => walk_at "hp"); (case ha => exact rfl))
  | (with_reducible refine' w_test ?_)
  | (with_reducible refine' w_tB ?_)
  | (with_reducible refine' w_bl ?_)
  | (with_reducible refine' w_and ?_)
  | (with_reducible refine' w_or ?_)
  | (with_reducible refine' w_not ?_)
  | (with_reducible refine' w_andV ?_)
  | (with_reducible refine' w_orV ?_)
  | (with_reducible refine' w_notV ?_)
  | (with_reducible refine' w_ifE ?_)
  | (with_reducible refine' w_for ?_)
  | ((with_reducible refine' w_nin ?hh ?_); (case hh => walk_at "hp"))
  | ((with_reducible refine' w_sorted ?hh ?_); (case hh => walk_at "hp"))
  | (with_reducible refine' w_tsadd ?_)
  | ((with_reducible refine' w_tsadd1 ?hh ?_); (case hh => walk_at "hp"))
  | ((with_reducible refine' w_sadd ?hh ?hr ?_); (case hh => walk_at "hp"); (case hr => omega))
  | (with_reducible refine' w_iZ ?_)
  | ((with_reducible refine' w_iZ1 ?hh ?hh2 ?_); (case hh => walk_at "hp"); (case hh2 => walk_at "hp"))
  | (with_reducible refine' w_iS ?_)
  | (with_reducible refine' w_iS1 ?_)
  | ((with_reducible refine' w_gtup ?hh ?hn ?_); (case hh => walk_at "hp"); (case hn => exact rfl))
  | (with_reducible refine' w_gcons ?_)
  | (with_reducible refine' w_gnil ?_)
  | (with_reducible refine' w_js ?_)
  | (with_reducible refine' w_jsn ?_)
  | ((with_reducible refine' w_js1 ?hl ?_); (case hl => decide +kernel))
  | (with_reducible refine' w_fmt ?_)
  | ((with_reducible refine' w_fmt1 ?hl ?_); (case hl => decide +kernel))
  | (with_reducible refine' w_callS ?_)
  | ((with_reducible refine' w_truL ?hh ?_); (case hh => walk_at "hp"))
  | (with_reducible refine' w_lc ?_)
  | (with_reducible refine' w_yes ?_)
  | ((with_reducible refine' w_wipe ?he ?_); (case he => exact rfl))
  | (with_reducible refine' w_iL ?_)
  | (with_reducible refine' w_iT ?_)
  | (with_reducible refine' w_iR ?_)
  | ((with_reducible refine' w_iL1 ?hh ?_); (case hh => walk_at "hp"))
  | ((with_reducible refine' w_iT1 ?hh ?_); (case hh => walk_at "hp"))
  | ((with_reducible refine' w_iR1 ?h1 ?h2 ?_); (case h1 => omega); (case h2 => omega))
  | ((with_reducible refine' w_aug ?hv ?_); (case hv => exact rfl))
  | (with_reducible refine' w_ipI ?_)
  | ((with_reducible refine' w_isi ?hy ?hk ?_); (case hy => walk_at "ty"); (case hk => walk_at "kit"))
  | ((with_reducible refine' w_int ?_))
  | ((with_reducible refine' w_intB ?_))
  | ((with_reducible refine' w_abs ?_))
  | ((with_reducible refine' w_lenL ?hh ?_); (case hh => walk_at "hp"))
  | ((with_reducible refine' w_lenT ?hh ?_); (case hh => walk_at "hp"))
  | ((with_reducible refine' w_tupL ?hh ?_); (case hh => walk_at "hp"))
  | ((with_reducible refine' w_tupT ?hh ?_); (case hh => walk_at "hp"))
  | ((with_reducible refine' w_catA ?hh ?hh2 ?hz ?_); (case hh => walk_at "hp"); (case hh2 => walk_at "hp"); (case hz => walk_at "len"))
  | ((with_reducible refine' w_repB ?hh ?hne ?h2 ?h3 ?hz ?_); (case hh => walk_at "hp"); (case hne => simp); (case h2 => omega); (case h3 => omega); (case hz => exact Nat.le_of_ble_eq_true rfl))
  | ((with_reducible refine' w_eqN ?hh ?hh2 ?n1 ?n2 ?_); (case hh => walk_at "hp"); (case hh2 => walk_at "hp"); (case n1 => walk_at "nd"); (case n2 => walk_at "nd"))
  | ((with_reducible refine' w_neN ?hh ?hh2 ?n1 ?n2 ?_); (case hh => walk_at "hp"); (case hh2 => walk_at "hp"); (case n1 => walk_at "nd"); (case n2 => walk_at "nd"))
  | ((with_reducible refine' w_eqL ?hh ?hh2 ?n1 ?n2 ?_); (case hh => walk_at "hp"); (case hh2 => walk_at "hp"); (case n1 => walk_at "nd"); (case n2 => walk_at "nd"))
  | ((with_reducible refine' w_neL ?hh ?hh2 ?n1 ?n2 ?_); (case hh => walk_at "hp"); (case hh2 => walk_at "hp"); (case n1 => walk_at "nd"); (case n2 => walk_at "nd"))
  | ((with_reducible refine' w_neNon ?hh2 ?n2 ?_); (case hh2 => walk_at "hp"); (case n2 => walk_at "nd"))
  | ((with_reducible refine' w_eqNon ?hh2 ?n2 ?_); (case hh2 => walk_at "hp"); (case n2 => walk_at "nd"))
  | ((with_reducible refine' w_slA ?hh ?_); (case hh => walk_at "hp"))
  | ((with_reducible refine' w_disp ?hz ?_); (case hz => exact sz_of (Nat.le_of_ble_eq_true rfl)))
  | ((with_reducible refine' w_tyL ?hh ?_); (case hh => walk_at "hp"))
  | (with_reducible refine' iteT ?_)
  | (with_reducible refine' iteF ?_)
  | (with_reducible refine' w_nT ?_)
  | (with_reducible refine' w_nn ?_)
  | (with_reducible refine' w_nnT ?_)
  | (with_reducible refine' w_nnR ?_)
  | (with_reducible refine' w_neG ?_)
  | (with_reducible refine' w_eqG ?_)
  | (with_reducible refine' w_neS ?_)
  | (with_reducible refine' w_eqS ?_)
  | (with_reducible refine' w_neSb ?_)
  | (with_reducible refine' w_eqSb ?_)
  | (with_reducible refine' w_deIS ?_)
  | (with_reducible refine' w_deSI ?_)
  | (with_reducible refine' w_deISn ?_)
  | ((with_reducible refine' w_deST ?he ?_); (case he => decide +kernel))
  | ((with_reducible refine' w_deSF ?he ?_); (case he => decide +kernel))
  | ((with_reducible refine' w_deSTn ?he ?_); (case he => decide +kernel))
  | ((with_reducible refine' w_deSFn ?he ?_); (case he => decide +kernel))
  | (with_reducible refine' w_nF ?_)
  | dsimp only [Bool.not_true, Bool.not_false])
local macro_rules | `(tactic| walk_at "ty") => `(tactic| first
  | exact .base (.int _) | exact .base (.str _) | exact .base (.bl _) | exact .base .non
  | ((refine' tyx_t ?hq); (case hq => walk_at "hp")) | ((refine' tyx_l ?hq); (case hq => walk_at "hp")) | ((refine' .base (.tup ?hq)); (case hq => walk_at "hp")) | assumption)
local macro_rules | `(tactic| walk_at "go") => `(tactic| repeat walk_at "go1")
local macro_rules | `(tactic| walk_at "st") => `(tactic| try dsimp only [cxOf, Cx.nox, Cx.wish])
local macro_rules | `(tactic| walk_at "kit") => `(tactic| with_reducible first | exact kit_int_int | exact kit_int_str | exact kit_int_bool | exact kit_int_tuple | exact kit_int_list | exact kit_str_int | exact kit_str_str | exact kit_str_bool | exact kit_str_tuple | exact kit_str_list | exact kit_bool_int | exact kit_bool_str | exact kit_bool_bool | exact kit_bool_tuple | exact kit_bool_list | exact kit_NoneType_int | exact kit_NoneType_str | exact kit_NoneType_bool | exact kit_NoneType_tuple | exact kit_NoneType_list | exact kit_list_int | exact kit_list_str | exact kit_list_bool | exact kit_list_tuple | exact kit_list_list | exact kit_tuple_int | exact kit_tuple_str | exact kit_tuple_bool | exact kit_tuple_tuple | exact kit_tuple_list)
local macro_rules | `(tactic| walk_at "nd") => `(tactic| first
  | assumption
  | exact Tm.nds _
  | exact Nds.nil
  | exact Nds.ofInts _
  | ((refine' Nds.cons ?na ?nb); (case na => first | exact Nds.I _ | exact Nds.L | exact Nds.A); (case nb => walk_at "nd"))
  | ((refine' Nds.app ?na ?nb); (case na => walk_at "nd"); (case nb => walk_at "nd"))
  | ((refine' Nds.rep ?na _); (case na => walk_at "nd")))
local macro_rules | `(tactic| walk_at "len") => `(tactic| first
  | exact ly_sz (by omega)
  | ((simp only [List.length_append, List.length_cons, List.length_nil, List.length_map, PyProof.Rows.lm_len_rep_flat]); exact ly_sz (by omega)))
local macro_rules | `(tactic| walk_at "go1") => `(tactic| first
  | (with_reducible refine' w_kget2 ?_)
  | (with_reducible refine' w_isRN ?_)
  | (with_reducible refine' w_isNN ?_)
  | (with_reducible refine' w_isIN ?_)
  | ((with_reducible refine' w_kg ?hd ?_); (case hd => assumption)))
local macro_rules | `(tactic| walk_at "go1") => `(tactic| first
  | ((with_reducible refine' w_extT ?hh ?hh2 ?hz ?_); (case hh => walk_at "hp"); (case hh2 => walk_at "hp"))
  | ((with_reducible refine' w_I ?hc ?_); (case hc => exact ⟨by decide, by decide, by decide⟩))
  | (with_reducible refine' w_sl ?_)
  | (with_reducible refine' w_noP ?_)
  | (with_reducible refine' w_part ?_)
  | (with_reducible refine' w_part1 ?_)
  | (with_reducible refine' w_it ?_)
  | (with_reducible refine' w_it1 ?_)
  | ((with_reducible refine' w_lenZ ?hz ?_); (case hz => omega))
  | ((with_reducible refine' w_addZb ?hz ?_); (case hz => omega))
  | ((with_reducible refine' w_addZf ?hz ?_); (case hz => omega))
  | ((with_reducible refine' w_addZa ?hz ?_); (case hz => omega))
  | ((with_reducible refine' w_inS ?hh ?_); (case hh => walk_at "hp"))
  | ((with_reducible refine' w_ixT ?hh ?ha ?_); (case hh => assumption); (case ha => exact atI_nat (by assumption))))
local macro_rules | `(tactic| walk_at "go1") => `(tactic| first
  | (with_reducible refine' w_iR2 ?_)
  | ((with_reducible refine' w_iR21 ?h1 ?h2 ?h3 ?h4 ?_); (case h1 => omega); (case h2 => omega); (case h3 => omega); (case h4 => omega))
  | (with_reducible refine' w_nnI ?_)
  | (with_reducible refine' w_max ?_)
  | (with_reducible refine' w_break ?_)
  | (with_reducible refine' w_cont ?_))
section
variable {P : Program} {w : World} {K : PySem.W.Frag} {mg : Str → Option Value} {base : Heap} {tk : Nat → Tok} {cl : Nat → Addr}
inductive CL (K : PySem.W.Frag) (H : Hp) : List Addr → List Cb → Prop
  | nil : CL K H [] []
  | cons {a : Addr} {c : Cb} {as : List Addr} {cs : List Cb} (h : SqT K H a c.enc) (r : CL K H as cs) : CL K H (a :: as) (c :: cs)
theorem CL.mono {H H' : Hp} {as : List Addr} {cs : List Cb} (h : CL K H as cs) (e : ∀ a xs, SqT K H a xs → SqT K H' a xs) : CL K H' as cs := by
  induction h with
  | nil => exact .nil
  | cons h _ ih => exact .cons (e _ _ h) ih
theorem CL.ex {H H' : Hp} {as : List Addr} {cs : List Cb} (h : CL K H as cs) (e : Ex H H') : CL K H' as cs := h.mono fun _ _ z => ex_t e z
theorem CL.len {H : Hp} {as : List Addr} {cs : List Cb} (h : CL K H as cs) : as.length = cs.length := by
  induction h with
  | nil => rfl
  | cons _ _ ih => simp [ih]
theorem CL.upd {H : Hp} {l : Addr} {xs zs : List V} {as : List Addr} {cs : List Cb} (hl : H l = some (.lst xs)) (h : CL K H as cs) : CL K (upd H l (.lst zs)) as cs := h.mono fun _ _ z => sqt_updL9 hl z
def spCmb (K : PySem.W.Frag) (C : Addr) : Sp := fun vs H Q E => ∃ (a : Addr) (t : Tm) (w : Nat), vs = [.ref a] ∧ SqT K H a t.enc ∧ t.enc.length ≤ 3000 ∧ t.vars w ∧ w < 1000000 ∧
  (t.cbig = false → ∀ H' p, Ex H H' → SqT K H' p t.cmb.enc → Q (.ref p) H') ∧ (t.cbig = true → ∀ H', Ex H H' → E (.ref C) none H')
theorem ok_combof {f : Addr} {fd : FuncData} (F : Fun K "combination_of" "combination_of" s_combination_of f fd) (T : Txt w K mg tk cl)
    (D1 : Def P w K mg base (L2.CX P w) 1 "check_size" ["size"] (spSize (cl 1))) (D2 : Def P w K mg base (L2.CX P w) 4 "abstracted" ["combination"] (spAbs K (cl 1)))
    (D4 : Def P w K mg base (L2.CX P w) 2 "checked" ["term"] (spChecked K (cl 1))) : FnOk P w K mg base (L2.CX P w) 5 f fd ["term"] (spCmb K (cl 1)) := by
  obtain ⟨f1, fd1, g_check_size, kp_check_size, b_check_size, G_check_size⟩ := D1
  obtain ⟨f2, fd2, g_abstracted, kp_abstracted, b_abstracted, G_abstracted⟩ := D2
  obtain ⟨f4, fd4, g_checked, kp_checked, b_checked, G_checked⟩ := D4
  refine F.okX sc_combination_of (fun vs H Q E h => ?_) (fun cdv A outer s H vs Q E hr h => ?_)
  · obtain ⟨a, t, wd, rfl, _⟩ := h
    rfl
  · obtain ⟨a, t, wd, rfl, hS, hlen, hvs, hwd, good, large⟩ := h
    refine ⟨_, (pss_cons (ps_set (i := 1) sc_combination_of.nd rfl (.inl rfl) (pe_lst pa_nil)) (pss_cons (ps_for (passes_of rfl) rfl (RT.pi_revA (by rfl) T.n_reversed (pv 0)) (pg_name (i := 2) sc_combination_of.nd rfl (.inl rfl)) (pss_one (ps_if (pt_cmpR op_eq (pv 2) pe_str (nomark _)) (pss_cons (ps_set (i := 3) sc_combination_of.nd rfl (.inl rfl) (pe_bm0 PySem.F.plainAttrs_list PySem.F.slot_list_pop PySem.F.type_list_pop mt_pop (pv 1))) (pss_cons (ps_expr (pe_bm PySem.F.plainAttrs_list PySem.F.slot_list_append PySem.F.type_list_append mt_append (pv 1) (pa_cons (pe_op op_catA (pe_op op_catA (pe_tup (pa_cons pe_str pa_nil)) (pv 3)) (pe_bm0 PySem.F.plainAttrs_list PySem.F.slot_list_pop PySem.F.type_list_pop mt_pop (pv 1))) pa_nil))) (pss_one (ps_expr (pe_call G_check_size (hr.mono (by first | decide | omega)) (by rfl) g_check_size kp_check_size b_check_size .nil (passes_call (takes_of rfl rfl rfl rfl) (fun _ _ _ _ h => h)) (pa_cons (pe_callB call_len_seq (by rfl) T.n_len (by decide +kernel) (pa_cons (pe_ix ix_list (pv 1) (pe_un un_neg pe_int) (fun _ _ => rfl)) pa_nil)) pa_nil)))))) (pss_one (ps_if (pt_cmpR op_eq (pv 2) pe_str (nomark _)) (pss_one (ps_expr (pe_bm PySem.F.plainAttrs_list PySem.F.slot_list_append PySem.F.type_list_append mt_append (pv 1) (pa_cons (pe_call G_abstracted (hr.mono (by first | decide | omega)) (by rfl) g_abstracted kp_abstracted b_abstracted .nil (passes_call (takes_of rfl rfl rfl rfl) (fun _ _ _ _ h => h)) (pa_cons (pe_bm0 PySem.F.plainAttrs_list PySem.F.slot_list_pop PySem.F.type_list_pop mt_pop (pv 1)) pa_nil)) pa_nil)))) (pss_one (ps_expr (pe_bm PySem.F.plainAttrs_list PySem.F.slot_list_append PySem.F.type_list_append mt_append (pv 1) (pa_cons (pe_tup (pa_cons (pv 2) pa_nil)) pa_nil))))))))) (pss_one (ps_ret (pe_call G_checked (hr.mono (by first | decide | omega)) (by rfl) g_checked kp_checked b_checked .nil (passes_call (takes_of rfl rfl rfl rfl) (fun _ _ _ _ h => h)) (pa_cons (pe_bm0 PySem.F.plainAttrs_list PySem.F.slot_list_pop PySem.F.type_list_pop mt_pop (pv 1)) pa_nil)))))), ?_⟩
    refine sl_of (σ2 := [some _, none, none, none]) rfl ?_
    walk_at "st"
    walk_at "go"
    intro pd hpd
    have e1 := Ex.new hpd (o := .lst (refs []))
    have hp1 : upd H pd (.lst (refs [])) pd = some (.lst (refs [])) := upd_same
    rw [show (HO.lst ([] : List V)) = HO.lst (refs []) from rfl]
    have hS1 := ex_t e1 hS
    generalize upd H pd (.lst (refs [])) = H1 at *
    walk_at "go"
    refine ⟨_, rfl, ?_⟩
    refine ⟨a, t.enc, rfl, .inr ⟨hS1, ?_⟩⟩
    refine RT.for_ItvT (K := K) (a := a) (xs := t.enc) (fun i σ H' => ∃ (us : List Tm) (as : List Addr) (y2 y3 : Option V), σ = [some (.ref a), some (.ref pd), y2, y3] ∧ Ex H H' ∧ For t (t.enc.length - i) us ∧ (∀ u ∈ us, u.cbig = false) ∧ H' pd = some (.lst (refs as.reverse)) ∧ CL K H' as (us.map Tm.cmb))
      ⟨[], [], none, none, rfl, e1, ?_, by simp, hp1, .nil⟩ (fun i σ H' ⟨_, _, _, _, _, e, _⟩ => ex_t e hS) ?_ ?_
    · obtain ⟨us, hu⟩ := For.ex (t := t) (i := t.enc.length) (Nat.le_refl _)
      have e := hu.enc
      rw [List.drop_length] at e
      rw [encs_nil e.symm] at hu
      simpa using hu
    · rintro i x σ H2 hi hx ⟨us, as, y2, y3, rfl, e2, hus, hnb, hp2, hC⟩
      have ei : t.enc.length - 1 - i + 1 = t.enc.length - i := by omega
      obtain ⟨ws, hws, hcase⟩ := For.back (us := us) hx (by rw [ei]; exact hus)
      have ei2 : t.enc.length - (i + 1) = t.enc.length - 1 - i := by omega
      have hvw := hws.vars hvs
      have hbw := hws.big
      rw [← ei2] at hws
      have hal := hC.len
      rw [List.length_map] at hal
      have hul := encs_pos us
      have hdl := congrArg List.length hus.enc
      rw [List.length_drop] at hdl
      have ral : (refs as.reverse).length = as.length := by simp
      have sl := sizeLine_eq
      rcases hcase with ⟨n, rfl, rfl⟩ | ⟨b, us2, rfl, rfl, rfl⟩ | ⟨g, b, us2, rfl, rfl, rfl⟩
      · walk_at "go"
        intro c hc
        have e3 := Ex.new hc (o := .tup [V.int (n : Int)])
        have hp3 := e3 _ _ hp2
        have hC3 := hC.ex e3
        have hc3 : SqT K (upd H2 c (.tup [V.int (n : Int)])) c (Cb.var n).enc := SqT.of upd_same
        have e23 := e2.trans e3
        generalize upd H2 c (.tup [V.int (n : Int)]) = H3 at *
        walk_at "go"
        refine ⟨.var n :: us, c :: as, _, _, rfl, e23.mut hpd, hws, fun u hu => ?_, by rw [upd_same]; simp [refs], .cons (sqt_updL9 hp3 hc3) (hC3.upd hp3)⟩
        rcases List.mem_cons.mp hu with rfl | hu
        · rfl
        · exact hnb u hu
      · rw [List.map_cons] at hC
        cases hC with
        | cons hx0 hC0 =>
          rename_i x0 as0
          have hp2 : H2 pd = some (.lst (refs as0.reverse ++ [V.ref x0])) := by rw [hp2]; simp [refs]
          have hnb0 := hnb b List.mem_cons_self
          have hb1000 := Tm.cmb_big hnb0
          have hvb : b.vars wd := hvw (.lam b) List.mem_cons_self
          have ra0 : (refs as0.reverse).length ≤ 3000 := by
            simp only [List.length_cons] at hal hul
            simp
            omega
          walk_at "go"
          have e3 := e2.mut hpd (o := .lst (refs as0.reverse))
          have hp3 : upd H2 pd (.lst (refs as0.reverse)) pd = some (.lst (refs as0.reverse)) := upd_same
          have hx3 : SqT K (upd H2 pd (.lst (refs as0.reverse))) x0 b.cmb.enc := sqt_updL9 hp2 hx0
          have hC3 : CL K (upd H2 pd (.lst (refs as0.reverse))) as0 (us2.map Tm.cmb) := hC0.upd hp2
          generalize upd H2 pd (.lst (refs as0.reverse)) = H3 at *
          refine ⟨x0, b.cmb, wd + 1, rfl, hx3, by omega, Tm.cmb_lt hvb, by omega, fun hsm H4 c e4 hc4 => ?_, fun hbg H4 e4 => ?_⟩
          · have hp4 := e4 _ _ hp3
            have hC4 := hC3.ex e4
            have e04 := e3.trans e4
            walk_at "go"
            refine ⟨.lam b :: us2, c :: as0, _, _, rfl, e04.mut hpd, hws, fun u hu => ?_, by rw [upd_same]; simp [refs], .cons (sqt_updL9 hp4 hc4) (hC4.upd hp4)⟩
            rcases List.mem_cons.mp hu with rfl | hu
            · have h1 : ¬ 1000 < b.cmb.abs.enc.length := by omega
              simp [Tm.cbig, hnb0, h1]
            · exact hnb u (List.mem_cons_of_mem _ hu)
          · exact large (hbw (.lam b) List.mem_cons_self (by simp [Tm.cbig, hbg])) _ (e3.trans e4)
      · rw [List.map_cons, List.map_cons] at hC
        cases hC with
        | cons hx0 hC0 =>
          cases hC0 with
          | cons hy0 hC0 =>
            rename_i x0 y0 as0
            have hp2 : H2 pd = some (.lst (refs (y0 :: as0).reverse ++ [V.ref x0])) := by rw [hp2]; simp [refs]
            have hnb0 := hnb g List.mem_cons_self
            have hnb1 := hnb b (List.mem_cons_of_mem _ List.mem_cons_self)
            have hg1000 := Tm.cmb_big hnb0
            have hb1000 := Tm.cmb_big hnb1
            have ra0 : (refs as0.reverse).length ≤ 3000 := by
              simp only [List.length_cons] at hal hul
              simp
              omega
            walk_at "go"
            have e3 := e2.mut hpd (o := .lst (refs (y0 :: as0).reverse))
            have hp3 : upd H2 pd (.lst (refs (y0 :: as0).reverse)) pd = some (.lst (refs as0.reverse ++ [V.ref y0])) := by rw [upd_same]; simp [refs]
            have hx3 : SqT K (upd H2 pd (.lst (refs (y0 :: as0).reverse))) x0 g.cmb.enc := sqt_updL9 hp2 hx0
            have hy3 : SqT K (upd H2 pd (.lst (refs (y0 :: as0).reverse))) y0 b.cmb.enc := sqt_updL9 hp2 hy0
            have hC3 : CL K (upd H2 pd (.lst (refs (y0 :: as0).reverse))) as0 (us2.map Tm.cmb) := hC0.upd hp2
            generalize upd H2 pd (.lst (refs (y0 :: as0).reverse)) = H3 at *
            intro c hc
            have e4 := Ex.new hc (o := .tup [V.str "app"])
            have hp4 := e4 _ _ hp3
            have hC4 := hC3.ex e4
            have hx4 := ex_t e4 hx3
            have hy4 := ex_t e4 hy3
            have hc4 : SqT K (upd H3 c (.tup [V.str "app"])) c [V.str "app"] := SqT.of upd_same
            have e04 := e3.trans e4
            generalize upd H3 c (.tup [V.str "app"]) = H4 at *
            walk_at "go"
            intro w1 H5 e5 hw1
            have hp5 := e5 _ _ hp4
            have hC5 := hC4.ex e5
            have hy5 := ex_t e5 hy4
            have e05 := e04.trans e5
            walk_at "go"
            have e6 := e05.mut hpd (o := .lst (refs as0.reverse))
            have hp6 : upd H5 pd (.lst (refs as0.reverse)) pd = some (.lst (refs as0.reverse)) := upd_same
            have hC6 : CL K (upd H5 pd (.lst (refs as0.reverse))) as0 (us2.map Tm.cmb) := hC5.upd hp5
            have hy6 : SqT K (upd H5 pd (.lst (refs as0.reverse))) y0 b.cmb.enc := sqt_updL9 hp5 hy5
            have hw6 : SqT K (upd H5 pd (.lst (refs as0.reverse))) w1 ([V.str "app"] ++ g.cmb.enc) := sqt_updL9 hp5 hw1
            generalize upd H5 pd (.lst (refs as0.reverse)) = H6 at *
            refine w_catA hw6 hy6 (ly_sz (by simp; omega)) fun w2 H7 e7 hw2 => ?_
            have hw2 : SqT K H7 w2 (Cb.app g.cmb b.cmb).enc := by simpa [Cb.enc] using hw2
            have hp7 := e7 _ _ hp6
            have hC7 := hC6.ex e7
            have e07 := e6.trans e7
            walk_at "go"
            have hp8 : upd H7 pd (.lst (refs as0.reverse ++ [V.ref w2])) pd = some (.lst (refs as0.reverse ++ [V.ref w2])) := upd_same
            have hw8 : SqT K (upd H7 pd (.lst (refs as0.reverse ++ [V.ref w2]))) w2 (Cb.app g.cmb b.cmb).enc := sqt_updL9 hp7 hw2
            have hC8 : CL K (upd H7 pd (.lst (refs as0.reverse ++ [V.ref w2]))) as0 (us2.map Tm.cmb) := hC7.upd hp7
            have e08 : Ex H (upd H7 pd (.lst (refs as0.reverse ++ [V.ref w2]))) := e07.mut hpd
            generalize upd H7 pd (.lst (refs as0.reverse ++ [V.ref w2])) = H8 at *
            walk_at "go"
            refine ⟨_, rfl, fun hsm => ?_, fun hbg => ?_⟩
            · walk_at "go"
              refine ⟨.app g b :: us2, w2 :: as0, _, _, rfl, e08, hws, fun u hu => ?_, by rw [hp8]; simp [refs], .cons hw8 hC8⟩
              rcases List.mem_cons.mp hu with rfl | hu
              · have h1 : ¬ 1000 < (Cb.app g.cmb b.cmb).enc.length := by omega
                simp [Tm.cbig, hnb0, hnb1, h1]
              · exact hnb u (List.mem_cons_of_mem _ (List.mem_cons_of_mem _ hu))
            · have h1 : 1000 < (Cb.app g.cmb b.cmb).enc.length := by omega
              exact large (hbw (.app g b) List.mem_cons_self (by simp [Tm.cbig, h1])) _ e08
    · rintro σ H2 ⟨us, as, y2, y3, rfl, e2, hus, hnb, hp2, hC⟩
      have hus : For t 0 us := by simpa using hus
      rw [hus.last] at hnb hC
      have htb := hnb t List.mem_cons_self
      cases hC with
      | cons hx0 hC0 =>
        cases hC0
        rename_i x0
        have hp2 : H2 pd = some (.lst ([] ++ [V.ref x0])) := hp2
        have hl := Tm.cmb_big htb
        have hfit := Cb.fits_lt (Tm.cmb_lt hvs) hwd
        walk_at "go"
        have e3 := e2.mut hpd (o := .lst [])
        have hx3 : SqT K (upd H2 pd (.lst [])) x0 t.cmb.enc := sqt_updL9 hp2 hx0
        refine ⟨x0, t.cmb.enc, rfl, hx3, t.cmb.flat, fun _ => good htb _ x0 e3 hx3, fun z => ?_⟩
        rw [hfit, decide_eq_true hl] at z
        cases z
end
end Ly
set_option Elab.async false
set_option linter.all false
set_option maxRecDepth 100000
set_option maxHeartbeats 8000000
namespace Ly
open PySem PySem.Spec PyProof.Rows L2 Evl
local macro_rules | `(tactic| walk_at "ne") => `(tactic| first
  | assumption
  | ((refine' Ne.symm ?hq); (case hq => assumption))
  | ((refine' ne_of_none ?nh1 ?nh2); (case nh2 => assumption); (case nh1 => walk_at "hp"))
  | ((refine' Ne.symm (ne_of_none ?nh1 ?nh2)); (case nh2 => assumption); (case nh1 => walk_at "hp")))
local macro_rules | `(tactic| walk_at "hp") => `(tactic| first
  | assumption
  | exact upd_same
  | ((refine' SqL.of ?hq); (case hq => walk_at "hp"))
  | ((refine' SqT.of ?hq); (case hq => walk_at "hp"))
  | ((refine' (upd_ne ?hne).trans ?hrest); (case hne => walk_at "ne"); (case hrest => walk_at "hp"))
  | ((refine' ly_at ?hex ?hh); (case hex => assumption); (case hh => walk_at "hp"))
  | ((refine' ly_atF ?hex ?hnn ?hh); (case hex => assumption); (case hh => walk_at "hp"); (case hnn => walk_at "ne"))
  | ((refine' ex_t ?hex ?hh); (case hh => assumption); (case hex => walk_at "ex"))
  | ((refine' ex_l ?hex ?hh); (case hh => assumption); (case hex => walk_at "ex")))
local macro_rules | `(tactic| walk_at "ex") => `(tactic| first
  | assumption
  | exact Ex.refl _
  | ((refine' ex_new ?xa ?xb); (case xb => assumption); (case xa => walk_at "ex"))
  | ((refine' ex_upd ?xa ?xb); (case xb => walk_at "free"); (case xa => walk_at "ex"))
  | ((refine' Ex.trans ?xa ?xb); (case xb => assumption); (case xa => walk_at "ex")))
local macro_rules | `(tactic| walk_at "free") => `(tactic| first
  | assumption
  | ((refine' fresh_back ?xa ?xb); (case xb => assumption); (case xa => walk_at "ex")))
local macro_rules | `(tactic| walk_at "fr") => `(tactic| first
  | assumption
  | exact Fr.refl _ _
  | ((refine' Fr.own ?hq); (case hq => walk_at "fr"))
  | ((refine' Fr.new ?xa ?xb); (case xb => assumption); (case xa => walk_at "fr"))
  | ((refine' Fr.mut ?xa ?xb); (case xb => assumption); (case xa => walk_at "fr"))
  | ((refine' Fr.trans ?xa ?xb); (case xb => assumption); (case xa => walk_at "fr"))
  | ((refine' Fr.trans ?xa (Fr.ex ?xb)); (case xb => assumption); (case xa => walk_at "fr")))
local macro_rules | `(tactic| walk_at "go1") => `(tactic| first
  | (with_reducible refine' w_seq ?_)
  | (with_reducible refine' w_asg ?_)
  | (with_reducible refine' w_ret ?_)
  | (with_reducible refine' w_drop ?_)
  | (with_reducible refine' w_if ?_)
  | (with_reducible refine' w_next ?_)
  | (with_reducible refine' w_name ?_)
  | (with_reducible refine' w_sub ?_)
  | ((with_reducible refine' w_var ?hv ?_); (case hv => exact rfl))
  | (with_reducible refine' w_c ?_)
  | (with_reducible refine' w_op ?_)
  | (with_reducible refine' w_un ?_)
  | (with_reducible refine' w_ch ?_)
  | (with_reducible refine' w_I0 ?_)
  | ((with_reducible refine' w_I ?hc ?_); (case hc => first | (exact ly_mulL (by decide) (by decide)) | (exact ly_mulR (by decide) (by decide)) | (exact ly_mulL (by omega) (by omega)) | (show (_ : Int) ≠ 0; decide) | (show (_ : Int) ≠ 0; omega) | (exact ⟨by decide, by decide⟩) | (exact ⟨by omega, by omega⟩)))
  | (with_reducible refine' w_U ?_)
  | ((with_reducible refine' w_eq ?hs ?_); (case hs => exact rfl))
  | ((with_reducible refine' w_ne ?hs ?_); (case hs => exact rfl))
  | (with_reducible refine' w_isB ?_)
  | (with_reducible refine' w_notB ?_)
  | (with_reducible refine' w_nil ?_)
  | (with_reducible refine' w_cons ?_)
  | (with_reducible refine' w_tup ?_)
  | (with_reducible refine' w_lst ?_)
  | (with_reducible refine' w_cb ?_)
  | (with_reducible refine' w_call ?_)
  | (with_reducible refine' w_bm ?_)
  | (with_reducible refine' w_bm0 ?_)
  | ((with_reducible refine' w_app ?hh ?hz ?_); (case hh => walk_at "hp"); (case hz => first | exact ly_lt (by omega) | exact ly_lt (by simp only [List.length_append, List.length_map, List.length_cons, List.length_nil]; omega)))
  | ((with_reducible refine' w_popA ?hh ?_); (case hh => walk_at "hp"))
  | ((with_reducible refine' w_ext ?hh ?hh2 ?hz ?_); (case hh => walk_at "hp"); (case hh2 => walk_at "hp"))
  | ((with_reducible refine' w_ixL ?hh ?ha ?_); (case hh => walk_at "hp"); (case ha => first | exact rfl | exact at_map (by omega) | exact atI_last _ _ | ((refine' at_of ?ae ?ah); (case ah => assumption); (case ae => omega))))
  | ((with_reducible refine' w_ixT ?hh ?ha ?_); (case hh => walk_at "hp"); (case ha => first | exact rfl | exact at_map (by omega) | exact atI_last _ _ | ((refine' at_of ?ae ?ah); (case ah => assumption); (case ae => omega))))
  | ((with_reducible refine' w_cat ?hh ?hh2 ?hz ?_); (case hh => walk_at "hp"); (case hh2 => walk_at "hp"))
  | ((with_reducible refine' w_setL ?hh ?ha ?_); (case hh => walk_at "hp"); (case ha => exact rfl))
  | (with_reducible refine' w_test ?_)
  | (with_reducible refine' w_tB ?_)
  | (with_reducible refine' w_bl ?_)
  | (with_reducible refine' w_and ?_)
  | (with_reducible refine' w_or ?_)
  | (with_reducible refine' w_not ?_)
  | (with_reducible refine' w_andV ?_)
  | (with_reducible refine' w_orV ?_)
  | (with_reducible refine' w_notV ?_)
  | (with_reducible refine' w_ifE ?_)
  | (with_reducible refine' w_for ?_)
  | ((with_reducible refine' w_nin ?hh ?_); (case hh => walk_at "hp"))
  | ((with_reducible refine' w_sorted ?hh ?_); (case hh => walk_at "hp"))
  | (with_reducible refine' w_tsadd ?_)
  | ((with_reducible refine' w_tsadd1 ?hh ?_); (case hh => walk_at "hp"))
  | ((with_reducible refine' w_sadd ?hh ?hr ?_); (case hh => walk_at "hp"); (case hr => omega))
  | (with_reducible refine' w_iZ ?_)
  | ((with_reducible refine' w_iZ1 ?hh ?hh2 ?_); (case hh => walk_at "hp"); (case hh2 => walk_at "hp"))
  | (with_reducible refine' w_iS ?_)
  | (with_reducible refine' w_iS1 ?_)
  | ((with_reducible refine' w_gtup ?hh ?hn ?_); (case hh => walk_at "hp"); (case hn => exact rfl))
  | (with_reducible refine' w_gcons ?_)
  | (with_reducible refine' w_gnil ?_)
  | (with_reducible refine' w_js ?_)
  | (with_reducible refine' w_jsn ?_)
  | ((with_reducible refine' w_js1 ?hl ?_); (case hl => decide +kernel))
  | (with_reducible refine' w_fmt ?_)
  | ((with_reducible refine' w_fmt1 ?hl ?_); (case hl => decide +kernel))
  | (with_reducible refine' w_callS ?_)
  | ((with_reducible refine' w_truL ?hh ?_); (case hh => walk_at "hp"))
  | (with_reducible refine' w_lc ?_)
  | (with_reducible refine' w_yes ?_)
  | ((with_reducible refine' w_wipe ?he ?_); (case he => exact rfl))
  | (with_reducible refine' w_iL ?_)
  | (with_reducible refine' w_iT ?_)
  | (with_reducible refine' w_iR ?_)
  | ((with_reducible refine' w_iL1 ?hh ?_); (case hh => walk_at "hp"))
  | ((with_reducible refine' w_iT1 ?hh ?_); (case hh => walk_at "hp"))
  | ((with_reducible refine' w_iR1 ?h1 ?h2 ?_); (case h1 => omega); (case h2 => omega))
  | ((with_reducible refine' w_aug ?hv ?_); (case hv => exact rfl))
  | (with_reducible refine' w_ipI ?_)
  | ((with_reducible refine' w_isi ?hy ?hk ?_); (case hy => walk_at "ty"); (case hk => walk_at "kit"))
  | ((with_reducible refine' w_int ?_))
  | ((with_reducible refine' w_intB ?_))
  | ((with_reducible refine' w_abs ?_))
  | ((with_reducible refine' w_lenL ?hh ?_); (case hh => walk_at "hp"))
  | ((with_reducible refine' w_lenT ?hh ?_); (case hh => walk_at "hp"))
  | ((with_reducible refine' w_tupL ?hh ?_); (case hh => walk_at "hp"))
  | ((with_reducible refine' w_tupT ?hh ?_); (case hh => walk_at "hp"))
  | ((with_reducible refine' w_catA ?hh ?hh2 ?hz ?_); (case hh => walk_at "hp"); (case hh2 => walk_at "hp"); (case hz => walk_at "len"))
  | ((with_reducible refine' w_repB ?hh ?hne ?h2 ?h3 ?hz ?_); (case hh => walk_at "hp"); (case hne => simp); (case h2 => omega); (case h3 => omega); (case hz => exact Nat.le_of_ble_eq_true rfl))
  | ((with_reducible refine' w_eqN ?hh ?hh2 ?n1 ?n2 ?_); (case hh => walk_at "hp"); (case hh2 => walk_at "hp"); (case n1 => walk_at "nd"); (case n2 => walk_at "nd"))
  | ((with_reducible refine' w_neN ?hh ?hh2 ?n1 ?n2 ?_); (case hh => walk_at "hp"); (case hh2 => walk_at "hp"); (case n1 => walk_at "nd"); (case n2 => walk_at "nd"))
  | ((with_reducible refine' w_eqL ?hh ?hh2 ?n1 ?n2 ?_); (case hh => walk_at "hp"); (case hh2 => walk_at "hp"); (case n1 => walk_at "nd"); (case n2 => walk_at "nd"))
  | ((with_reducible refine' w_neL ?hh ?hh2 ?n1 ?n2 ?_); (case hh => walk_at "hp"); (case hh2 => walk_at "hp"); (case n1 => walk_at "nd"); (case n2 => walk_at "nd"))
  | ((with_reducible refine' w_neNon ?hh2 ?n2 ?_); (case hh2 => walk_at "hp"); (case n2 => walk_at "nd"))
  | ((with_reducible refine' w_eqNon ?hh2 ?n2 ?_); (case hh2 => walk_at "hp"); (case n2 => walk_at "nd"))
  | ((with_reducible refine' w_slA ?hh ?_); (case hh => walk_at "hp"))
  | ((with_reducible refine' w_disp ?hz ?_); (case hz => exact sz_of (Nat.le_of_ble_eq_true rfl)))
  | ((with_reducible refine' w_tyL ?hh ?_); (case hh => walk_at "hp"))
  | (with_reducible refine' iteT ?_)
  | (with_reducible refine' iteF ?_)
  | (with_reducible refine' w_nT ?_)
  | (with_reducible refine' w_nn ?_)
  | (with_reducible refine' w_nnT ?_)
  | (with_reducible refine' w_nnR ?_)
  | (with_reducible refine' w_neG ?_)
  | (with_reducible refine' w_eqG ?_)
  | (with_reducible refine' w_neS ?_)
  | (with_reducible refine' w_eqS ?_)
  | (with_reducible refine' w_neSb ?_)
  | (with_reducible refine' w_eqSb ?_)
  | (with_reducible refine' w_deIS ?_)
  | (with_reducible refine' w_deSI ?_)
  | (with_reducible refine' w_deISn ?_)
  | ((with_reducible refine' w_deST ?he ?_); (case he => decide +kernel))
  | ((with_reducible refine' w_deSF ?he ?_); (case he => decide +kernel))
  | ((with_reducible refine' w_deSTn ?he ?_); (case he => decide +kernel))
  | ((with_reducible refine' w_deSFn ?he ?_); (case he => decide +kernel))
  | (with_reducible refine' w_nF ?_)
  | dsimp only [Bool.not_true, Bool.not_false])
local macro_rules | `(tactic| walk_at "ty") => `(tactic| first
  | exact .base (.int _) | exact .base (.str _) | exact .base (.bl _) | exact .base .non
  | ((refine' tyx_t ?hq); (case hq => walk_at "hp")) | ((refine' tyx_l ?hq); (case hq => walk_at "hp")) | ((refine' .base (.tup ?hq)); (case hq => walk_at "hp")) | assumption)
local macro_rules | `(tactic| walk_at "go") => `(tactic| repeat walk_at "go1")
local macro_rules | `(tactic| walk_at "st") => `(tactic| try dsimp only [cxOf, Cx.nox, Cx.wish])
local macro_rules | `(tactic| walk_at "kit") => `(tactic| with_reducible first | exact kit_int_int | exact kit_int_str | exact kit_int_bool | exact kit_int_tuple | exact kit_int_list | exact kit_str_int | exact kit_str_str | exact kit_str_bool | exact kit_str_tuple | exact kit_str_list | exact kit_bool_int | exact kit_bool_str | exact kit_bool_bool | exact kit_bool_tuple | exact kit_bool_list | exact kit_NoneType_int | exact kit_NoneType_str | exact kit_NoneType_bool | exact kit_NoneType_tuple | exact kit_NoneType_list | exact kit_list_int | exact kit_list_str | exact kit_list_bool | exact kit_list_tuple | exact kit_list_list | exact kit_tuple_int | exact kit_tuple_str | exact kit_tuple_bool | exact kit_tuple_tuple | exact kit_tuple_list)
local macro_rules | `(tactic| walk_at "nd") => `(tactic| first
  | assumption
  | exact Tm.nds _
  | exact Nds.nil
  | exact Nds.ofInts _
  | ((refine' Nds.cons ?na ?nb); (case na => first | exact Nds.I _ | exact Nds.L | exact Nds.A); (case nb => walk_at "nd"))
  | ((refine' Nds.app ?na ?nb); (case na => walk_at "nd"); (case nb => walk_at "nd"))
  | ((refine' Nds.rep ?na _); (case na => walk_at "nd")))
local macro_rules | `(tactic| walk_at "len") => `(tactic| first
  | exact ly_sz (by omega)
  | ((simp only [List.length_append, List.length_cons, List.length_nil, List.length_map, PyProof.Rows.lm_len_rep_flat]); exact ly_sz (by omega)))
local macro_rules | `(tactic| walk_at "go1") => `(tactic| first
  | (with_reducible refine' w_kget2 ?_)
  | (with_reducible refine' w_isRN ?_)
  | (with_reducible refine' w_isNN ?_)
  | (with_reducible refine' w_isIN ?_)
  | ((with_reducible refine' w_kg ?hd ?_); (case hd => assumption)))
local macro_rules | `(tactic| walk_at "go1") => `(tactic| first
  | ((with_reducible refine' w_extT ?hh ?hh2 ?hz ?_); (case hh => walk_at "hp"); (case hh2 => walk_at "hp"))
  | ((with_reducible refine' w_I ?hc ?_); (case hc => exact ⟨by decide, by decide, by decide⟩))
  | (with_reducible refine' w_sl ?_)
  | (with_reducible refine' w_noP ?_)
  | (with_reducible refine' w_part ?_)
  | (with_reducible refine' w_part1 ?_)
  | (with_reducible refine' w_it ?_)
  | (with_reducible refine' w_it1 ?_)
  | ((with_reducible refine' w_lenZ ?hz ?_); (case hz => omega))
  | ((with_reducible refine' w_addZb ?hz ?_); (case hz => omega))
  | ((with_reducible refine' w_addZf ?hz ?_); (case hz => omega))
  | ((with_reducible refine' w_addZa ?hz ?_); (case hz => omega))
  | ((with_reducible refine' w_inS ?hh ?_); (case hh => walk_at "hp"))
  | ((with_reducible refine' w_ixT ?hh ?ha ?_); (case hh => assumption); (case ha => exact atI_nat (by assumption))))
local macro_rules | `(tactic| walk_at "go1") => `(tactic| first
  | (with_reducible refine' w_iR2 ?_)
  | ((with_reducible refine' w_iR21 ?h1 ?h2 ?h3 ?h4 ?_); (case h1 => omega); (case h2 => omega); (case h3 => omega); (case h4 => omega))
  | (with_reducible refine' w_nnI ?_)
  | (with_reducible refine' w_max ?_)
  | (with_reducible refine' w_break ?_)
  | (with_reducible refine' w_cont ?_))
section
variable {P : Program} {w : World} {K : PySem.W.Frag} {mg : Str → Option Value} {base : Heap} {tk : Nat → Tok} {cl : Nat → Addr}
theorem ok_lend87 {f : Addr} {fd : FuncData} {k : Nat} (F : Fun K "_law_end" "_law_end" s_law_end f fd) (T : Txt w K mg tk cl) : FnOk P w K mg base CX0 (k + 1) f fd ["term", "at"] (spEnd K) := by
  refine F.ok sc_law_end (fun vs H Q E h => ?_) (fun cdv A outer s H vs Q E hr h => ?_)
  · obtain ⟨a, xs, s, u, post, rfl, _⟩ := h
    rfl
  · obtain ⟨a, xs, s, u, post, rfl, hS, hu, hlen, q⟩ := h
    refine ⟨_, (pss_cons (ps_set (i := 2) sc_law_end.nd rfl (.inl rfl) pe_int) (pss_cons (ps_while PassesOwn.never (pt_cmpR op_gt (pv 2) pe_int (nomark _)) (pss_cons (ps_if (pt_cmpR op_eq (pe_ix ix_tup (pv 0) (pv 1) (fun _ _ => rfl)) pe_str (nomark _)) (pss_one (ps_set (i := 2) sc_law_end.nd rfl (.inl rfl) (pe_op op_add (pv 2) pe_int))) (pss_one (ps_if (pt_cmpR op_ne (pe_ix ix_tup (pv 0) (pv 1) (fun _ _ => rfl)) pe_str (nomark _)) (pss_one (ps_set (i := 2) sc_law_end.nd rfl (.inl rfl) (pe_op op_sub (pv 2) pe_int))) pss_nil))) (pss_one (ps_set (i := 1) sc_law_end.nd rfl (.inl rfl) (pe_op op_add (pv 1) pe_int))))) (pss_one (ps_ret (pv 1))))), ?_⟩
    refine sl_of (σ2 := [some _, some _, none]) rfl ?_
    walk_at "st"
    walk_at "go"
    refine w_while (fun m σ H' => H' = H ∧ ∃ (e : Nat) (ts : List Tm), σ = [some (.ref a), some (.int (e : Int)), some (.int (ts.length : Int))] ∧ EInv xs (s + u.enc.length) e ts ∧ m = s + u.enc.length - e) _ ⟨rfl, s, [u], rfl, EInv.start hu, rfl⟩ ?_
    rintro m σ H ⟨rfl, e, ts, rfl, inv, rfl⟩
    walk_at "go"
    cases ts with
    | nil =>
      obtain ⟨post2, h1, h2⟩ := inv
      have h2 : e = s + u.enc.length := by simpa [encs] using h2
      refine w_br (fun h => by simp at h) (fun _ => ?_)
      walk_at "go"
      rw [h2]
      exact q
    | cons t ts =>
      obtain ⟨lt, v, ts', hv, inv', hcase⟩ := inv.step
      refine w_br (fun h => ?_) (fun h => absurd h (by simp))
      refine ⟨fun σ' H' => H' = H ∧ ∃ (e' : Nat) (ts2 : List Tm), σ' = [some (.ref a), some (.int (e' : Int)), some (.int (ts2.length : Int))] ∧ EInv xs (s + u.enc.length) e' ts2 ∧ e' = e + 1, fun σ' H' ⟨h1, e', ts2, h2, h3, h4⟩ => ⟨_, ?_, h1, e', ts2, h2, h3, rfl⟩, ?_⟩
      · omega
      · have fin : ∀ {j : Int}, j = (ts'.length : Int) → H = H ∧ ∃ (e' : Nat) (ts2 : List Tm), [some (V.ref a), some (.int ((e : Int) + 1)), some (.int j)] = [some (.ref a), some (.int (e' : Int)), some (.int (ts2.length : Int))] ∧ EInv xs (s + u.enc.length) e' ts2 ∧ e' = e + 1 := fun hj => ⟨rfl, e + 1, ts', by rw [hj]; rfl, inv', rfl⟩
        walk_at "go"
        rcases hcase with ⟨n, rfl, hl⟩ | ⟨rfl, hl⟩ | ⟨rfl, hl⟩
        · walk_at "go"
          exact fin (by simp; omega)
        · walk_at "go"
          exact fin (by simp; omega)
        · walk_at "go"
          exact fin (by simp; omega)
theorem dinv_at {t : Tm} {i d : Nat} {found ds : List Nat} (h : DInv t (i + 1) (found ++ [d]) ds) (hl : found.length = i) : (t.deps 0)[i]? = some d := by
  obtain ⟨ts, _, _, h3⟩ := h
  rw [h3, List.append_assoc, ← hl, List.getElem?_append_right (Nat.le_refl _), Nat.sub_self]
  rfl
theorem zip_one {F : V → Nat → List V} (h : ∀ v d, (F v d).length ≤ 1) : ∀ {xs : List V} {ds : List Nat}, ∀ x ∈ List.zipWith F xs ds, x.length ≤ 1
  | [], _, x, hx => by simp at hx
  | _ :: _, [], x, hx => by simp at hx
  | v :: xs, d :: ds, x, hx => by
    rcases List.mem_cons.mp hx with rfl | hx
    · exact h v d
    · exact zip_one h x hx
/-- one node, lifted or put -/
def mpF (v : V) (u : Tm) (c : Nat) : V → Nat → List V := fun x d => if v = .non then [vm (lif c) x d] else pvs u x d
def spMapped (K : PySem.W.Frag) (n : Nat) : Sp := fun vs H Q _ => ∃ (a : Addr) (v : V) (c : Nat) (t u : Tm), vs = [.ref a, v, .int (c : Int)] ∧ SqT K H a t.enc ∧ t.enc.length ≤ 2000000 ∧ c ≤ 3000000 ∧
  ((v = .non ∧ 1 ≤ n ∧ ∀ H' p, Ex H H' → SqT K H' p (t.vmap (lif c) 0).enc → Q (.ref p) H') ∨
   (2 ≤ n ∧ (∃ b, v = .ref b ∧ SqT K H b u.enc) ∧ u.enc.length ≤ 2000000 ∧ t.enc.length * u.enc.length ≤ 9000000 ∧ ∀ H' p, Ex H H' → SqT K H' p (Tm.put u 0 t).enc → Q (.ref p) H'))
theorem ok_mapped {f : Addr} {fd : FuncData} (F : Fun K "_law_mapped" "_law_mapped" s_law_mapped f fd) (T : Txt w K mg tk cl)
    (g_law_mapped : mg "_law_mapped" = some (.ref f)) (kp_law_mapped : PySem.W.keepIn K (.ref f) = true) (b_law_mapped : Binds K fd ["term", "value", "count"] []) : ∀ n, FnOk P w K mg base CX0 (n + 1) f fd ["term", "value", "count"] (spMapped K n) := by
  intro n
  induction n with
  | zero =>
    refine ⟨fun vs H Q E h => ?_, fun A outer s H args us vs Q E _ _ _ _ h => ?_⟩
    · obtain ⟨_, _, _, _, _, _, _, _, _, ⟨_, h, _⟩ | ⟨h, _⟩⟩ := h <;> exact absurd h (by omega)
    · obtain ⟨_, _, _, _, _, _, _, _, _, ⟨_, h, _⟩ | ⟨h, _⟩⟩ := h <;> exact absurd h (by omega)
  | succ n G_law_mapped =>
    refine F.ok sc_law_mapped (fun vs H Q E h => ?_) (fun cdv A outer s H vs Q E hr h => ?_)
    · obtain ⟨_, _, _, _, _, rfl, _⟩ := h
      rfl
    · obtain ⟨a, v, c, t, u, rfl, hS, hlen, hc, hmode⟩ := h
      refine ⟨_, (pss_cons (ps_set (i := 3) sc_law_mapped.nd rfl (.inl rfl) (pe_lst pa_nil)) (pss_cons (ps_set (i := 4) sc_law_mapped.nd rfl (.inl rfl) (pe_lst (pa_cons pe_int pa_nil))) (pss_cons (ps_for PassesOwn.never rfl (pi_tup (pv 0)) (pg_name (i := 5) sc_law_mapped.nd rfl (.inl rfl)) (pss_cons (ps_set (i := 6) sc_law_mapped.nd rfl (.inl rfl) (pe_bm0 PySem.F.plainAttrs_list PySem.F.slot_list_pop PySem.F.type_list_pop mt_pop (pv 4))) (pss_one (ps_if (pt_cmpR op_eq (pv 5) pe_str (nomark _)) (pss_cons (ps_set (i := 4) sc_law_mapped.nd rfl (.inl rfl) (pe_op op_cat (pv 4) (pe_lst (pa_cons (pv 6) (pa_cons (pv 6) pa_nil))))) (pss_one (ps_expr (pe_bm PySem.F.plainAttrs_list PySem.F.slot_list_append PySem.F.type_list_append mt_append (pv 3) (pa_cons (pv 5) pa_nil))))) (pss_one (ps_if (pt_cmpR op_eq (pv 5) pe_str (nomark _)) (pss_cons (ps_expr (pe_bm PySem.F.plainAttrs_list PySem.F.slot_list_append PySem.F.type_list_append mt_append (pv 4) (pa_cons (pe_op op_add (pv 6) pe_int) pa_nil))) (pss_one (ps_expr (pe_bm PySem.F.plainAttrs_list PySem.F.slot_list_append PySem.F.type_list_append mt_append (pv 3) (pa_cons (pv 5) pa_nil))))) (pss_one (ps_if (pt_cmpR op_isN (pv 1) pe_non (nomark _)) (pss_one (ps_expr (pe_bm PySem.F.plainAttrs_list PySem.F.slot_list_append PySem.F.type_list_append mt_append (pv 3) (pa_cons (pe_op op_add (pv 5) (pe_op op_mul (pv 2) (pe_callTy call_int1 (by rfl) T.n_int (by decide +kernel) (pa_cons (pe_cmpR op_ge (pv 5) (pv 6) (nomark _)) pa_nil)))) pa_nil)))) (pss_one (ps_if (pt_cmpR op_eq (pv 5) (pv 6) (nomark _)) (pss_one (ps_set (i := 3) sc_law_mapped.nd rfl (.inl rfl) (pe_op op_cat (pv 3) (pe_callTy call_list_of (by rfl) T.n_list (by decide +kernel) (pa_cons (pe_call G_law_mapped (hr.mono (by first | decide | omega)) (by rfl) g_law_mapped kp_law_mapped b_law_mapped .nil pass0 (pa_cons (pv 1) (pa_cons pe_non (pa_cons (pv 6) pa_nil)))) pa_nil))))) (pss_one (ps_expr (pe_bm PySem.F.plainAttrs_list PySem.F.slot_list_append PySem.F.type_list_append mt_append (pv 3) (pa_cons (pe_op op_sub (pv 5) (pe_callTy call_int1 (by rfl) T.n_int (by decide +kernel) (pa_cons (pe_cmpR op_gt (pv 5) (pv 6) (nomark _)) pa_nil))) pa_nil)))))))))))))) (pss_one (ps_ret (pe_callTy call_tuple_of (by rfl) T.n_tuple (by decide +kernel) (pa_cons (pv 3) pa_nil))))))), ?_⟩
      refine sl_of (σ2 := [some _, some _, some _, none, none, none, none]) rfl ?_
      have hb : ∀ i, ((List.zipWith (mpF v u c) t.enc (t.deps 0)).take i).flatten.length ≤ 9000000 := fun i => by
        rcases hmode with ⟨rfl, _⟩ | ⟨_, ⟨b, rfl, _⟩, h2, h3, _⟩
        · refine Nat.le_trans (flat_take_le _ _) (Nat.le_trans (flat_len (M := 1) fun x hx => ?_) ?_)
          · exact zip_one (fun v d => by simp [mpF]) x hx
          · rw [List.length_zipWith]
            have : min t.enc.length (t.deps 0).length ≤ t.enc.length := Nat.min_le_left _ _
            omega
        · have e : List.zipWith (mpF (.ref b) u c) t.enc (t.deps 0) = List.zipWith (pvs u) t.enc (t.deps 0) := by
            congr 1
          rw [e]
          refine Nat.le_trans (flat_take_le _ _) ?_
          have := pre_len (u := u) (xs := t.enc) (ds := t.deps 0) t.enc.length
          rw [List.take_of_length_le (by rw [List.length_zipWith]; exact Nat.min_le_left _ _)] at this
          omega
      have hwU : ∀ x : Str, ∀ d, mpF v u c (.str x) d = [.str x] := fun x d => by
        unfold mpF
        split <;> rfl
      walk_at "st"
      walk_at "go"
      intro nl hnl
      walk_at "go"
      intro wl hwl
      have hwn : wl ≠ nl := (ne_of_none upd_same hwl).symm
      have hwl0 : H wl = none := by
        rw [upd_ne hwn] at hwl
        exact hwl
      walk_at "go"
      refine for_tup (K := K) (a := a) (xs := t.enc) (fun i σ H' => ∃ (nl wl : Addr) (found ds : List Nat) (y5 y6 : Option V), σ = [some (.ref a), some v, some (.int (c : Int)), some (.ref nl), some (.ref wl), y5, y6] ∧ Ex H H' ∧ nl ≠ wl ∧ H nl = none ∧ H wl = none ∧ H' nl = some (.lst ((List.zipWith (mpF v u c) t.enc (t.deps 0)).take i).flatten) ∧ H' wl = some (.lst (nums ds)) ∧ DInv t i found ds ∧ found.length = i ∧ ds.length ≤ i + 1 ∧ ∀ d ∈ ds, d ≤ i)
        ⟨nl, wl, [], [0], none, none, rfl, by walk_at "ex", hwn.symm, hnl, hwl0, by walk_at "hp", upd_same, DInv.start t, rfl, by simp, by simp⟩ (fun i σ H' _ ⟨_, _, _, _, _, _, _, e, _⟩ => ex_t e hS) ?_ ?_
      · clear hnl hwl hwn hwl0
        rintro i x σ H1 hi ⟨nl, wl, found, ds, y5, y6, rfl, e1, hnw, hnl0, hwl0, hn1, hw1, hinv, hfl, hdl, hdd⟩
        have hlt : i < t.enc.length := (List.getElem?_eq_some_iff.mp hi).1
        obtain ⟨r, d, rfl, hstep⟩ := hinv.step hi
        have hd : (t.deps 0)[i]? = some d := by rcases hstep with ⟨_, _, h⟩ | ⟨_, h⟩ | ⟨_, h⟩ <;> exact dinv_at h hfl
        have tk : ((List.zipWith (mpF v u c) t.enc (t.deps 0)).take (i + 1)).flatten = ((List.zipWith (mpF v u c) t.enc (t.deps 0)).take i).flatten ++ mpF v u c x d := by
          rw [zip_take hi hd, List.flatten_append]
          simp
        have hbi := hb i
        have hbi2 := hb (i + 1)
        rw [tk, List.length_append] at hbi2
        generalize ((List.zipWith (mpF v u c) t.enc (t.deps 0)).take i).flatten = done at *
        have hw1b : H1 wl = some (.lst (nums r ++ [V.int (d : Int)])) := by rw [hw1]; simp [nums]
        have el2 : (nums r).length = r.length := List.length_map _
        have hrl : r.length ≤ i := by simpa using hdl
        have hdi : d ≤ i := hdd d (by simp)
        have hri : ∀ e ∈ r, e ≤ i + 1 := fun e he => Nat.le_succ_of_le (hdd e (by simp [he]))
        walk_at "go"
        have e2 := e1.mut hwl0 (o := .lst (nums r))
        have hn2 : upd H1 wl (.lst (nums r)) nl = some (.lst done) := by rw [upd_ne hnw]; exact hn1
        have hw2 : upd H1 wl (.lst (nums r)) wl = some (.lst (nums r)) := upd_same
        generalize upd H1 wl (.lst (nums r)) = H2 at *
        clear hn1 hw1 hw1b
        have lt1 : done.length < sizeLine := ly_lt (by omega)
        rcases hstep with ⟨m, rfl, hn⟩ | ⟨rfl, hn⟩ | ⟨rfl, hn⟩
        · walk_at "go"
          have keep : ∀ {H3 : Hp} {nl' : Addr}, Ex H H3 → nl' ≠ wl → H nl' = none → H3 nl' = some (.lst (done ++ mpF v u c (.int (m : Int)) d)) → H3 wl = some (.lst (nums r)) → ∃ (nl2 wl2 : Addr) (found ds : List Nat) (y5 y6 : Option V), [some (V.ref a), some v, some (.int (c : Int)), some (.ref nl'), some (.ref wl), some (.int (m : Int)), some (.int (d : Int))] = [some (.ref a), some v, some (.int (c : Int)), some (.ref nl2), some (.ref wl2), y5, y6] ∧ Ex H H3 ∧ nl2 ≠ wl2 ∧ H nl2 = none ∧ H wl2 = none ∧ H3 nl2 = some (.lst ((List.zipWith (mpF v u c) t.enc (t.deps 0)).take (i + 1)).flatten) ∧ H3 wl2 = some (.lst (nums ds)) ∧ DInv t (i + 1) found ds ∧ found.length = i + 1 ∧ ds.length ≤ i + 1 + 1 ∧ ∀ d ∈ ds, d ≤ i + 1 := fun {H3 nl'} e3 h1 h2 h3 h4 =>
            ⟨nl', wl, found ++ [d], r, _, _, rfl, e3, h1, h2, hwl0, by rw [tk]; exact h3, h4, hn, by simp [hfl], by omega, hri⟩
          rcases hmode with ⟨rfl, h1n, q⟩ | ⟨h2n, ⟨b, rfl, hB⟩, hul, hprod, q⟩
          · walk_at "go"
            have ev : mpF .non u c (.int (m : Int)) d = [.int (if d ≤ m then (m : Int) + c else (m : Int))] := by
              simp only [mpF, if_pos, vm, lif, Int.toNat_natCast]
              congr 2
              split <;> simp
            walk_at "go"
            by_cases hdm : d ≤ m
            · have e0 : (decide ((m : Int) ≥ (d : Int))) = true := decide_eq_true (by omega)
              rw [e0]
              rw [if_pos hdm] at ev
              refine keep (e2.mut hnl0) hnw hnl0 ?_ ?_
              rotate_left
              · rw [upd_ne hnw.symm]
                exact hw2
              rw [upd_same, ev]
              have : (m : Int) + (c : Int) * (if true = true then 1 else 0) = (m : Int) + (c : Int) := by rw [if_pos rfl]; omega
              rw [this]
            · have e0 : (decide ((m : Int) ≥ (d : Int))) = false := decide_eq_false (by omega)
              rw [e0]
              rw [if_neg hdm] at ev
              refine keep (e2.mut hnl0) hnw hnl0 ?_ ?_
              rotate_left
              · rw [upd_ne hnw.symm]
                exact hw2
              rw [upd_same, ev]
              have : (m : Int) + (c : Int) * (if false = true then 1 else 0) = (m : Int) := by rw [if_neg (by simp)]; omega
              rw [this]
          · have ep : mpF (.ref b) u c = pvs u := by
              funext x d
              simp [mpF]
            rw [ep] at hbi2
            have hB2 := ex_t e2 hB
            walk_at "go"
            refine w_brI (fun h4 => ?_) (fun h4 => ?_)
            · have e0 : m = d := by omega
              subst e0
              have vl := Tm.vmap_len (lif m) u 0
              walk_at "go"
              refine ⟨b, .non, m, u, u, rfl, hB2, hul, by omega, .inl ⟨rfl, by omega, fun H3 pl3 e3 hpl => ?_⟩⟩
              have hn3 := e3 _ _ hn2
              have hw3 := e3 _ _ hw2
              have e23 := e2.trans e3
              walk_at "go"
              intro ll hll
              have hln : ll ≠ nl := (ne_of_none hn3 hll).symm
              have hlw : ll ≠ wl := (ne_of_none hw3 hll).symm
              have e4 := ex_new e23 hll (o := .lst (u.vmap (lif m) 0).enc)
              have hl4 : upd H3 ll (.lst (u.vmap (lif m) 0).enc) ll = some (.lst (u.vmap (lif m) 0).enc) := upd_same
              have hn4 : upd H3 ll (.lst (u.vmap (lif m) 0).enc) nl = some (.lst done) := by rw [upd_ne hln.symm]; exact hn3
              have hw4 : upd H3 ll (.lst (u.vmap (lif m) 0).enc) wl = some (.lst (nums r)) := by rw [upd_ne hlw.symm]; exact hw3
              generalize upd H3 ll (.lst (u.vmap (lif m) 0).enc) = H4 at *
              walk_at "go"
              · exact ly_sz (by omega)
              intro n5 hn5
              walk_at "go"
              refine keep (ex_new e4 hn5) (ne_of_none hw4 hn5).symm (fresh_back e4 hn5) ?_ ?_
              rotate_left
              · rw [upd_ne (ne_of_none hw4 hn5)]
                exact hw4
              rw [upd_same, ep, pvs_at]
            · walk_at "go"
              by_cases hdm : d < m
              · have e0 : (decide ((m : Int) > (d : Int))) = true := decide_eq_true (by omega)
                rw [e0]
                walk_at "go"
                refine keep (e2.mut hnl0) hnw hnl0 ?_ ?_
                rotate_left
                · rw [upd_ne hnw.symm]
                  exact hw2
                rw [upd_same, ep, pvs_high hdm]
                rfl
              · have e0 : (decide ((m : Int) > (d : Int))) = false := decide_eq_false (by omega)
                rw [e0]
                walk_at "go"
                refine keep (e2.mut hnl0) hnw hnl0 ?_ ?_
                rotate_left
                · rw [upd_ne hnw.symm]
                  exact hw2
                rw [upd_same, ep, pvs_low (by omega)]
                have : (m : Int) - (if false = true then 1 else 0) = (m : Int) := by rw [if_neg (by simp)]; omega
                rw [this]
        · walk_at "go"
          refine ⟨nl, wl, found ++ [d], r ++ [d + 1], _, _, rfl, (e2.mut hwl0).mut hnl0, hnw, hnl0, hwl0, ?_, ?_, hn, by simp [hfl], by simp; omega, fun e he => ?_⟩
          · rw [upd_same, tk, hwU]
          · rw [upd_ne hnw.symm, upd_same]
            simp [nums]
          · rcases List.mem_append.mp he with he | he
            · exact hri e he
            · rw [List.mem_singleton.mp he]
              omega
        · walk_at "go"
          intro ll hll
          have hln : ll ≠ nl := (ne_of_none hn2 hll).symm
          have hlw : ll ≠ wl := (ne_of_none hw2 hll).symm
          have e4 := ex_new e2 hll (o := .lst [.int (d : Int), .int (d : Int)])
          have hl4 : upd H2 ll (.lst [.int (d : Int), .int (d : Int)]) ll = some (.lst [.int (d : Int), .int (d : Int)]) := upd_same
          have hn4 : upd H2 ll (.lst [.int (d : Int), .int (d : Int)]) nl = some (.lst done) := by rw [upd_ne hln.symm]; exact hn2
          have hw4 : upd H2 ll (.lst [.int (d : Int), .int (d : Int)]) wl = some (.lst (nums r)) := by rw [upd_ne hlw.symm]; exact hw2
          generalize upd H2 ll (.lst [.int (d : Int), .int (d : Int)]) = H4 at *
          walk_at "go"
          · exact ly_sz (by rw [el2]; simp; omega)
          intro w5 hw5
          have h5n : w5 ≠ nl := (ne_of_none hn4 hw5).symm
          walk_at "go"
          refine ⟨nl, w5, found ++ [d], r ++ [d] ++ [d], _, _, rfl, (ex_new e4 hw5).mut hnl0, h5n.symm, hnl0, fresh_back e4 hw5, ?_, ?_, hn, by simp [hfl], by simp; omega, fun e he => ?_⟩
          · rw [upd_same, tk, hwU]
          · rw [upd_ne h5n, upd_same]
            simp [nums]
          · simp only [List.mem_append, List.mem_singleton] at he
            rcases he with (he | rfl) | rfl
            · exact hri e he
            · omega
            · omega
      · clear hnl hwl hwn hwl0
        rintro σ H1 ⟨nl, wl, found, ds, y5, y6, rfl, e1, hnw, hnl0, hwl0, hn1, hw1, hinv, hfl, hdl, hdd⟩
        rw [List.take_of_length_le (by rw [List.length_zipWith]; exact Nat.min_le_left _ _)] at hn1
        walk_at "go"
        intro p hp
        have e2 := ex_new e1 hp (o := .tup (List.zipWith (mpF v u c) t.enc (t.deps 0)).flatten)
        rcases hmode with ⟨rfl, h1n, q⟩ | ⟨h2n, ⟨b, rfl, hB⟩, hul, hprod, q⟩
        · refine q _ p e2 (SqT.of ?_)
          rw [upd_same, Tm.enc_vmap]
          have : ∀ (xs : List V) (ds : List Nat), (List.zipWith (mpF .non u c) xs ds).flatten = List.zipWith (vm (lif c)) xs ds := fun xs => by
            induction xs with
            | nil => intro ds; rfl
            | cons x xs ih =>
              intro ds
              cases ds with
              | nil => rfl
              | cons d ds =>
                rw [List.zipWith_cons_cons, List.zipWith_cons_cons, List.flatten_cons, ih]
                simp [mpF]
          rw [this]
        · refine q _ p e2 (SqT.of ?_)
          have ep : mpF (.ref b) u c = pvs u := by
            funext x d
            simp [mpF]
          rw [upd_same, Tm.enc_put, ep]
end
end Ly
set_option Elab.async false
set_option linter.all false
set_option maxRecDepth 100000
set_option maxHeartbeats 8000000
namespace Ly
open PySem PySem.Spec PyProof.Rows L2 Evl
local macro_rules | `(tactic| walk_at "ne") => `(tactic| first
  | assumption
  | ((refine' Ne.symm ?hq); (case hq => assumption))
  | ((refine' ne_of_none ?nh1 ?nh2); (case nh2 => assumption); (case nh1 => walk_at "hp"))
  | ((refine' Ne.symm (ne_of_none ?nh1 ?nh2)); (case nh2 => assumption); (case nh1 => walk_at "hp")))
local macro_rules | `(tactic| walk_at "hp") => `(tactic| first
  | assumption
  | exact upd_same
  | ((refine' SqL.of ?hq); (case hq => walk_at "hp"))
  | ((refine' SqT.of ?hq); (case hq => walk_at "hp"))
  | ((refine' (upd_ne ?hne).trans ?hrest); (case hne => walk_at "ne"); (case hrest => walk_at "hp"))
  | ((refine' ly_at ?hex ?hh); (case hex => assumption); (case hh => walk_at "hp"))
  | ((refine' ly_atF ?hex ?hnn ?hh); (case hex => assumption); (case hh => walk_at "hp"); (case hnn => walk_at "ne"))
  | ((refine' ex_t ?hex ?hh); (case hh => assumption); (case hex => walk_at "ex"))
  | ((refine' ex_l ?hex ?hh); (case hh => assumption); (case hex => walk_at "ex")))
local macro_rules | `(tactic| walk_at "ex") => `(tactic| first
  | assumption
  | exact Ex.refl _
  | ((refine' ex_new ?xa ?xb); (case xb => assumption); (case xa => walk_at "ex"))
  | ((refine' ex_upd ?xa ?xb); (case xb => walk_at "free"); (case xa => walk_at "ex"))
  | ((refine' Ex.trans ?xa ?xb); (case xb => assumption); (case xa => walk_at "ex")))
local macro_rules | `(tactic| walk_at "free") => `(tactic| first
  | assumption
  | ((refine' fresh_back ?xa ?xb); (case xb => assumption); (case xa => walk_at "ex")))
local macro_rules | `(tactic| walk_at "fr") => `(tactic| first
  | assumption
  | exact Fr.refl _ _
  | ((refine' Fr.own ?hq); (case hq => walk_at "fr"))
  | ((refine' Fr.new ?xa ?xb); (case xb => assumption); (case xa => walk_at "fr"))
  | ((refine' Fr.mut ?xa ?xb); (case xb => assumption); (case xa => walk_at "fr"))
  | ((refine' Fr.trans ?xa ?xb); (case xb => assumption); (case xa => walk_at "fr"))
  | ((refine' Fr.trans ?xa (Fr.ex ?xb)); (case xb => assumption); (case xa => walk_at "fr")))
local macro_rules | `(tactic| walk_at "go1") => `(tactic| first
  | (with_reducible refine' w_seq ?_)
  | (with_reducible refine' w_asg ?_)
  | (with_reducible refine' w_ret ?_)
  | (with_reducible refine' w_drop ?_)
  | (with_reducible refine' w_if ?_)
  | (with_reducible refine' w_next ?_)
  | (with_reducible refine' w_name ?_)
  | (with_reducible refine' w_sub ?_)
  | ((with_reducible refine' w_var ?hv ?_); (case hv => exact rfl))
  | (with_reducible refine' w_c ?_)
  | (with_reducible refine' w_op ?_)
  | (with_reducible refine' w_un ?_)
  | (with_reducible refine' w_ch ?_)
  | (with_reducible refine' w_I0 ?_)
  | ((with_reducible refine' w_I ?hc ?_); (case hc => first | (exact ly_mulL (by decide) (by decide)) | (exact ly_mulR (by decide) (by decide)) | (exact ly_mulL (by omega) (by omega)) | (show (_ : Int) ≠ 0; decide) | (show (_ : Int) ≠ 0; omega) | (exact ⟨by decide, by decide⟩) | (exact ⟨by omega, by omega⟩)))
  | (with_reducible refine' w_U ?_)
  | ((with_reducible refine' w_eq ?hs ?_); (case hs => exact rfl))
  | ((with_reducible refine' w_ne ?hs ?_); (case hs => exact rfl))
  | (with_reducible refine' w_isB ?_)
  | (with_reducible refine' w_notB ?_)
  | (with_reducible refine' w_nil ?_)
  | (with_reducible refine' w_cons ?_)
  | (with_reducible refine' w_tup ?_)
  | (with_reducible refine' w_lst ?_)
  | (with_reducible refine' w_cb ?_)
  | (with_reducible refine' w_call ?_)
  | (with_reducible refine' w_bm ?_)
  | (with_reducible refine' w_bm0 ?_)
  | ((with_reducible refine' w_app ?hh ?hz ?_); (case hh => walk_at "hp"); (case hz => first | exact ly_lt (by omega) | exact ly_lt (by simp only [List.length_append, List.length_map, List.length_cons, List.length_nil]; omega)))
  | ((with_reducible refine' w_popA ?hh ?_); (case hh => walk_at "hp"))
  | ((with_reducible refine' w_ext ?hh ?hh2 ?hz ?_); (case hh => walk_at "hp"); (case hh2 => walk_at "hp"))
  | ((with_reducible refine' w_ixL ?hh ?ha ?_); (case hh => walk_at "hp"); (case ha => first | exact rfl | exact at_map (by omega) | exact atI_last _ _ | ((refine' at_of ?ae ?ah); (case ah => assumption); (case ae => omega))))
  | ((with_reducible refine' w_ixT ?hh ?ha ?_); (case hh => walk_at "hp"); (case ha => first | exact rfl | exact at_map (by omega) | exact atI_last _ _ | ((refine' at_of ?ae ?ah); (case ah => assumption); (case ae => omega))))
  | ((with_reducible refine' w_cat ?hh ?hh2 ?hz ?_); (case hh => walk_at "hp"); (case hh2 => walk_at "hp"))
  | ((with_reducible refine' w_setL ?hh ?ha ?_); (case hh => walk_at "hp"); (case ha => exact rfl))
  | (with_reducible refine' w_test ?_)
  | (with_reducible refine' w_tB ?_)
  | (with_reducible refine' w_bl ?_)
  | (with_reducible refine' w_and ?_)
  | (with_reducible refine' w_or ?_)
  | (with_reducible refine' w_not ?_)
  | (with_reducible refine' w_andV ?_)
  | (with_reducible refine' w_orV ?_)
  | (with_reducible refine' w_notV ?_)
  | (with_reducible refine' w_ifE ?_)
  | (with_reducible refine' w_for ?_)
  | ((with_reducible refine' w_nin ?hh ?_); (case hh => walk_at "hp"))
  | ((with_reducible refine' w_sorted ?hh ?_); (case hh => walk_at "hp"))
  | (with_reducible refine' w_tsadd ?_)
  | ((with_reducible refine' w_tsadd1 ?hh ?_); (case hh => walk_at "hp"))
  | ((with_reducible refine' w_sadd ?hh ?hr ?_); (case hh => walk_at "hp"); (case hr => omega))
  | (with_reducible refine' w_iZ ?_)
  | ((with_reducible refine' w_iZ1 ?hh ?hh2 ?_); (case hh => walk_at "hp"); (case hh2 => walk_at "hp"))
  | (with_reducible refine' w_iS ?_)
  | (with_reducible refine' w_iS1 ?_)
  | ((with_reducible refine' w_gtup ?hh ?hn ?_); (case hh => walk_at "hp"); (case hn => exact rfl))
  | (with_reducible refine' w_gcons ?_)
  | (with_reducible refine' w_gnil ?_)
  | (with_reducible refine' w_js ?_)
  | (with_reducible refine' w_jsn ?_)
  | ((with_reducible refine' w_js1 ?hl ?_); (case hl => decide +kernel))
  | (with_reducible refine' w_fmt ?_)
  | ((with_reducible refine' w_fmt1 ?hl ?_); (case hl => decide +kernel))
  | (with_reducible refine' w_callS ?_)
  | ((with_reducible refine' w_truL ?hh ?_); (case hh => walk_at "hp"))
  | (with_reducible refine' w_lc ?_)
  | (with_reducible refine' w_yes ?_)
  | ((with_reducible refine' w_wipe ?he ?_); (case he => exact rfl))
  | (with_reducible refine' w_iL ?_)
  | (with_reducible refine' w_iT ?_)
  | (with_reducible refine' w_iR ?_)
  | ((with_reducible refine' w_iL1 ?hh ?_); (case hh => walk_at "hp"))
  | ((with_reducible refine' w_iT1 ?hh ?_); (case hh => walk_at "hp"))
  | ((with_reducible refine' w_iR1 ?h1 ?h2 ?_); (case h1 => omega); (case h2 => omega))
  | ((with_reducible refine' w_aug ?hv ?_); (case hv => exact rfl))
  | (with_reducible refine' w_ipI ?_)
  | ((with_reducible refine' w_isi ?hy ?hk ?_); (case hy => walk_at "ty"); (case hk => walk_at "kit"))
  | ((with_reducible refine' w_int ?_))
  | ((with_reducible refine' w_intB ?_))
  | ((with_reducible refine' w_abs ?_))
  | ((with_reducible refine' w_lenL ?hh ?_); (case hh => walk_at "hp"))
  | ((with_reducible refine' w_lenT ?hh ?_); (case hh => walk_at "hp"))
  | ((with_reducible refine' w_tupL ?hh ?_); (case hh => walk_at "hp"))
  | ((with_reducible refine' w_tupT ?hh ?_); (case hh => walk_at "hp"))
  | ((with_reducible refine' w_catA ?hh ?hh2 ?hz ?_); (case hh => walk_at "hp"); (case hh2 => walk_at "hp"); (case hz => walk_at "len"))
  | ((with_reducible refine' w_repB ?hh ?hne ?h2 ?h3 ?hz ?_); (case hh => walk_at "hp"); (case hne => simp); (case h2 => omega); (case h3 => omega); (case hz => exact Nat.le_of_ble_eq_true rfl))
  | ((with_reducible refine' w_eqN ?hh ?hh2 ?n1 ?n2 ?_); (case hh => walk_at "hp"); (case hh2 => walk_at "hp"); (case n1 => walk_at "nd"); (case n2 => walk_at "nd"))
  | ((with_reducible refine' w_neN ?hh ?hh2 ?n1 ?n2 ?_); (case hh => walk_at "hp"); (case hh2 => walk_at "hp"); (case n1 => walk_at "nd"); (case n2 => walk_at "nd"))
  | ((with_reducible refine' w_eqL ?hh ?hh2 ?n1 ?n2 ?_); (case hh => walk_at "hp"); (case hh2 => walk_at "hp"); (case n1 => walk_at "nd"); (case n2 => walk_at "nd"))
  | ((with_reducible refine' w_neL ?hh ?hh2 ?n1 ?n2 ?_); (case hh => walk_at "hp"); (case hh2 => walk_at "hp"); (case n1 => walk_at "nd"); (case n2 => walk_at "nd"))
  | ((with_reducible refine' w_neNon ?hh2 ?n2 ?_); (case hh2 => walk_at "hp"); (case n2 => walk_at "nd"))
  | ((with_reducible refine' w_eqNon ?hh2 ?n2 ?_); (case hh2 => walk_at "hp"); (case n2 => walk_at "nd"))
  | ((with_reducible refine' w_slA ?hh ?_); (case hh => walk_at "hp"))
  | ((with_reducible refine' w_disp ?hz ?_); (case hz => exact sz_of (Nat.le_of_ble_eq_true rfl)))
  | ((with_reducible refine' w_tyL ?hh ?_); (case hh => walk_at "hp"))
  | (with_reducible refine' iteT ?_)
  | (with_reducible refine' iteF ?_)
  | (with_reducible refine' w_nT ?_)
  | (with_reducible refine' w_nn ?_)
  | (with_reducible refine' w_nnT ?_)
  | (with_reducible refine' w_nnR ?_)
  | (with_reducible refine' w_neG ?_)
  | (with_reducible refine' w_eqG ?_)
  | (with_reducible refine' w_neS ?_)
  | (with_reducible refine' w_eqS ?_)
  | (with_reducible refine' w_neSb ?_)
  | (with_reducible refine' w_eqSb ?_)
  | (with_reducible refine' w_deIS ?_)
  | (with_reducible refine' w_deSI ?_)
  | (with_reducible refine' w_deISn ?_)
  | ((with_reducible refine' w_deST ?he ?_); (case he => decide +kernel))
  | ((with_reducible refine' w_deSF ?he ?_); (case he => decide +kernel))
  | ((with_reducible refine' w_deSTn ?he ?_); (case he => decide +kernel))
  | ((with_reducible refine' w_deSFn ?he ?_); (case he => decide +kernel))
  | (with_reducible refine' w_nF ?_)
  | dsimp only [Bool.not_true, Bool.not_false])
local macro_rules | `(tactic| walk_at "ty") => `(tactic| first
  | exact .base (.int _) | exact .base (.str _) | exact .base (.bl _) | exact .base .non
  | ((refine' tyx_t ?hq); (case hq => walk_at "hp")) | ((refine' tyx_l ?hq); (case hq => walk_at "hp")) | ((refine' .base (.tup ?hq)); (case hq => walk_at "hp")) | assumption)
local macro_rules | `(tactic| walk_at "go") => `(tactic| repeat walk_at "go1")
local macro_rules | `(tactic| walk_at "st") => `(tactic| try dsimp only [cxOf, Cx.nox, Cx.wish])
local macro_rules | `(tactic| walk_at "kit") => `(tactic| with_reducible first | exact kit_int_int | exact kit_int_str | exact kit_int_bool | exact kit_int_tuple | exact kit_int_list | exact kit_str_int | exact kit_str_str | exact kit_str_bool | exact kit_str_tuple | exact kit_str_list | exact kit_bool_int | exact kit_bool_str | exact kit_bool_bool | exact kit_bool_tuple | exact kit_bool_list | exact kit_NoneType_int | exact kit_NoneType_str | exact kit_NoneType_bool | exact kit_NoneType_tuple | exact kit_NoneType_list | exact kit_list_int | exact kit_list_str | exact kit_list_bool | exact kit_list_tuple | exact kit_list_list | exact kit_tuple_int | exact kit_tuple_str | exact kit_tuple_bool | exact kit_tuple_tuple | exact kit_tuple_list)
local macro_rules | `(tactic| walk_at "nd") => `(tactic| first
  | assumption
  | exact Tm.nds _
  | exact Nds.nil
  | exact Nds.ofInts _
  | ((refine' Nds.cons ?na ?nb); (case na => first | exact Nds.I _ | exact Nds.L | exact Nds.A); (case nb => walk_at "nd"))
  | ((refine' Nds.app ?na ?nb); (case na => walk_at "nd"); (case nb => walk_at "nd"))
  | ((refine' Nds.rep ?na _); (case na => walk_at "nd")))
local macro_rules | `(tactic| walk_at "len") => `(tactic| first
  | exact ly_sz (by omega)
  | ((simp only [List.length_append, List.length_cons, List.length_nil, List.length_map, PyProof.Rows.lm_len_rep_flat]); exact ly_sz (by omega)))
local macro_rules | `(tactic| walk_at "go1") => `(tactic| first
  | (with_reducible refine' w_kget2 ?_)
  | (with_reducible refine' w_isRN ?_)
  | (with_reducible refine' w_isNN ?_)
  | (with_reducible refine' w_isIN ?_)
  | ((with_reducible refine' w_kg ?hd ?_); (case hd => assumption)))
local macro_rules | `(tactic| walk_at "go1") => `(tactic| first
  | ((with_reducible refine' w_extT ?hh ?hh2 ?hz ?_); (case hh => walk_at "hp"); (case hh2 => walk_at "hp"))
  | ((with_reducible refine' w_I ?hc ?_); (case hc => exact ⟨by decide, by decide, by decide⟩))
  | (with_reducible refine' w_sl ?_)
  | (with_reducible refine' w_noP ?_)
  | (with_reducible refine' w_part ?_)
  | (with_reducible refine' w_part1 ?_)
  | (with_reducible refine' w_it ?_)
  | (with_reducible refine' w_it1 ?_)
  | ((with_reducible refine' w_lenZ ?hz ?_); (case hz => omega))
  | ((with_reducible refine' w_addZb ?hz ?_); (case hz => omega))
  | ((with_reducible refine' w_addZf ?hz ?_); (case hz => omega))
  | ((with_reducible refine' w_addZa ?hz ?_); (case hz => omega))
  | ((with_reducible refine' w_inS ?hh ?_); (case hh => walk_at "hp"))
  | ((with_reducible refine' w_ixT ?hh ?ha ?_); (case hh => assumption); (case ha => exact atI_nat (by assumption))))
local macro_rules | `(tactic| walk_at "go1") => `(tactic| first
  | (with_reducible refine' w_iR2 ?_)
  | ((with_reducible refine' w_iR21 ?h1 ?h2 ?h3 ?h4 ?_); (case h1 => omega); (case h2 => omega); (case h3 => omega); (case h4 => omega))
  | (with_reducible refine' w_nnI ?_)
  | (with_reducible refine' w_max ?_)
  | (with_reducible refine' w_break ?_)
  | (with_reducible refine' w_cont ?_))
section
variable {P : Program} {w : World} {K : PySem.W.Frag} {mg : Str → Option Value} {base : Heap} {tk : Nat → Tok} {cl : Nat → Addr}
def spLStep87 (K : PySem.W.Frag) : Sp := fun vs H Q _ => ∃ (a : Addr) (t : Tm) (p : List Nat) (i : Nat) (b u : Tm), vs = [.ref a, .int (i : Int)] ∧ SqT K H a t.enc ∧ t.Red p i b u ∧ t.enc.length ≤ 3000 ∧ ∀ H' r, Ex H H' → SqT K H' r (t.step p).enc → Q (.ref r) H'
theorem ok_lstep87 {f : Addr} {fd : FuncData} (F : Fun K "_law_stepped" "_law_stepped" s_law_stepped f fd) (T : Txt w K mg tk cl)
    (D1 : Def P w K mg base CX0 1 "_law_end" ["term", "at"] (spEnd K)) (D2 : Def P w K mg base CX0 3 "_law_mapped" ["term", "value", "count"] (spMapped K 2)) : FnOk P w K mg base CX0 4 f fd ["term", "at"] (spLStep87 K) := by
  obtain ⟨f1, fd1, g_law_end, kp_law_end, b_law_end, G_law_end⟩ := D1
  obtain ⟨f2, fd2, g_law_mapped, kp_law_mapped, b_law_mapped, G_law_mapped⟩ := D2
  refine F.ok sc_law_stepped (fun vs H Q E h => ?_) (fun cdv A outer s H vs Q E hr h => ?_)
  · obtain ⟨a, t, p, i, b, u, rfl, _⟩ := h
    rfl
  · obtain ⟨a, t, p, i, b, u, rfl, hS, hred, hlen, good⟩ := h
    refine ⟨_, (pss_cons (ps_set (i := 2) sc_law_stepped.nd rfl (.inl rfl) (pe_call G_law_end (hr.mono (by first | decide | omega)) (by rfl) g_law_end kp_law_end b_law_end .nil pass0 (pa_cons (pv 0) (pa_cons (pe_op op_add (pv 1) pe_int) pa_nil)))) (pss_cons (ps_set (i := 3) sc_law_stepped.nd rfl (.inl rfl) (pe_call G_law_end (hr.mono (by first | decide | omega)) (by rfl) g_law_end kp_law_end b_law_end .nil pass0 (pa_cons (pv 0) (pa_cons (pv 2) pa_nil)))) (pss_one (ps_ret (pe_op op_catA (pe_op op_catA (pe_slice sl_tupA (pv 0) po_none (po_some (pv 1))) (pe_call G_law_mapped (hr.mono (by first | decide | omega)) (by rfl) g_law_mapped kp_law_mapped b_law_mapped .nil pass0 (pa_cons (pe_slice sl_tupA (pv 0) (po_some (pe_op op_add (pv 1) pe_int)) (po_some (pv 2))) (pa_cons (pe_slice sl_tupA (pv 0) (po_some (pv 2)) (po_some (pv 3))) (pa_cons pe_int pa_nil))))) (pe_slice sl_tupA (pv 0) (po_some (pv 3)) po_none)))))), ?_⟩
    refine sl_of (σ2 := [some _, some _, none, none]) rfl ?_
    walk_at "st"
    walk_at "go"
    obtain ⟨post, hdr⟩ := Tm.red_at hred
    have lt := Tm.sub_lt hred
    have hal : (Tm.app (.lam b) u).enc.length = b.enc.length + u.enc.length + 2 := by
      simp only [Tm.enc, List.length_cons, List.length_append]
      omega
    rw [hal] at lt
    have hll : (Tm.lam b).enc.length = b.enc.length + 1 := rfl
    have d1 : t.enc.drop (i + 1) = (Tm.lam b).enc ++ (u.enc ++ post) := (at_drop hdr).2
    have d2 : t.enc.drop (i + 2) = b.enc ++ (u.enc ++ post) := (at_drop d1).2
    have d3 : t.enc.drop (i + 1 + (Tm.lam b).enc.length) = u.enc ++ post := by
      rw [← List.drop_drop, d1, List.drop_left]
    refine ⟨a, t.enc, i + 1, .lam b, _, rfl, hS, d1, by omega, ?_⟩
    walk_at "go"
    refine ⟨a, t.enc, i + 1 + (Tm.lam b).enc.length, u, _, rfl, hS, d3, by omega, ?_⟩
    walk_at "go"
    intro x1 H2 e2 hx1
    rw [cut_lo] at hx1
    have hS2 := ex_t e2 hS
    walk_at "go"
    intro x2 H3 e3 hx2
    have c2 : cutV t.enc (some ((i : Int) + 2)) (some ((i + 1 + (Tm.lam b).enc.length : Nat) : Int)) = b.enc := by
      have h := cut_mid (i := i + 2) (u := b) d2
      have e : i + 1 + (Tm.lam b).enc.length = i + 2 + b.enc.length := by omega
      rw [e]
      exact h
    rw [c2] at hx2
    have hS3 := ex_t e3 hS2
    walk_at "go"
    intro x3 H4 e4 hx3
    have c3 : cutV t.enc (some ((i + 1 + (Tm.lam b).enc.length : Nat) : Int)) (some ((i + 1 + (Tm.lam b).enc.length + u.enc.length : Nat) : Int)) = u.enc := cut_mid d3
    rw [c3] at hx3
    have hS4 := ex_t e4 hS3
    have hx2 := ex_t e4 hx2
    have hx1 := ex_t (e3.trans e4) hx1
    have e9 := Tm.step_enc hred
    have e10 : i + 1 + (Tm.lam b).enc.length + u.enc.length = i + 2 + b.enc.length + u.enc.length := by omega
    have hprod : b.enc.length * u.enc.length ≤ 3000 * 3000 := Nat.mul_le_mul (by omega) (by omega)
    have hpl := Tm.put_len u b 0
    walk_at "go"
    refine ⟨x2, .ref x3, 0, b, u, rfl, hx2, by omega, by omega, .inr ⟨by omega, ⟨x3, rfl, hx3⟩, by omega, by omega, fun H5 x4 e5 hx4 => ?_⟩⟩
    have hS5 := ex_t e5 hS4
    have hx1 := ex_t e5 hx1
    refine w_catA hx1 hx4 (ly_sz (by rw [List.length_take]; omega)) fun x5 H6 e6 hx5 => ?_
    have hS6 := ex_t e6 hS5
    walk_at "go"
    intro x6 H7 e7 hx6
    rw [cut_hi] at hx6
    have hx5 := ex_t e7 hx5
    walk_at "go"
    refine w_catA hx5 hx6 (ly_sz (by rw [List.length_append, List.length_take, List.length_drop]; omega)) fun x7 H8 e8 hx7 => ?_
    rw [e10, ← e9] at hx7
    exact good _ _ (e2.trans (e3.trans (e4.trans (e5.trans (e6.trans (e7.trans e8)))))) hx7
theorem redI_last (t : Tm) : redI t.enc t.enc.length = redI t.enc (t.enc.length - 1) := by
  have pos := List.length_pos_iff.mpr t.enc_ne
  obtain ⟨n, hn⟩ : ∃ n, t.enc.length = n + 1 := ⟨t.enc.length - 1, by omega⟩
  have hb : redB t.enc n = false := by
    unfold redB
    rw [List.getElem?_eq_none (show t.enc.length ≤ n + 1 by omega)]
    simp
  rw [hn]
  show redI t.enc n ++ (if redB t.enc n = true then [n] else []) = redI t.enc (n + 1 - 1)
  rw [hb]
  simp
theorem ok_lreds87 {f : Addr} {fd : FuncData} {k : Nat} (F : Fun K "_law_redexes" "_law_redexes" s_law_redexes f fd) (T : Txt w K mg tk cl) : FnOk P w K mg base CX0 (k + 1) f fd ["term"] (spRedIx K) := by
  refine F.ok sc_law_redexes (fun vs H Q E h => ?_) (fun cdv A outer s H vs Q E hr h => ?_)
  · obtain ⟨a, t, rfl, _⟩ := h
    rfl
  · obtain ⟨a, t, rfl, hS, hlen, q⟩ := h
    refine ⟨_, (pss_one (ps_ret (pe_lc (own := [("at", 1)]) (g := gName 1) rfl sc_law_redexes.nd (pi_range1 (by rfl) T.n_range (pa_cons (pe_op op_sub (pe_callB call_len_seq (by rfl) T.n_len (by decide +kernel) (pa_cons (pv 0) pa_nil)) pe_int) pa_nil)) (blkOk_by (N := N_law_redexes) (sc := defScope s_law_redexes) (by decide +kernel)) (fun _ _ _ _ _ => pg_name (i := 1) sc_law_redexes.nd rfl (Or.inl rfl)) (fun _ _ _ _ _ => (pts_one (PW.pt (pw_and (pt_cmpR op_eq (pe_ix (ix_tupK (K := K) (by rfl)) (pv 0) (pv 1) (fun _ _ => rfl)) pe_str (nomark _)) (pw_and1 (pt_cmpR op_eq (pe_ix (ix_tupK (K := K) (by rfl)) (pv 0) (pe_op op_add (pv 1) pe_int) (fun _ _ => rfl)) pe_str (nomark _))))))) (fun _ _ _ _ _ => (pv 1))))), ?_⟩
    refine sl_of (σ2 := [some _, none]) rfl ?_
    walk_at "st"
    have pos := List.length_pos_iff.mpr t.enc_ne
    walk_at "go"
    intro nl hnl
    refine lc_range (lo := 0) (n := ((t.enc.length : Int) - 1).toNat) (fun i H' => Ex H H' ∧ H' nl = some (.lst (nums (redI t.enc i)))) ⟨by walk_at "ex", upd_same⟩ ?_ ?_
    · rintro i H2 hi ⟨e2, hn2⟩
      have hil : i + 1 < t.enc.length := by omega
      have hS2 := ex_t e2 hS
      have ll : (nums (redI t.enc i)).length < 3000000 := by
        rw [List.length_map]
        have := redI_len t.enc i
        omega
      obtain ⟨x, hx⟩ : ∃ x, t.enc[i]? = some x := ⟨_, List.getElem?_eq_getElem (by omega)⟩
      obtain ⟨y, hy⟩ : ∃ y, t.enc[i + 1]? = some y := ⟨_, List.getElem?_eq_getElem hil⟩
      have ix : atI t.enc (0 + (i : Int)) = some x := at_of (j := i) (by omega) hx
      have iy : atI t.enc (0 + (i : Int) + 1) = some y := at_of (j := i + 1) (by omega) hy
      have ri : redI t.enc (i + 1) = redI t.enc i ++ (if redB t.enc i = true then [i] else []) := rfl
      have yes : redB t.enc i = true → Ex H (upd H2 nl (.lst (nums (redI t.enc i) ++ [V.int (0 + (i : Int))]))) ∧ upd H2 nl (.lst (nums (redI t.enc i) ++ [V.int (0 + (i : Int))])) nl = some (.lst (nums (redI t.enc (i + 1)))) := fun h => by
        rw [h, if_pos rfl] at ri
        refine ⟨e2.mut hnl, ?_⟩
        rw [upd_same, ri]
        simp [nums]
      have no : redB t.enc i = false → Ex H H2 ∧ H2 nl = some (.lst (nums (redI t.enc (i + 1)))) := fun h => by
        rw [h, if_neg (by simp), List.append_nil] at ri
        rw [ri]
        exact ⟨e2, hn2⟩
      rcases Tm.int_nat (List.mem_of_getElem? hx) with ⟨m, rfl⟩ | rfl | rfl
      · walk_at "go"
        exact no (redB_of hx (by simp))
      · walk_at "go"
        exact no (redB_of hx (by simp [str_ne1]))
      · have hb := redB_app hx hy
        rcases Tm.int_nat (List.mem_of_getElem? hy) with ⟨m, rfl⟩ | rfl | rfl
        · walk_at "go"
          refine w_ixT hS2 ix ?_
          walk_at "go"
          exact no (by rw [hb]; exact decide_eq_false (fun z => nomatch z))
        · walk_at "go"
          refine w_ixT hS2 ix ?_
          walk_at "go"
          refine ⟨_, hn2, ly_lt (by omega), yes (by rw [hb]; exact decide_eq_true rfl)⟩
        · walk_at "go"
          refine w_ixT hS2 ix ?_
          walk_at "go"
          exact no (by rw [hb]; exact decide_eq_false (by decide +kernel))
    · rintro H2 ⟨e2, hn2⟩
      have e0 : ((t.enc.length : Int) - 1).toNat = t.enc.length - 1 := by omega
      rw [e0, ← redI_last] at hn2
      exact q H2 nl e2 hnl hn2

end
end Ly
set_option Elab.async false
set_option linter.all false
set_option maxRecDepth 100000
set_option maxHeartbeats 8000000
namespace Ly
open PySem PySem.Spec PyProof.Rows L2 Evl
local macro_rules | `(tactic| walk_at "ne") => `(tactic| first
  | assumption
  | ((refine' Ne.symm ?hq); (case hq => assumption))
  | ((refine' ne_of_none ?nh1 ?nh2); (case nh2 => assumption); (case nh1 => walk_at "hp"))
  | ((refine' Ne.symm (ne_of_none ?nh1 ?nh2)); (case nh2 => assumption); (case nh1 => walk_at "hp")))
local macro_rules | `(tactic| walk_at "hp") => `(tactic| first
  | assumption
  | exact upd_same
  | ((refine' SqL.of ?hq); (case hq => walk_at "hp"))
  | ((refine' SqT.of ?hq); (case hq => walk_at "hp"))
  | ((refine' (upd_ne ?hne).trans ?hrest); (case hne => walk_at "ne"); (case hrest => walk_at "hp"))
  | ((refine' ly_at ?hex ?hh); (case hex => assumption); (case hh => walk_at "hp"))
  | ((refine' ly_atF ?hex ?hnn ?hh); (case hex => assumption); (case hh => walk_at "hp"); (case hnn => walk_at "ne"))
  | ((refine' ex_t ?hex ?hh); (case hh => assumption); (case hex => walk_at "ex"))
  | ((refine' ex_l ?hex ?hh); (case hh => assumption); (case hex => walk_at "ex")))
local macro_rules | `(tactic| walk_at "ex") => `(tactic| first
  | assumption
  | exact Ex.refl _
  | ((refine' ex_new ?xa ?xb); (case xb => assumption); (case xa => walk_at "ex"))
  | ((refine' ex_upd ?xa ?xb); (case xb => walk_at "free"); (case xa => walk_at "ex"))
  | ((refine' Ex.trans ?xa ?xb); (case xb => assumption); (case xa => walk_at "ex")))
local macro_rules | `(tactic| walk_at "free") => `(tactic| first
  | assumption
  | ((refine' fresh_back ?xa ?xb); (case xb => assumption); (case xa => walk_at "ex")))
local macro_rules | `(tactic| walk_at "fr") => `(tactic| first
  | assumption
  | exact Fr.refl _ _
  | ((refine' Fr.own ?hq); (case hq => walk_at "fr"))
  | ((refine' Fr.new ?xa ?xb); (case xb => assumption); (case xa => walk_at "fr"))
  | ((refine' Fr.mut ?xa ?xb); (case xb => assumption); (case xa => walk_at "fr"))
  | ((refine' Fr.trans ?xa ?xb); (case xb => assumption); (case xa => walk_at "fr"))
  | ((refine' Fr.trans ?xa (Fr.ex ?xb)); (case xb => assumption); (case xa => walk_at "fr")))
local macro_rules | `(tactic| walk_at "go1") => `(tactic| first
  | (with_reducible refine' w_seq ?_)
  | (with_reducible refine' w_asg ?_)
  | (with_reducible refine' w_ret ?_)
  | (with_reducible refine' w_drop ?_)
  | (with_reducible refine' w_if ?_)
  | (with_reducible refine' w_next ?_)
  | (with_reducible refine' w_name ?_)
  | (with_reducible refine' w_sub ?_)
  | ((with_reducible refine' w_var ?hv ?_); (case hv => exact rfl))
  | (with_reducible refine' w_c ?_)
  | (with_reducible refine' w_op ?_)
  | (with_reducible refine' w_un ?_)
  | (with_reducible refine' w_ch ?_)
  | (with_reducible refine' w_I0 ?_)
  | ((with_reducible refine' w_I ?hc ?_); (case hc => first | (exact ly_mulL (by decide) (by decide)) | (exact ly_mulR (by decide) (by decide)) | (exact ly_mulL (by omega) (by omega)) | (show (_ : Int) ≠ 0; decide) | (show (_ : Int) ≠ 0; omega) | (exact ⟨by decide, by decide⟩) | (exact ⟨by omega, by omega⟩)))
  | (with_reducible refine' w_U ?_)
  | ((with_reducible refine' w_eq ?hs ?_); (case hs => exact rfl))
  | ((with_reducible refine' w_ne ?hs ?_); (case hs => exact rfl))
  | (with_reducible refine' w_isB ?_)
  | (with_reducible refine' w_notB ?_)
  | (with_reducible refine' w_nil ?_)
  | (with_reducible refine' w_cons ?_)
  | (with_reducible refine' w_tup ?_)
  | (with_reducible refine' w_lst ?_)
  | (with_reducible refine' w_cb ?_)
  | (with_reducible refine' w_call ?_)
  | (with_reducible refine' w_bm ?_)
  | (with_reducible refine' w_bm0 ?_)
  | ((with_reducible refine' w_app ?hh ?hz ?_); (case hh => walk_at "hp"); (case hz => first | exact ly_lt (by omega) | exact ly_lt (by simp only [List.length_append, List.length_map, List.length_cons, List.length_nil]; omega)))
  | ((with_reducible refine' w_popA ?hh ?_); (case hh => walk_at "hp"))
  | ((with_reducible refine' w_ext ?hh ?hh2 ?hz ?_); (case hh => walk_at "hp"); (case hh2 => walk_at "hp"))
  | ((with_reducible refine' w_ixL ?hh ?ha ?_); (case hh => walk_at "hp"); (case ha => first | exact rfl | exact at_map (by omega) | exact atI_last _ _ | ((refine' at_of ?ae ?ah); (case ah => assumption); (case ae => omega))))
  | ((with_reducible refine' w_ixT ?hh ?ha ?_); (case hh => walk_at "hp"); (case ha => first | exact rfl | exact at_map (by omega) | exact atI_last _ _ | ((refine' at_of ?ae ?ah); (case ah => assumption); (case ae => omega))))
  | ((with_reducible refine' w_cat ?hh ?hh2 ?hz ?_); (case hh => walk_at "hp"); (case hh2 => walk_at "hp"))
  | ((with_reducible refine' w_setL ?hh ?ha ?_); (case hh => walk_at "hp"); (case ha => exact rfl))
  | (with_reducible refine' w_test ?_)
  | (with_reducible refine' w_tB ?_)
  | (with_reducible refine' w_bl ?_)
  | (with_reducible refine' w_and ?_)
  | (with_reducible refine' w_or ?_)
  | (with_reducible refine' w_not ?_)
  | (with_reducible refine' w_andV ?_)
  | (with_reducible refine' w_orV ?_)
  | (with_reducible refine' w_notV ?_)
  | (with_reducible refine' w_ifE ?_)
  | (with_reducible refine' w_for ?_)
  | ((with_reducible refine' w_nin ?hh ?_); (case hh => walk_at "hp"))
  | ((with_reducible refine' w_sorted ?hh ?_); (case hh => walk_at "hp"))
  | (with_reducible refine' w_tsadd ?_)
  | ((with_reducible refine' w_tsadd1 ?hh ?_); (case hh => walk_at "hp"))
  | ((with_reducible refine' w_sadd ?hh ?hr ?_); (case hh => walk_at "hp"); (case hr => omega))
  | (with_reducible refine' w_iZ ?_)
  | ((with_reducible refine' w_iZ1 ?hh ?hh2 ?_); (case hh => walk_at "hp"); (case hh2 => walk_at "hp"))
  | (with_reducible refine' w_iS ?_)
  | (with_reducible refine' w_iS1 ?_)
  | ((with_reducible refine' w_gtup ?hh ?hn ?_); (case hh => walk_at "hp"); (case hn => exact rfl))
  | (with_reducible refine' w_gcons ?_)
  | (with_reducible refine' w_gnil ?_)
  | (with_reducible refine' w_js ?_)
  | (with_reducible refine' w_jsn ?_)
  | ((with_reducible refine' w_js1 ?hl ?_); (case hl => decide +kernel))
  | (with_reducible refine' w_fmt ?_)
  | ((with_reducible refine' w_fmt1 ?hl ?_); (case hl => decide +kernel))
  | (with_reducible refine' w_callS ?_)
  | ((with_reducible refine' w_truL ?hh ?_); (case hh => walk_at "hp"))
  | (with_reducible refine' w_lc ?_)
  | (with_reducible refine' w_yes ?_)
  | ((with_reducible refine' w_wipe ?he ?_); (case he => exact rfl))
  | (with_reducible refine' w_iL ?_)
  | (with_reducible refine' w_iT ?_)
  | (with_reducible refine' w_iR ?_)
  | ((with_reducible refine' w_iL1 ?hh ?_); (case hh => walk_at "hp"))
  | ((with_reducible refine' w_iT1 ?hh ?_); (case hh => walk_at "hp"))
  | ((with_reducible refine' w_iR1 ?h1 ?h2 ?_); (case h1 => omega); (case h2 => omega))
  | ((with_reducible refine' w_aug ?hv ?_); (case hv => exact rfl))
  | (with_reducible refine' w_ipI ?_)
  | ((with_reducible refine' w_isi ?hy ?hk ?_); (case hy => walk_at "ty"); (case hk => walk_at "kit"))
  | ((with_reducible refine' w_int ?_))
  | ((with_reducible refine' w_intB ?_))
  | ((with_reducible refine' w_abs ?_))
  | ((with_reducible refine' w_lenL ?hh ?_); (case hh => walk_at "hp"))
  | ((with_reducible refine' w_lenT ?hh ?_); (case hh => walk_at "hp"))
  | ((with_reducible refine' w_tupL ?hh ?_); (case hh => walk_at "hp"))
  | ((with_reducible refine' w_tupT ?hh ?_); (case hh => walk_at "hp"))
  | ((with_reducible refine' w_catA ?hh ?hh2 ?hz ?_); (case hh => walk_at "hp"); (case hh2 => walk_at "hp"); (case hz => walk_at "len"))
  | ((with_reducible refine' w_repB ?hh ?hne ?h2 ?h3 ?hz ?_); (case hh => walk_at "hp"); (case hne => simp); (case h2 => omega); (case h3 => omega); (case hz => exact Nat.le_of_ble_eq_true rfl))
  | ((with_reducible refine' w_eqN ?hh ?hh2 ?n1 ?n2 ?_); (case hh => walk_at "hp"); (case hh2 => walk_at "hp"); (case n1 => walk_at "nd"); (case n2 => walk_at "nd"))
  | ((with_reducible refine' w_neN ?hh ?hh2 ?n1 ?n2 ?_); (case hh => walk_at "hp"); (case hh2 => walk_at "hp"); (case n1 => walk_at "nd"); (case n2 => walk_at "nd"))
  | ((with_reducible refine' w_eqL ?hh ?hh2 ?n1 ?n2 ?_); (case hh => walk_at "hp"); (case hh2 => walk_at "hp"); (case n1 => walk_at "nd"); (case n2 => walk_at "nd"))
  | ((with_reducible refine' w_neL ?hh ?hh2 ?n1 ?n2 ?_); (case hh => walk_at "hp"); (case hh2 => walk_at "hp"); (case n1 => walk_at "nd"); (case n2 => walk_at "nd"))
  | ((with_reducible refine' w_neNon ?hh2 ?n2 ?_); (case hh2 => walk_at "hp"); (case n2 => walk_at "nd"))
  | ((with_reducible refine' w_eqNon ?hh2 ?n2 ?_); (case hh2 => walk_at "hp"); (case n2 => walk_at "nd"))
  | ((with_reducible refine' w_slA ?hh ?_); (case hh => walk_at "hp"))
  | ((with_reducible refine' w_disp ?hz ?_); (case hz => exact sz_of (Nat.le_of_ble_eq_true rfl)))
  | ((with_reducible refine' w_tyL ?hh ?_); (case hh => walk_at "hp"))
  | (with_reducible refine' iteT ?_)
  | (with_reducible refine' iteF ?_)
  | (with_reducible refine' w_nT ?_)
  | (with_reducible refine' w_nn ?_)
  | (with_reducible refine' w_nnT ?_)
  | (with_reducible refine' w_nnR ?_)
  | (with_reducible refine' w_neG ?_)
  | (with_reducible refine' w_eqG ?_)
  | (with_reducible refine' w_neS ?_)
  | (with_reducible refine' w_eqS ?_)
  | (with_reducible refine' w_neSb ?_)
  | (with_reducible refine' w_eqSb ?_)
  | (with_reducible refine' w_deIS ?_)
  | (with_reducible refine' w_deSI ?_)
  | (with_reducible refine' w_deISn ?_)
  | ((with_reducible refine' w_deST ?he ?_); (case he => decide +kernel))
  | ((with_reducible refine' w_deSF ?he ?_); (case he => decide +kernel))
  | ((with_reducible refine' w_deSTn ?he ?_); (case he => decide +kernel))
  | ((with_reducible refine' w_deSFn ?he ?_); (case he => decide +kernel))
  | (with_reducible refine' w_nF ?_)
  | dsimp only [Bool.not_true, Bool.not_false])
local macro_rules | `(tactic| walk_at "ty") => `(tactic| first
  | exact .base (.int _) | exact .base (.str _) | exact .base (.bl _) | exact .base .non
  | ((refine' tyx_t ?hq); (case hq => walk_at "hp")) | ((refine' tyx_l ?hq); (case hq => walk_at "hp")) | ((refine' .base (.tup ?hq)); (case hq => walk_at "hp")) | assumption)
local macro_rules | `(tactic| walk_at "go") => `(tactic| repeat walk_at "go1")
local macro_rules | `(tactic| walk_at "st") => `(tactic| try dsimp only [cxOf, Cx.nox, Cx.wish])
local macro_rules | `(tactic| walk_at "kit") => `(tactic| with_reducible first | exact kit_int_int | exact kit_int_str | exact kit_int_bool | exact kit_int_tuple | exact kit_int_list | exact kit_str_int | exact kit_str_str | exact kit_str_bool | exact kit_str_tuple | exact kit_str_list | exact kit_bool_int | exact kit_bool_str | exact kit_bool_bool | exact kit_bool_tuple | exact kit_bool_list | exact kit_NoneType_int | exact kit_NoneType_str | exact kit_NoneType_bool | exact kit_NoneType_tuple | exact kit_NoneType_list | exact kit_list_int | exact kit_list_str | exact kit_list_bool | exact kit_list_tuple | exact kit_list_list | exact kit_tuple_int | exact kit_tuple_str | exact kit_tuple_bool | exact kit_tuple_tuple | exact kit_tuple_list)
local macro_rules | `(tactic| walk_at "nd") => `(tactic| first
  | assumption
  | exact Tm.nds _
  | exact Nds.nil
  | exact Nds.ofInts _
  | ((refine' Nds.cons ?na ?nb); (case na => first | exact Nds.I _ | exact Nds.L | exact Nds.A); (case nb => walk_at "nd"))
  | ((refine' Nds.app ?na ?nb); (case na => walk_at "nd"); (case nb => walk_at "nd"))
  | ((refine' Nds.rep ?na _); (case na => walk_at "nd")))
local macro_rules | `(tactic| walk_at "len") => `(tactic| first
  | exact ly_sz (by omega)
  | ((simp only [List.length_append, List.length_cons, List.length_nil, List.length_map, PyProof.Rows.lm_len_rep_flat]); exact ly_sz (by omega)))
local macro_rules | `(tactic| walk_at "go1") => `(tactic| first
  | (with_reducible refine' w_kget2 ?_)
  | (with_reducible refine' w_isRN ?_)
  | (with_reducible refine' w_isNN ?_)
  | (with_reducible refine' w_isIN ?_)
  | ((with_reducible refine' w_kg ?hd ?_); (case hd => assumption)))
local macro_rules | `(tactic| walk_at "go1") => `(tactic| first
  | ((with_reducible refine' w_extT ?hh ?hh2 ?hz ?_); (case hh => walk_at "hp"); (case hh2 => walk_at "hp"))
  | ((with_reducible refine' w_I ?hc ?_); (case hc => exact ⟨by decide, by decide, by decide⟩))
  | (with_reducible refine' w_sl ?_)
  | (with_reducible refine' w_noP ?_)
  | (with_reducible refine' w_part ?_)
  | (with_reducible refine' w_part1 ?_)
  | (with_reducible refine' w_it ?_)
  | (with_reducible refine' w_it1 ?_)
  | ((with_reducible refine' w_lenZ ?hz ?_); (case hz => omega))
  | ((with_reducible refine' w_addZb ?hz ?_); (case hz => omega))
  | ((with_reducible refine' w_addZf ?hz ?_); (case hz => omega))
  | ((with_reducible refine' w_addZa ?hz ?_); (case hz => omega))
  | ((with_reducible refine' w_inS ?hh ?_); (case hh => walk_at "hp"))
  | ((with_reducible refine' w_ixT ?hh ?ha ?_); (case hh => assumption); (case ha => exact atI_nat (by assumption))))
local macro_rules | `(tactic| walk_at "go1") => `(tactic| first
  | (with_reducible refine' w_iR2 ?_)
  | ((with_reducible refine' w_iR21 ?h1 ?h2 ?h3 ?h4 ?_); (case h1 => omega); (case h2 => omega); (case h3 => omega); (case h4 => omega))
  | (with_reducible refine' w_nnI ?_)
  | (with_reducible refine' w_max ?_)
  | (with_reducible refine' w_break ?_)
  | (with_reducible refine' w_cont ?_))
section
variable {P : Program} {w : World} {K : PySem.W.Frag} {mg : Str → Option Value} {base : Heap} {tk : Nat → Tok} {cl : Nat → Addr}
theorem redI_first {t : Tm} {i : Nat} {r : List Nat} (h : redI t.enc t.enc.length = i :: r) : ∃ p b u, t.Red p i b u := by
  have hm : i ∈ redI t.enc t.enc.length := by rw [h]; exact List.mem_cons_self
  obtain ⟨lt, hb⟩ := redI_mem.mp hm
  obtain ⟨q, hq⟩ : ∃ q, (t.pls [])[i]? = some q := ⟨_, List.getElem?_eq_getElem (by rw [t.pls_len]; exact lt)⟩
  obtain ⟨s, j, u, e, hs⟩ := Tm.sub_of t [] (List.mem_of_getElem? hq)
  simp only [List.nil_append] at e
  subst e
  obtain ⟨_, hp⟩ := Tm.sub_at t q [] hs
  have e2 : i = j := same_at (Tm.pls_order t []) hq hp
  subst e2
  obtain ⟨b, c, rfl⟩ := (red_of hs).mp hb
  exact ⟨q, b, c, hs⟩
theorem redI_none {t : Tm} (h : redI t.enc t.enc.length = []) : t.reds [] = [] := by
  rw [← redK_all, ← redI_K, h]
  rfl
def spLNorm (K : PySem.W.Frag) : Sp := fun vs H Q _ => ∃ (a : Addr) (t : Tm) (k : Nat), vs = [.ref a, .int (k : Int)] ∧ SqT K H a t.enc ∧ t.enc.length ≤ 1000 ∧ k ≤ 100000 ∧
  (∀ u n H' p x, Star t u → u.reds [] = [] → Ex H H' → SqT K H' p [.ref x, .int n] → SqT K H' x u.enc → Q (.ref p) H') ∧ (∀ H', Ex H H' → Q (.str "large") H') ∧ (∀ H', Ex H H' → Q (.str "steps") H')
theorem ok_lnorm {f : Addr} {fd : FuncData} (F : Fun K "_law_normal" "_law_normal" s_law_normal f fd) (T : Txt w K mg tk cl)
    (D2 : Def P w K mg base CX0 1 "_law_redexes" ["term"] (spRedIx K)) (D3 : Def P w K mg base CX0 4 "_law_stepped" ["term", "at"] (spLStep87 K)) : FnOk P w K mg base CX0 5 f fd ["term", "steps"] (spLNorm K) := by
  obtain ⟨f2, fd2, g_law_redexes, kp_law_redexes, b_law_redexes, G_law_redexes⟩ := D2
  obtain ⟨f3, fd3, g_law_stepped, kp_law_stepped, b_law_stepped, G_law_stepped⟩ := D3
  refine F.ok sc_law_normal (fun vs H Q E h => ?_) (fun cdv A outer s H vs Q E hr h => ?_)
  · obtain ⟨a, t, k, rfl, _⟩ := h
    rfl
  · obtain ⟨a, t, k, rfl, hS, hlen, hk, qd, ql, qs⟩ := h
    refine ⟨_, (pss_cons (ps_for PassesOwn.never rfl (pi_range1 (by rfl) T.n_range (pa_cons (pe_op op_add (pv 1) pe_int) pa_nil)) (pg_name (i := 2) sc_law_normal.nd rfl (.inl rfl)) (pss_cons (ps_set (i := 3) sc_law_normal.nd rfl (.inl rfl) (pe_call G_law_redexes (hr.mono (by first | decide | omega)) (by rfl) g_law_redexes kp_law_redexes b_law_redexes .nil pass0 (pa_cons (pv 0) pa_nil))) (pss_cons (ps_if (pt_not (pt_truth (pv 3) (by intro _; rfl))) (pss_one (ps_ret (pe_tup (pa_cons (pv 0) (pa_cons (pv 2) pa_nil))))) pss_nil) (pss_one (ps_if (pt_cmpR op_lt (pv 2) (pv 1) (nomark _)) (pss_cons (ps_set (i := 0) sc_law_normal.nd rfl (.inl rfl) (pe_call G_law_stepped (hr.mono (by first | decide | omega)) (by rfl) g_law_stepped kp_law_stepped b_law_stepped .nil pass0 (pa_cons (pv 0) (pa_cons (pe_ix ix_list (pv 3) pe_int (fun _ _ => rfl)) pa_nil)))) (pss_one (ps_if (pt_cmpR op_gt (pe_callB call_len_seq (by rfl) T.n_len (by decide +kernel) (pa_cons (pv 0) pa_nil)) pe_int (nomark _)) (pss_one (ps_ret pe_str)) pss_nil))) pss_nil))))) (pss_one (ps_ret pe_str))), ?_⟩
    refine sl_of (σ2 := [some _, some _, none, none]) rfl ?_
    walk_at "st"
    walk_at "go"
    refine for_range (lo := 0) (n := ((k : Int) + 1).toNat) (fun i σ H' => ∃ (x : Addr) (u : Tm) (y2 y3 : Option V), σ = [some (.ref x), some (.int (k : Int)), y2, y3] ∧ Ex H H' ∧ SqT K H' x u.enc ∧ u.enc.length ≤ 1000 ∧ Star t u)
      ⟨a, t, none, none, rfl, Ex.refl _, hS, hlen, .refl⟩ ?_ ?_
    · rintro i σ H1 hi ⟨x, u, y2, y3, rfl, e1, hx, hul, hst⟩
      walk_at "go"
      refine ⟨x, u, rfl, hx, by omega, fun H2 fl e2 hfl hf2 => ?_⟩
      have hx2 := ex_t e2 hx
      walk_at "go"
      cases hr : redI u.enc u.enc.length with
      | nil =>
        rw [hr] at hf2
        walk_at "go"
        rw [show (!(!(nums ([] : List Nat)).isEmpty)) = true from rfl, if_pos rfl]
        walk_at "go"
        intro p hp
        have e3 := Ex.new hp (o := .tup [.ref x, .int (0 + (i : Int))])
        exact qd u _ _ p x hst (redI_none hr) (e1.trans (e2.trans e3)) (SqT.of upd_same) (ex_t e3 hx2)
      | cons i0 r0 =>
        obtain ⟨p, b, v, hred⟩ := redI_first hr
        rw [hr] at hf2
        have ix0 : atI (nums (i0 :: r0)) 0 = some (.int (i0 : Int)) := at_of (j := 0) rfl rfl
        walk_at "go"
        rw [show (!(!(nums (i0 :: r0)).isEmpty)) = false from rfl, if_neg (by decide)]
        walk_at "go"
        refine w_br (fun c1 => ?_) (fun c1 => ?_)
        · walk_at "go"
          refine w_ixL (SqL.of hf2) ix0 ?_
          walk_at "go"
          refine ⟨x, u, p, i0, b, v, rfl, hx2, hred, by omega, fun H3 x3 e3 hx3 => ?_⟩
          walk_at "go"
          refine w_br (fun c2 => ?_) (fun c2 => ?_)
          · walk_at "go"
            exact ql _ (e1.trans (e2.trans e3))
          · walk_at "go"
            exact ⟨x3, u.step p, _, _, rfl, e1.trans (e2.trans e3), hx3, by omega, .tail hst (par_step hred)⟩
        · walk_at "go"
          exact ⟨x, u, _, _, rfl, e1.trans e2, hx2, hul, hst⟩
    · rintro σ H1 ⟨x, u, y2, y3, rfl, e1, hx, hul, hst⟩
      walk_at "go"
      exact qs _ e1
def spNormOf (K : PySem.W.Frag) : Sp := fun vs H Q _ => ∃ (a : Addr) (c : Cb) (k : Nat), vs = [.ref a, .int (k : Int)] ∧ SqT K H a c.enc ∧ c.enc.length ≤ 1000 ∧ k ≤ 100000 ∧
  (∀ u H' x, Star c.tm u → u.reds [] = [] → Ex H H' → SqT K H' x u.enc → Q (.ref x) H') ∧ (∀ H', Ex H H' → Q .non H')
theorem ok_normof {f : Addr} {fd : FuncData} (F : Fun K "_law_normal_of" "_law_normal_of" s_law_normal_of f fd) (T : Txt w K mg tk cl)
    (D1 : Def P w K mg base (L2.CX P w) 3 "term_of" ["combination"] (spTmOf K (cl 1))) (D2 : Def P w K mg base (L2.CX P w) 7 "normal" ["term", "steps"] (spNormal K (cl 1) (cl 4))) : FnOk P w K mg base CX0 8 f fd ["nodes", "steps"] (spNormOf K) := by
  obtain ⟨f1, fd1, g_term_of, kp_term_of, b_term_of, G_term_of⟩ := D1
  obtain ⟨f2, fd2, g_normal, kp_normal, b_normal, G_normal⟩ := D2
  refine F.ok sc_law_normal_of (fun vs H Q E h => ?_) (fun cdv A outer s H vs Q E hr h => ?_)
  · obtain ⟨a, c, k, rfl, _⟩ := h
    rfl
  · obtain ⟨a, c, k, rfl, hS, hlen, hk, q, qn⟩ := h
    refine ⟨_, (pss_one (ps_try_only rfl rfl ⟨rfl, by decide, .inl T.g_LyditeError⟩ takes0 (fun W pn xe tk po => (pss_one (ps_ret (pe_ix (ix_tupK (K := K) (by rfl)) (pe_callS G_normal (hr.mono (by first | decide | omega)) (by rfl) g_normal kp_normal b_normal (fun σ => passAt tk σ) (pa_cons (pe_callS G_term_of (hr.mono (by first | decide | omega)) (by rfl) g_term_of kp_term_of b_term_of (fun σ => passAt tk σ) (pa_cons (pv 0) pa_nil)) (pa_cons (pv 1) pa_nil))) pe_int (fun _ _ => rfl))))) (fun a oe cls d pn hz hf => (pss_one (ps_ret pe_non))))), ?_⟩
    refine sl_of (σ2 := [some _, some _]) rfl ?_
    have hte := c.tm_enc
    walk_at "st"
    walk_at "go"
    refine ⟨a, c.enc, rfl, hS, c.nodes, by omega, fun hf H1 x1 e1 hx1 => ?_, fun hf H1 e1 => ?_⟩
    case refine_2 =>
      refine ⟨true, T.e_TooLarge_L, fun _ a1 ha1 => ?_, fun z => nomatch z⟩
      walk_at "go"
      exact qn _ e1
    rw [← hte] at hf hx1
    have hl := fits_len hf
    walk_at "go"
    refine ⟨x1, c.tm, k, rfl, hx1, by omega, hf, by omega, fun road u hnf H2 p x e2 hp hx => ?_, fun road hnf H2 e2 => ?_, fun road hnf H2 e2 => ?_⟩
    · obtain ⟨hst, hno, _⟩ := nf_star k hnf
      have ix0 : atI ([.ref x, .int (road.length : Int)] : List V) 0 = some (.ref x) := at_of (j := 0) rfl rfl
      walk_at "go"
      exact q u _ x hst hno (e1.trans e2) hx
    · refine ⟨true, T.e_OutOfSteps_L, fun _ a1 ha1 => ?_, fun z => nomatch z⟩
      walk_at "go"
      exact qn _ (e1.trans e2)
    · refine ⟨true, T.e_TooLarge_L, fun _ a1 ha1 => ?_, fun z => nomatch z⟩
      walk_at "go"
      exact qn _ (e1.trans e2)
def spFree88 (K : PySem.W.Frag) : Sp := fun vs H Q _ => ∃ (a : Addr) (t : Tm), vs = [.ref a] ∧ SqT K H a t.enc ∧ t.enc.length ≤ 100000 ∧
  ∀ H' p (ns : List Int), Ex H H' → H p = none → H' p = some (.lst (ns.map V.int)) → (∀ z, z ∈ ns ↔ ∃ j : Nat, z = j ∧ t.fr 0 j) → ns.length ≤ t.enc.length → Q (.ref p) H'
theorem ok_free88 {f : Addr} {fd : FuncData} {k : Nat} (F : Fun K "_law_free" "_law_free" s_law_free f fd) (T : Txt w K mg tk cl) : FnOk P w K mg base CX0 (k + 1) f fd ["term"] (spFree88 K) := by
  refine F.ok sc_law_free (fun vs H Q E h => ?_) (fun cdv A outer s H vs Q E hr h => ?_)
  · obtain ⟨a, t, rfl, _⟩ := h
    rfl
  · obtain ⟨a, t, rfl, hS, hlen, q⟩ := h
    refine ⟨_, (pss_cons (ps_set (i := 1) sc_law_free.nd rfl (.inl rfl) (pe_lst pa_nil)) (pss_cons (ps_set (i := 2) sc_law_free.nd rfl (.inl rfl) (pe_lst (pa_cons pe_int pa_nil))) (pss_cons (ps_for PassesOwn.never rfl (pi_tup (pv 0)) (pg_name (i := 3) sc_law_free.nd rfl (.inl rfl)) (pss_cons (ps_set (i := 4) sc_law_free.nd rfl (.inl rfl) (pe_bm0 PySem.F.plainAttrs_list PySem.F.slot_list_pop PySem.F.type_list_pop mt_pop (pv 2))) (pss_one (ps_if (pt_cmpR op_eq (pv 3) pe_str (nomark _)) (pss_one (ps_set (i := 2) sc_law_free.nd rfl (.inl rfl) (pe_op op_cat (pv 2) (pe_lst (pa_cons (pv 4) (pa_cons (pv 4) pa_nil)))))) (pss_one (ps_if (pt_cmpR op_eq (pv 3) pe_str (nomark _)) (pss_one (ps_expr (pe_bm PySem.F.plainAttrs_list PySem.F.slot_list_append PySem.F.type_list_append mt_append (pv 2) (pa_cons (pe_op op_add (pv 4) pe_int) pa_nil)))) (pss_one (ps_if (PW.pt (pw_and (pt_cmpR op_ge (pv 3) (pv 4) (nomark _)) (pw_and1 (pt_cmpR op_notIn_seq (pe_op op_sub (pv 3) (pv 4)) (pv 1) (by rfl))))) (pss_one (ps_expr (pe_bm PySem.F.plainAttrs_list PySem.F.slot_list_append PySem.F.type_list_append mt_append (pv 1) (pa_cons (pe_op op_sub (pv 3) (pv 4)) pa_nil)))) pss_nil)))))))) (pss_one (ps_ret (pe_callB cr_sortedI (by rfl) T.n_sorted (by decide +kernel) (pa_cons (pv 1) pa_nil))))))), ?_⟩
    refine sl_of (σ2 := [some _, none, none, none, none]) rfl ?_
    walk_at "st"
    walk_at "go"
    intro fl hfl
    walk_at "go"
    intro wl hwl
    have hwf : wl ≠ fl := (ne_of_none upd_same hwl).symm
    have hwl0 : H wl = none := by
      rw [upd_ne hwf] at hwl
      exact hwl
    walk_at "go"
    refine for_tup (K := K) (a := a) (xs := t.enc) (fun i σ H' => ∃ (wl : Addr) (fs : List Int) (found ds : List Nat) (y3 y4 : Option V), σ = [some (.ref a), some (.ref fl), some (.ref wl), y3, y4] ∧ Ex H H' ∧ wl ≠ fl ∧ H wl = none ∧ H' fl = some (.lst (fs.map V.int)) ∧ (∀ z, z ∈ fs ↔ z ∈ ((List.zipWith frv t.enc (t.deps 0)).take i).flatten) ∧ fs.length ≤ i ∧ H' wl = some (.lst (nums ds)) ∧ DInv t i found ds ∧ found.length = i ∧ ds.length ≤ i + 1)
      ⟨wl, [], [], [0], none, none, rfl, by walk_at "ex", hwf, hwl0, by walk_at "hp", by simp, by simp, upd_same, DInv.start t, rfl, by simp⟩ (fun i σ H' _ ⟨_, _, _, _, _, _, _, e, _⟩ => ex_t e hS) ?_ ?_
    · clear hwl hwf hwl0
      rintro i x σ H1 hi ⟨wl, fs, found, ds, y3, y4, rfl, e1, hwf, hwl0, hf1, hmem, hfn, hw1, hinv, hfl1, hdl⟩
      have hlt : i < t.enc.length := (List.getElem?_eq_some_iff.mp hi).1
      obtain ⟨r, d, rfl, hstep⟩ := hinv.step hi
      have hd : (t.deps 0)[i]? = some d := by rcases hstep with ⟨_, _, h⟩ | ⟨_, h⟩ | ⟨_, h⟩ <;> exact dinv_at h hfl1
      have tk : ((List.zipWith frv t.enc (t.deps 0)).take (i + 1)).flatten = ((List.zipWith frv t.enc (t.deps 0)).take i).flatten ++ frv x d := by
        rw [zip_take hi hd, List.flatten_append]
        simp
      have hw1b : H1 wl = some (.lst (nums r ++ [V.int (d : Int)])) := by rw [hw1]; simp [nums]
      have el2 : (nums r).length = r.length := List.length_map _
      have hrl : r.length ≤ i := by simpa using hdl
      have lf : (fs.map V.int).length = fs.length := List.length_map _
      walk_at "go"
      have e2 := e1.mut hwl0 (o := .lst (nums r))
      have hf2 : upd H1 wl (.lst (nums r)) fl = some (.lst (fs.map V.int)) := by rw [upd_ne hwf.symm]; exact hf1
      have hw2 : upd H1 wl (.lst (nums r)) wl = some (.lst (nums r)) := upd_same
      generalize upd H1 wl (.lst (nums r)) = H2 at *
      clear hf1 hw1 hw1b
      have keep : ∀ {y3 y4 : Option V}, frv x d = [] → DInv t (i + 1) (found ++ [d]) r → ∃ (wl2 : Addr) (fs : List Int) (found ds : List Nat) (z3 z4 : Option V), [some (V.ref a), some (.ref fl), some (.ref wl), y3, y4] = [some (.ref a), some (.ref fl), some (.ref wl2), z3, z4] ∧ Ex H H2 ∧ wl2 ≠ fl ∧ H wl2 = none ∧ H2 fl = some (.lst (fs.map V.int)) ∧ (∀ z, z ∈ fs ↔ z ∈ ((List.zipWith frv t.enc (t.deps 0)).take (i + 1)).flatten) ∧ fs.length ≤ i + 1 ∧ H2 wl2 = some (.lst (nums ds)) ∧ DInv t (i + 1) found ds ∧ found.length = i + 1 ∧ ds.length ≤ i + 1 + 1 := fun {y3 y4} h0 hn =>
        ⟨wl, fs, found ++ [d], r, _, _, rfl, e2, hwf, hwl0, hf2, fun z => by rw [tk, h0, List.append_nil]; exact hmem z, by omega, hw2, hn, by simp [hfl1], by omega⟩
      rcases hstep with ⟨m, rfl, hn⟩ | ⟨rfl, hn⟩ | ⟨rfl, hn⟩
      · walk_at "go"
        refine w_br (fun c1 => ?_) (fun c1 => ?_)
        · have ev : frv (.int (m : Int)) d = [(m : Int) - d] := by simp [frv]; omega
          walk_at "go"
          by_cases hin : ((m : Int) - (d : Int)) ∈ fs
          · rw [decide_eq_true hin, Bool.not_true]
            walk_at "go"
            refine ⟨wl, fs, found ++ [d], r, _, _, rfl, e2, hwf, hwl0, hf2, fun z => ?_, by omega, hw2, hn, by simp [hfl1], by omega⟩
            rw [tk, ev, List.mem_append, ← hmem z, List.mem_singleton]
            constructor
            · exact .inl
            · rintro (h | rfl)
              · exact h
              · exact hin
          · rw [decide_eq_false hin, Bool.not_false]
            walk_at "go"
            refine ⟨wl, fs ++ [(m : Int) - (d : Int)], found ++ [d], r, _, _, rfl, e2.mut hfl, hwf, hwl0, ?_, fun z => ?_, by simp; omega, by rw [upd_ne hwf]; exact hw2, hn, by simp [hfl1], by omega⟩
            · rw [upd_same]
              simp
            · rw [tk, ev, List.mem_append, List.mem_append, ← hmem z]
        · walk_at "go"
          exact keep (by simp [frv]; omega) hn
      · walk_at "go"
        refine ⟨wl, fs, found ++ [d], r ++ [d + 1], _, _, rfl, e2.mut hwl0, hwf, hwl0, by rw [upd_ne hwf.symm]; exact hf2, fun z => by rw [tk]; simp [frv, hmem z], by omega, ?_, hn, by simp [hfl1], by simp; omega⟩
        rw [upd_same]
        simp [nums]
      · walk_at "go"
        intro ll hll
        have hlf : ll ≠ fl := (ne_of_none hf2 hll).symm
        have hlw : ll ≠ wl := (ne_of_none hw2 hll).symm
        have e4 := ex_new e2 hll (o := .lst [.int (d : Int), .int (d : Int)])
        have hl4 : upd H2 ll (.lst [.int (d : Int), .int (d : Int)]) ll = some (.lst [.int (d : Int), .int (d : Int)]) := upd_same
        have hf4 : upd H2 ll (.lst [.int (d : Int), .int (d : Int)]) fl = some (.lst (fs.map V.int)) := by rw [upd_ne hlf.symm]; exact hf2
        have hw4 : upd H2 ll (.lst [.int (d : Int), .int (d : Int)]) wl = some (.lst (nums r)) := by rw [upd_ne hlw.symm]; exact hw2
        generalize upd H2 ll (.lst [.int (d : Int), .int (d : Int)]) = H4 at *
        walk_at "go"
        · exact ly_sz (by rw [el2]; simp; omega)
        intro w5 hw5
        have h5f : w5 ≠ fl := (ne_of_none hf4 hw5).symm
        walk_at "go"
        refine ⟨w5, fs, found ++ [d], r ++ [d] ++ [d], _, _, rfl, ex_new e4 hw5, h5f, fresh_back e4 hw5, by rw [upd_ne h5f.symm]; exact hf4, fun z => by rw [tk]; simp [frv, hmem z], by omega, ?_, hn, by simp [hfl1], by simp; omega⟩
        rw [upd_same]
        simp [nums]
    · clear hwl hwf hwl0
      rintro σ H1 ⟨wl, fs, found, ds, y3, y4, rfl, e1, hwf, hwl0, hf1, hmem, hfn, hw1, hinv, hfl1, hdl⟩
      rw [List.take_of_length_le (by rw [List.length_zipWith]; exact Nat.min_le_left _ _)] at hmem
      walk_at "go"
      intro ns l2 hperm _ hl2
      refine q _ l2 ns (ex_new e1 hl2) (fresh_back e1 hl2) upd_same (fun z => ?_) ?_
      · rw [hperm.mem_iff, hmem z]
        exact Tm.frs_fr t 0 z
      · rw [hperm.length_eq]
        exact hfn
def spMade (K : PySem.W.Frag) : Sp := fun vs H Q _ => ∃ (a : Addr) (t : Tm) (w : Nat), vs = [.ref a] ∧ SqT K H a t.enc ∧ t.enc.length ≤ 3000 ∧ t.vars w ∧ w < 1000000 ∧ (∀ H' p, Ex H H' → t.cmb.enc.length ≤ 1000 → SqT K H' p t.cmb.enc → Q (.ref p) H') ∧ (∀ H', Ex H H' → Q .non H')
theorem ok_made {f : Addr} {fd : FuncData} (F : Fun K "_law_made" "_law_made" s_law_made f fd) (T : Txt w K mg tk cl)
    (D1 : Def P w K mg base (L2.CX P w) 5 "combination_of" ["term"] (spCmb K (cl 1))) : FnOk P w K mg base CX0 6 f fd ["term"] (spMade K) := by
  obtain ⟨f1, fd1, g_combination_of, kp_combination_of, b_combination_of, G_combination_of⟩ := D1
  refine F.ok sc_law_made (fun vs H Q E h => ?_) (fun cdv A outer s H vs Q E hr h => ?_)
  · obtain ⟨a, t, wd, rfl, _⟩ := h
    rfl
  · obtain ⟨a, t, wd, rfl, hS, hlen, hv, hw, q, qn⟩ := h
    refine ⟨_, (pss_one (ps_try_only rfl rfl ⟨rfl, by decide, .inl T.g_LyditeError⟩ takes0 (fun W pn xe tk po => (pss_one (ps_ret (pe_callS G_combination_of (hr.mono (by first | decide | omega)) (by rfl) g_combination_of kp_combination_of b_combination_of (fun σ => passAt tk σ) (pa_cons (pv 0) pa_nil))))) (fun a oe cls d pn hz hf => (pss_one (ps_ret pe_non))))), ?_⟩
    refine sl_of (σ2 := [some _]) rfl ?_
    walk_at "st"
    walk_at "go"
    refine ⟨a, t, wd, rfl, hS, hlen, hv, hw, fun hb H' p e hp => ?_, fun hb H' e => ?_⟩
    · walk_at "go"
      exact q H' p e (Tm.cmb_big hb) hp
    · refine ⟨true, T.e_TooLarge_L, fun _ a1 ha1 => ?_, fun z => nomatch z⟩
      walk_at "go"
      exact qn _ e
end
end Ly
set_option Elab.async false
set_option linter.all false
set_option maxRecDepth 100000
set_option maxHeartbeats 8000000
namespace Ly
open PySem PySem.Spec PyProof.Rows L2 Evl
local macro_rules | `(tactic| walk_at "ne") => `(tactic| first
  | assumption
  | ((refine' Ne.symm ?hq); (case hq => assumption))
  | ((refine' ne_of_none ?nh1 ?nh2); (case nh2 => assumption); (case nh1 => walk_at "hp"))
  | ((refine' Ne.symm (ne_of_none ?nh1 ?nh2)); (case nh2 => assumption); (case nh1 => walk_at "hp")))
local macro_rules | `(tactic| walk_at "hp") => `(tactic| first
  | assumption
  | exact upd_same
  | ((refine' SqL.of ?hq); (case hq => walk_at "hp"))
  | ((refine' SqT.of ?hq); (case hq => walk_at "hp"))
  | ((refine' (upd_ne ?hne).trans ?hrest); (case hne => walk_at "ne"); (case hrest => walk_at "hp"))
  | ((refine' ly_at ?hex ?hh); (case hex => assumption); (case hh => walk_at "hp"))
  | ((refine' ly_atF ?hex ?hnn ?hh); (case hex => assumption); (case hh => walk_at "hp"); (case hnn => walk_at "ne"))
  | ((refine' ex_t ?hex ?hh); (case hh => assumption); (case hex => walk_at "ex"))
  | ((refine' ex_l ?hex ?hh); (case hh => assumption); (case hex => walk_at "ex")))
local macro_rules | `(tactic| walk_at "ex") => `(tactic| first
  | assumption
  | exact Ex.refl _
  | ((refine' ex_new ?xa ?xb); (case xb => assumption); (case xa => walk_at "ex"))
  | ((refine' ex_upd ?xa ?xb); (case xb => walk_at "free"); (case xa => walk_at "ex"))
  | ((refine' Ex.trans ?xa ?xb); (case xb => assumption); (case xa => walk_at "ex")))
local macro_rules | `(tactic| walk_at "free") => `(tactic| first
  | assumption
  | ((refine' fresh_back ?xa ?xb); (case xb => assumption); (case xa => walk_at "ex")))
local macro_rules | `(tactic| walk_at "fr") => `(tactic| first
  | assumption
  | exact Fr.refl _ _
  | ((refine' Fr.own ?hq); (case hq => walk_at "fr"))
  | ((refine' Fr.new ?xa ?xb); (case xb => assumption); (case xa => walk_at "fr"))
  | ((refine' Fr.mut ?xa ?xb); (case xb => assumption); (case xa => walk_at "fr"))
  | ((refine' Fr.trans ?xa ?xb); (case xb => assumption); (case xa => walk_at "fr"))
  | ((refine' Fr.trans ?xa (Fr.ex ?xb)); (case xb => assumption); (case xa => walk_at "fr")))
local macro_rules | `(tactic| walk_at "go1") => `(tactic| first
  | (with_reducible refine' w_seq ?_)
  | (with_reducible refine' w_asg ?_)
  | (with_reducible refine' w_ret ?_)
  | (with_reducible refine' w_drop ?_)
  | (with_reducible refine' w_if ?_)
  | (with_reducible refine' w_next ?_)
  | (with_reducible refine' w_name ?_)
  | (with_reducible refine' w_sub ?_)
  | ((with_reducible refine' w_var ?hv ?_); (case hv => exact rfl))
  | (with_reducible refine' w_c ?_)
  | (with_reducible refine' w_op ?_)
  | (with_reducible refine' w_un ?_)
  | (with_reducible refine' w_ch ?_)
  | (with_reducible refine' w_I0 ?_)
  | ((with_reducible refine' w_I ?hc ?_); (case hc => first | (exact ly_mulL (by decide) (by decide)) | (exact ly_mulR (by decide) (by decide)) | (exact ly_mulL (by omega) (by omega)) | (show (_ : Int) ≠ 0; decide) | (show (_ : Int) ≠ 0; omega) | (exact ⟨by decide, by decide⟩) | (exact ⟨by omega, by omega⟩)))
  | (with_reducible refine' w_U ?_)
  | ((with_reducible refine' w_eq ?hs ?_); (case hs => exact rfl))
  | ((with_reducible refine' w_ne ?hs ?_); (case hs => exact rfl))
  | (with_reducible refine' w_isB ?_)
  | (with_reducible refine' w_notB ?_)
  | (with_reducible refine' w_nil ?_)
  | (with_reducible refine' w_cons ?_)
  | (with_reducible refine' w_tup ?_)
  | (with_reducible refine' w_lst ?_)
  | (with_reducible refine' w_cb ?_)
  | (with_reducible refine' w_call ?_)
  | (with_reducible refine' w_bm ?_)
  | (with_reducible refine' w_bm0 ?_)
  | ((with_reducible refine' w_app ?hh ?hz ?_); (case hh => walk_at "hp"); (case hz => first | exact ly_lt (by omega) | exact ly_lt (by simp only [List.length_append, List.length_map, List.length_cons, List.length_nil]; omega)))
  | ((with_reducible refine' w_popA ?hh ?_); (case hh => walk_at "hp"))
  | ((with_reducible refine' w_ext ?hh ?hh2 ?hz ?_); (case hh => walk_at "hp"); (case hh2 => walk_at "hp"))
  | ((with_reducible refine' w_ixL ?hh ?ha ?_); (case hh => walk_at "hp"); (case ha => first | exact rfl | exact at_map (by omega) | exact atI_last _ _ | ((refine' at_of ?ae ?ah); (case ah => assumption); (case ae => omega))))
  | ((with_reducible refine' w_ixT ?hh ?ha ?_); (case hh => walk_at "hp"); (case ha => first | exact rfl | exact at_map (by omega) | exact atI_last _ _ | ((refine' at_of ?ae ?ah); (case ah => assumption); (case ae => omega))))
  | ((with_reducible refine' w_cat ?hh ?hh2 ?hz ?_); (case hh => walk_at "hp"); (case hh2 => walk_at "hp"))
  | ((with_reducible refine' w_setL ?hh ?ha ?_); (case hh => walk_at "hp"); (case ha => exact rfl))
  | (with_reducible refine' w_test ?_)
  | (with_reducible refine' w_tB ?_)
  | (with_reducible refine' w_bl ?_)
  | (with_reducible refine' w_and ?_)
  | (with_reducible refine' w_or ?_)
  | (with_reducible refine' w_not ?_)
  | (with_reducible refine' w_andV ?_)
  | (with_reducible refine' w_orV ?_)
  | (with_reducible refine' w_notV ?_)
  | (with_reducible refine' w_ifE ?_)
  | (with_reducible refine' w_for ?_)
  | ((with_reducible refine' w_nin ?hh ?_); (case hh => walk_at "hp"))
  | ((with_reducible refine' w_sorted ?hh ?_); (case hh => walk_at "hp"))
  | (with_reducible refine' w_tsadd ?_)
  | ((with_reducible refine' w_tsadd1 ?hh ?_); (case hh => walk_at "hp"))
  | ((with_reducible refine' w_sadd ?hh ?hr ?_); (case hh => walk_at "hp"); (case hr => omega))
  | (with_reducible refine' w_iZ ?_)
  | ((with_reducible refine' w_iZ1 ?hh ?hh2 ?_); (case hh => walk_at "hp"); (case hh2 => walk_at "hp"))
  | (with_reducible refine' w_iS ?_)
  | (with_reducible refine' w_iS1 ?_)
  | ((with_reducible refine' w_gtup ?hh ?hn ?_); (case hh => walk_at "hp"); (case hn => exact rfl))
  | (with_reducible refine' w_gcons ?_)
  | (with_reducible refine' w_gnil ?_)
  | (with_reducible refine' w_js ?_)
  | (with_reducible refine' w_jsn ?_)
  | ((with_reducible refine' w_js1 ?hl ?_); (case hl => decide +kernel))
  | (with_reducible refine' w_fmt ?_)
  | ((with_reducible refine' w_fmt1 ?hl ?_); (case hl => decide +kernel))
  | (with_reducible refine' w_callS ?_)
  | ((with_reducible refine' w_truL ?hh ?_); (case hh => walk_at "hp"))
  | (with_reducible refine' w_lc ?_)
  | (with_reducible refine' w_yes ?_)
  | ((with_reducible refine' w_wipe ?he ?_); (case he => exact rfl))
  | (with_reducible refine' w_iL ?_)
  | (with_reducible refine' w_iT ?_)
  | (with_reducible refine' w_iR ?_)
  | ((with_reducible refine' w_iL1 ?hh ?_); (case hh => walk_at "hp"))
  | ((with_reducible refine' w_iT1 ?hh ?_); (case hh => walk_at "hp"))
  | ((with_reducible refine' w_iR1 ?h1 ?h2 ?_); (case h1 => omega); (case h2 => omega))
  | ((with_reducible refine' w_aug ?hv ?_); (case hv => exact rfl))
  | (with_reducible refine' w_ipI ?_)
  | ((with_reducible refine' w_isi ?hy ?hk ?_); (case hy => walk_at "ty"); (case hk => walk_at "kit"))
  | ((with_reducible refine' w_int ?_))
  | ((with_reducible refine' w_intB ?_))
  | ((with_reducible refine' w_abs ?_))
  | ((with_reducible refine' w_lenL ?hh ?_); (case hh => walk_at "hp"))
  | ((with_reducible refine' w_lenT ?hh ?_); (case hh => walk_at "hp"))
  | ((with_reducible refine' w_tupL ?hh ?_); (case hh => walk_at "hp"))
  | ((with_reducible refine' w_tupT ?hh ?_); (case hh => walk_at "hp"))
  | ((with_reducible refine' w_catA ?hh ?hh2 ?hz ?_); (case hh => walk_at "hp"); (case hh2 => walk_at "hp"); (case hz => walk_at "len"))
  | ((with_reducible refine' w_repB ?hh ?hne ?h2 ?h3 ?hz ?_); (case hh => walk_at "hp"); (case hne => simp); (case h2 => omega); (case h3 => omega); (case hz => exact Nat.le_of_ble_eq_true rfl))
  | ((with_reducible refine' w_eqN ?hh ?hh2 ?n1 ?n2 ?_); (case hh => walk_at "hp"); (case hh2 => walk_at "hp"); (case n1 => walk_at "nd"); (case n2 => walk_at "nd"))
  | ((with_reducible refine' w_neN ?hh ?hh2 ?n1 ?n2 ?_); (case hh => walk_at "hp"); (case hh2 => walk_at "hp"); (case n1 => walk_at "nd"); (case n2 => walk_at "nd"))
  | ((with_reducible refine' w_eqL ?hh ?hh2 ?n1 ?n2 ?_); (case hh => walk_at "hp"); (case hh2 => walk_at "hp"); (case n1 => walk_at "nd"); (case n2 => walk_at "nd"))
  | ((with_reducible refine' w_neL ?hh ?hh2 ?n1 ?n2 ?_); (case hh => walk_at "hp"); (case hh2 => walk_at "hp"); (case n1 => walk_at "nd"); (case n2 => walk_at "nd"))
  | ((with_reducible refine' w_neNon ?hh2 ?n2 ?_); (case hh2 => walk_at "hp"); (case n2 => walk_at "nd"))
  | ((with_reducible refine' w_eqNon ?hh2 ?n2 ?_); (case hh2 => walk_at "hp"); (case n2 => walk_at "nd"))
  | ((with_reducible refine' w_slA ?hh ?_); (case hh => walk_at "hp"))
  | ((with_reducible refine' w_disp ?hz ?_); (case hz => exact sz_of (Nat.le_of_ble_eq_true rfl)))
  | ((with_reducible refine' w_tyL ?hh ?_); (case hh => walk_at "hp"))
  | (with_reducible refine' iteT ?_)
  | (with_reducible refine' iteF ?_)
  | (with_reducible refine' w_nT ?_)
  | (with_reducible refine' w_nn ?_)
  | (with_reducible refine' w_nnT ?_)
  | (with_reducible refine' w_nnR ?_)
  | (with_reducible refine' w_neG ?_)
  | (with_reducible refine' w_eqG ?_)
  | (with_reducible refine' w_neS ?_)
  | (with_reducible refine' w_eqS ?_)
  | (with_reducible refine' w_neSb ?_)
  | (with_reducible refine' w_eqSb ?_)
  | (with_reducible refine' w_deIS ?_)
  | (with_reducible refine' w_deSI ?_)
  | (with_reducible refine' w_deISn ?_)
  | ((with_reducible refine' w_deST ?he ?_); (case he => decide +kernel))
  | ((with_reducible refine' w_deSF ?he ?_); (case he => decide +kernel))
  | ((with_reducible refine' w_deSTn ?he ?_); (case he => decide +kernel))
  | ((with_reducible refine' w_deSFn ?he ?_); (case he => decide +kernel))
  | (with_reducible refine' w_nF ?_)
  | dsimp only [Bool.not_true, Bool.not_false])
local macro_rules | `(tactic| walk_at "ty") => `(tactic| first
  | exact .base (.int _) | exact .base (.str _) | exact .base (.bl _) | exact .base .non
  | ((refine' tyx_t ?hq); (case hq => walk_at "hp")) | ((refine' tyx_l ?hq); (case hq => walk_at "hp")) | ((refine' .base (.tup ?hq)); (case hq => walk_at "hp")) | assumption)
local macro_rules | `(tactic| walk_at "go") => `(tactic| repeat walk_at "go1")
local macro_rules | `(tactic| walk_at "st") => `(tactic| try dsimp only [cxOf, Cx.nox, Cx.wish])
local macro_rules | `(tactic| walk_at "kit") => `(tactic| with_reducible first | exact kit_int_int | exact kit_int_str | exact kit_int_bool | exact kit_int_tuple | exact kit_int_list | exact kit_str_int | exact kit_str_str | exact kit_str_bool | exact kit_str_tuple | exact kit_str_list | exact kit_bool_int | exact kit_bool_str | exact kit_bool_bool | exact kit_bool_tuple | exact kit_bool_list | exact kit_NoneType_int | exact kit_NoneType_str | exact kit_NoneType_bool | exact kit_NoneType_tuple | exact kit_NoneType_list | exact kit_list_int | exact kit_list_str | exact kit_list_bool | exact kit_list_tuple | exact kit_list_list | exact kit_tuple_int | exact kit_tuple_str | exact kit_tuple_bool | exact kit_tuple_tuple | exact kit_tuple_list)
local macro_rules | `(tactic| walk_at "nd") => `(tactic| first
  | assumption
  | exact Tm.nds _
  | exact Nds.nil
  | exact Nds.ofInts _
  | ((refine' Nds.cons ?na ?nb); (case na => first | exact Nds.I _ | exact Nds.L | exact Nds.A); (case nb => walk_at "nd"))
  | ((refine' Nds.app ?na ?nb); (case na => walk_at "nd"); (case nb => walk_at "nd"))
  | ((refine' Nds.rep ?na _); (case na => walk_at "nd")))
local macro_rules | `(tactic| walk_at "len") => `(tactic| first
  | exact ly_sz (by omega)
  | ((simp only [List.length_append, List.length_cons, List.length_nil, List.length_map, PyProof.Rows.lm_len_rep_flat]); exact ly_sz (by omega)))
local macro_rules | `(tactic| walk_at "go1") => `(tactic| first
  | (with_reducible refine' w_kget2 ?_)
  | (with_reducible refine' w_isRN ?_)
  | (with_reducible refine' w_isNN ?_)
  | (with_reducible refine' w_isIN ?_)
  | ((with_reducible refine' w_kg ?hd ?_); (case hd => assumption)))
local macro_rules | `(tactic| walk_at "go1") => `(tactic| first
  | ((with_reducible refine' w_extT ?hh ?hh2 ?hz ?_); (case hh => walk_at "hp"); (case hh2 => walk_at "hp"))
  | ((with_reducible refine' w_I ?hc ?_); (case hc => exact ⟨by decide, by decide, by decide⟩))
  | (with_reducible refine' w_sl ?_)
  | (with_reducible refine' w_noP ?_)
  | (with_reducible refine' w_part ?_)
  | (with_reducible refine' w_part1 ?_)
  | (with_reducible refine' w_it ?_)
  | (with_reducible refine' w_it1 ?_)
  | ((with_reducible refine' w_lenZ ?hz ?_); (case hz => omega))
  | ((with_reducible refine' w_addZb ?hz ?_); (case hz => omega))
  | ((with_reducible refine' w_addZf ?hz ?_); (case hz => omega))
  | ((with_reducible refine' w_addZa ?hz ?_); (case hz => omega))
  | ((with_reducible refine' w_inS ?hh ?_); (case hh => walk_at "hp"))
  | ((with_reducible refine' w_ixT ?hh ?ha ?_); (case hh => assumption); (case ha => exact atI_nat (by assumption))))
local macro_rules | `(tactic| walk_at "go1") => `(tactic| first
  | (with_reducible refine' w_iR2 ?_)
  | ((with_reducible refine' w_iR21 ?h1 ?h2 ?h3 ?h4 ?_); (case h1 => omega); (case h2 => omega); (case h3 => omega); (case h4 => omega))
  | (with_reducible refine' w_nnI ?_)
  | (with_reducible refine' w_max ?_)
  | (with_reducible refine' w_break ?_)
  | (with_reducible refine' w_cont ?_))
section
variable {P : Program} {w : World} {K : PySem.W.Frag} {mg : Str → Option Value} {base : Heap} {tk : Nat → Tok} {cl : Nat → Addr}
def intV : V → Option Int
  | .int z => some z
  | _ => none
theorem made_one {a : Addr} {t : Tm} {w : Nat} {H : Hp} {Q : VK} {E : XK} (hS : SqT K H a t.enc) (hz : t.enc.length ≤ 3000) (hv : t.vars w) (hw : w < 1000000) (q : ∀ v H', Ex H H' → ((∃ p, v = .ref p ∧ t.cmb.enc.length ≤ 1000 ∧ SqT K H' p t.cmb.enc) ∨ v = .non) → Q v H') : spMade K [.ref a] H Q E :=
  ⟨a, t, w, rfl, hS, hz, hv, hw, fun H' p e hl hp => q _ _ e (.inl ⟨p, rfl, hl, hp⟩), fun H' e => q _ _ e (.inr rfl)⟩
theorem lnorm_one {a : Addr} {t : Tm} {k : Nat} {i : Int} {H : Hp} {Q : VK} {E : XK} (hS : SqT K H a t.enc) (hz : t.enc.length ≤ 1000) (hk : k ≤ 100000) (hi : i = (k : Int)) (q : ∀ v H', Ex H H' → ((∃ p x n u, v = .ref p ∧ Star t u ∧ u.reds [] = [] ∧ SqT K H' p [.ref x, .int n] ∧ SqT K H' x u.enc) ∨ v = .str "large" ∨ v = .str "steps") → Q v H') : spLNorm K [.ref a, .int i] H Q E :=
  ⟨a, t, k, by rw [hi], hS, hz, hk, fun u n H' p x hs hr e hp hx => q _ _ e (.inl ⟨p, x, n, u, rfl, hs, hr, hp, hx⟩), fun H' e => q _ _ e (.inr (.inl rfl)), fun H' e => q _ _ e (.inr (.inr rfl))⟩
def Nm (K : PySem.W.Frag) (H : Hp) (t : Tm) (v : V) : Prop := (∃ x u, v = .ref x ∧ Star t u ∧ u.reds [] = [] ∧ SqT K H x u.enc) ∨ v = .non
theorem Nm.mono {H H' : Hp} {t : Tm} {v : V} (h : Nm K H t v) (e : Ex H H') : Nm K H' t v := by
  rcases h with ⟨x, u, rfl, a, b, c⟩ | rfl
  · exact .inl ⟨x, u, rfl, a, b, ex_t e c⟩
  · exact .inr rfl
theorem normof_one {a : Addr} {c : Cb} {xs : List V} {k : Nat} {i : Int} {H : Hp} {Q : VK} {E : XK} (hS : SqT K H a xs) (hx : xs = c.enc) (hz : c.enc.length ≤ 1000) (hk : k ≤ 100000) (hi : i = (k : Int)) (q : ∀ v H', Ex H H' → Nm K H' c.tm v → Q v H') : spNormOf K [.ref a, .int i] H Q E :=
  ⟨a, c, k, by rw [hi], by rw [← hx]; exact hS, hz, hk, fun u H' x hs hr e hp => q _ _ e (.inl ⟨x, u, rfl, hs, hr, hp⟩), fun H' e => q _ _ e (.inr rfl)⟩
theorem intV_mem {xs : List V} (h : ∀ x ∈ xs, NodeC x) (z : Int) : z ∈ xs.filterMap intV ↔ ∃ j : Nat, z = j ∧ V.int (j : Int) ∈ xs := by
  rw [List.mem_filterMap]
  constructor
  · rintro ⟨x, hx, e⟩
    rcases h x hx with ⟨n, rfl⟩ | rfl | rfl | rfl | rfl
    · cases e
      exact ⟨n, rfl, hx⟩
    all_goals cases e
  · rintro ⟨j, rfl, hx⟩
    exact ⟨_, hx, rfl⟩
theorem fmT88 {α β : Type} {f : α → Option β} {xs : List α} {i : Nat} {x : α} (h : xs[i]? = some x) : (xs.take (i + 1)).filterMap f = (xs.take i).filterMap f ++ (f x).toList := by
  rw [List.take_add_one, h, List.filterMap_append]
  cases hx : f x <;> simp [hx]
theorem mp_take {α β : Type} {f : α → β} {xs : List α} {i : Nat} {x : α} (h : xs[i]? = some x) : (xs.take (i + 1)).map f = (xs.take i).map f ++ [f x] := by
  rw [List.take_add_one, h, List.map_append]
  rfl
theorem all_id {α : Type} {xs : List α} {f : α → Bool} (h : ∀ x ∈ xs, f x = true) : (xs.map f).all id = true := by
  rw [List.all_eq_true]
  intro b hb
  obtain ⟨x, hx, rfl⟩ := List.mem_map.mp hb
  exact h x hx
theorem w_in88 {K : PySem.W.Frag} {H : Hp} {Q : VK} {p : Addr} {ms : List Int} {z : Int} (h : SqL K H p (ms.map V.int)) (q : Q (.bl (decide (z ∈ ms))) H) : rIn K false (.int z) (.ref p) H Q :=
  ⟨p, _, rfl, .inl h, rfl, flat_ints ms, by rw [inV_ints]; exact q⟩
theorem w_niPair {K : PySem.W.Frag} {H : Hp} {Q : VK} {p x q : Addr} {t : Tm} {n : Int} (h : SqT K H p [.ref x, .int n]) (hx : SqT K H x t.enc) (hq : SqT K H q [.str "large", .str "steps"]) (k : Q (.bl true) H) : rNotInDT K (.ref p) (.ref q) H Q :=
  ⟨pairD t n, [.str "large", .str "steps"], .tup h (pair_dp hx), .tup hq (.cons (.str _) (.cons (.str _) .nil)), pair_shaped t n, by decide +kernel, by
    have e : ([PyData.str "large", PyData.str "steps"].any fun z => PyData.eqv z (pairD t n)) = false := by simp [PyData.eqv, pairD]
    rw [e]
    exact k⟩
theorem w_niStr {K : PySem.W.Frag} {H : Hp} {Q : VK} {q : Addr} {s : Str} (h : s = "large" ∨ s = "steps") (hq : SqT K H q [.str "large", .str "steps"]) (k : Q (.bl false) H) : rNotInDT K (.str s) (.ref q) H Q :=
  ⟨.str s, [.str "large", .str "steps"], .str _, .tup hq (.cons (.str _) (.cons (.str _) .nil)), by rcases h with rfl | rfl <;> decide +kernel, by decide +kernel, by
    have e : ([PyData.str "large", PyData.str "steps"].any fun z => PyData.eqv z (.str s)) = true := by rcases h with rfl | rfl <;> simp [PyData.eqv]
    rw [e]
    exact k⟩
def spLaw (K : PySem.W.Frag) : Sp := fun vs H Q _ => ∃ (a : Addr) (ns : List Int), vs = [.ref a] ∧ SqL K H a (ns.map V.int) ∧ ns.length ≤ 63 ∧ ∀ H', Q (.bl true) H'
theorem ok_law {f : Addr} {fd : FuncData} (F : Fun K "law" "law" s_law f fd) (T : Txt w K mg tk cl)
    (D1 : Def P w K mg base CX0 1 "_law_stream" ["script"] (spStream K)) (D2 : Def P w K mg base CX0 1 "_law_draw" ["stream", "many"] spDraw)
    (D3 : Def P w K mg base CX0 2 "_law_term" ["stream", "size", "widest"] spTerm) (D4 : Def P w K mg base CX0 6 "_law_made" ["term"] (spMade K)) (D5 : Def P w K mg base CX0 1 "_law_free" ["term"] (spFree88 K))
    (D6 : Def P w K mg base CX0 5 "_law_normal" ["term", "steps"] (spLNorm K)) (D7 : Def P w K mg base CX0 8 "_law_normal_of" ["nodes", "steps"] (spNormOf K)) (D8 : Def P w K mg base CX0 2 "_law_combination" ["stream", "size", "widest"] (spComb K))
    (D9 : Def P w K mg base (L2.CX P w) 4 "abstracted" ["combination"] (spAbs K (cl 1))) (D10 : Def P w K mg base (L2.CX P w) 3 "value_put" ["combination", "value"] (spVPut K (cl 1))) : FnOk P w K mg base (L2.CX P w) 40 f fd ["script"] (spLaw K) := by
  obtain ⟨f1, fd1, g_law_stream, kp_law_stream, b_law_stream, G_law_stream⟩ := D1
  obtain ⟨f2, fd2, g_law_draw, kp_law_draw, b_law_draw, G_law_draw⟩ := D2
  obtain ⟨f3, fd3, g_law_term, kp_law_term, b_law_term, G_law_term⟩ := D3
  obtain ⟨f4, fd4, g_law_made, kp_law_made, b_law_made, G_law_made⟩ := D4
  obtain ⟨f5, fd5, g_law_free, kp_law_free, b_law_free, G_law_free⟩ := D5
  obtain ⟨f6, fd6, g_law_normal, kp_law_normal, b_law_normal, G_law_normal⟩ := D6
  obtain ⟨f7, fd7, g_law_normal_of, kp_law_normal_of, b_law_normal_of, G_law_normal_of⟩ := D7
  obtain ⟨f8, fd8, g_law_combination, kp_law_combination, b_law_combination, G_law_combination⟩ := D8
  obtain ⟨f9, fd9, g_abstracted, kp_abstracted, b_abstracted, G_abstracted⟩ := D9
  obtain ⟨f10, fd10, g_value_put, kp_value_put, b_value_put, G_value_put⟩ := D10
  refine F.okX sc_law (fun vs H Q E h => ?_) (fun cdv A outer s H vs Q E hr h => ?_)
  · obtain ⟨a, ns, rfl, _⟩ := h
    rfl
  · obtain ⟨a, ns, rfl, hS, hlen, q⟩ := h
    refine ⟨_, (pss_cons (ps_set (i := 1) sc_law.nd rfl (.inl rfl) (pe_call G_law_stream (hr.mono (by first | decide | omega)) (by rfl) g_law_stream kp_law_stream b_law_stream .nil pass0 (pa_cons (pv 0) pa_nil))) (pss_cons (ps_set (i := 2) sc_law.nd rfl (.inr rfl) (pe_call G_law_term (hr.mono (by first | decide | omega)) (by rfl) g_law_term kp_law_term b_law_term .nil pass0 (pa_cons (pv 1) (pa_cons (pe_op op_add pe_int (pe_call G_law_draw (hr.mono (by first | decide | omega)) (by rfl) g_law_draw kp_law_draw b_law_draw .nil pass0 (pa_cons (pv 1) (pa_cons pe_int pa_nil)))) (pa_cons (pe_op op_mul pe_int (pe_call G_law_draw (hr.mono (by first | decide | omega)) (by rfl) g_law_draw kp_law_draw b_law_draw .nil pass0 (pa_cons (pv 1) (pa_cons pe_int pa_nil)))) pa_nil))))) (pss_cons (ps_set (i := 3) sc_law.nd rfl (.inl rfl) (pe_call G_law_made (hr.mono (by first | decide | omega)) (by rfl) g_law_made kp_law_made b_law_made .nil pass0 (pa_cons (pv 2) pa_nil))) (pss_cut (ps_if (pt_cmpR op_notN (pv 3) pe_non (nomark _)) (pss_cons (ps_set (i := 4) sc_law.nd rfl (.inr rfl) (pe_callB cr_sortedI (by rfl) T.n_sorted (by decide +kernel) (pa_cons (pe_lc (own := [("node", 5)]) (g := gName 5) rfl sc_law.nd (pi_tup (pv 3)) (blkOk_by (N := N_law) (sc := defScope s_law) (by decide +kernel)) (fun _ _ _ _ _ => pg_name (i := 5) sc_law.nd rfl (Or.inl rfl)) (fun _ _ _ _ _ => (pts_one (pt_val (pe_callB (id := "isinstance") (r := rIsi K) call_isi (by rfl) T.n_isinstance (by decide +kernel) (pa_cons (pv 5) (pa_cons (pe_bltn (v := .ty "int") (by rfl) T.n_int (by decide +kernel) rfl) pa_nil)))))) (fun _ _ _ _ _ => (pv 5))) pa_nil))) (pss_cons (ps_if (pt_not (pt_val (pe_callB (cr_all rfl) (by rfl) T.n_all (by decide +kernel) (pa_cons (pe_lc (own := [("number", 6)]) (g := gName 6) (tt := tYes) rfl sc_law.nd (pi_list (pe_call G_law_free (hr.mono (by first | decide | omega)) (by rfl) g_law_free kp_law_free b_law_free .nil pass0 (pa_cons (pv 2) pa_nil))) (blkOk_by (N := N_law) (sc := defScope s_law) (by decide +kernel)) (fun _ _ _ _ _ => pg_name (i := 6) sc_law.nd rfl (Or.inl rfl)) (fun _ _ _ _ _ => pts_nil) (fun _ _ _ _ _ => (pe_cmpR (op_in_seqK (K := K) (by rfl)) (pv 6) (pv 4) (by rfl)))) pa_nil)))) (pss_one (ps_ret pe_bl)) pss_nil) (pss_cons (ps_if (pt_not (pt_val (pe_callB (cr_all rfl) (by rfl) T.n_all (by decide +kernel) (pa_cons (pe_lc (own := [("number", 6)]) (g := gName 6) (tt := tYes) rfl sc_law.nd (pi_list (pv 4)) (blkOk_by (N := N_law) (sc := defScope s_law) (by decide +kernel)) (fun _ _ _ _ _ => pg_name (i := 6) sc_law.nd rfl (Or.inl rfl)) (fun _ _ _ _ _ => pts_nil) (fun _ _ _ _ _ => (pe_cmpR (op_in_seqK (K := K) (by rfl)) (pv 6) (pe_call G_law_free (hr.mono (by first | decide | omega)) (by rfl) g_law_free kp_law_free b_law_free .nil pass0 (pa_cons (pv 2) pa_nil)) (by rfl)))) pa_nil)))) (pss_one (ps_ret pe_bl)) pss_nil) (pss_cons (ps_set (i := 7) sc_law.nd rfl (.inl rfl) (pe_call G_law_normal (hr.mono (by first | decide | omega)) (by rfl) g_law_normal kp_law_normal b_law_normal .nil pass0 (pa_cons (pv 2) (pa_cons pe_int pa_nil)))) (pss_cons (ps_set (i := 8) sc_law.nd rfl (.inl rfl) (pe_call G_law_normal_of (hr.mono (by first | decide | omega)) (by rfl) g_law_normal_of kp_law_normal_of b_law_normal_of .nil pass0 (pa_cons (pv 3) (pa_cons pe_int pa_nil)))) (pss_one (ps_if (PW.pt (pw_and (pt_cmpR (op_notInDT (Nat.lt_of_le_of_lt (Nat.le_trans (Nat.add_le_add_left (by decide : 65 ≤ 200) _) (Nat.add_le_add_right (Nat.le_add_right _ _) _)) hr.un)) (pv 7) (pe_tup (pa_cons pe_str (pa_cons pe_str pa_nil))) (by rfl)) (pw_and (pt_cmpR op_notN (pv 8) pe_non (nomark _)) (pw_and1 (pt_cmpR (op_neD hr.units) (pv 8) (pe_ix ix_tup (pv 7) pe_int (fun _ _ => rfl)) (nomark _)))))) (pss_one (ps_ret pe_bl)) pss_nil))))))) pss_nil) (pss_cons (ps_set (i := 3) sc_law.nd rfl (.inl rfl) (pe_call G_law_combination (hr.mono (by first | decide | omega)) (by rfl) g_law_combination kp_law_combination b_law_combination .nil pass0 (pa_cons (pv 1) (pa_cons (pe_op op_add pe_int (pe_call G_law_draw (hr.mono (by first | decide | omega)) (by rfl) g_law_draw kp_law_draw b_law_draw .nil pass0 (pa_cons (pv 1) (pa_cons pe_int pa_nil)))) (pa_cons pe_int pa_nil))))) (pss_cons (ps_set (i := 9) sc_law.nd rfl (.inl rfl) (pe_call G_law_combination (hr.mono (by first | decide | omega)) (by rfl) g_law_combination kp_law_combination b_law_combination .nil pass0 (pa_cons (pv 1) (pa_cons (pe_op op_add pe_int (pe_call G_law_draw (hr.mono (by first | decide | omega)) (by rfl) g_law_draw kp_law_draw b_law_draw .nil pass0 (pa_cons (pv 1) (pa_cons pe_int pa_nil)))) (pa_cons pe_int pa_nil))))) (pss_cons (ps_set (i := 10) sc_law.nd rfl (.inl rfl) (pe_call G_law_normal_of (hr.mono (by first | decide | omega)) (by rfl) g_law_normal_of kp_law_normal_of b_law_normal_of .nil pass0 (pa_cons (pe_op op_catA (pe_op op_catA (pe_tup (pa_cons pe_str pa_nil)) (pe_call G_abstracted (hr.mono (by first | decide | omega)) (by rfl) g_abstracted kp_abstracted b_abstracted .nil (passes_call (takes_of rfl rfl rfl rfl) (fun _ _ _ _ h => h)) (pa_cons (pv 3) pa_nil))) (pv 9)) (pa_cons pe_int pa_nil)))) (pss_cons (ps_set (i := 11) sc_law.nd rfl (.inl rfl) (pe_call G_law_normal_of (hr.mono (by first | decide | omega)) (by rfl) g_law_normal_of kp_law_normal_of b_law_normal_of .nil pass0 (pa_cons (pe_call G_value_put (hr.mono (by first | decide | omega)) (by rfl) g_value_put kp_value_put b_value_put .nil (passes_call (takes_of rfl rfl rfl rfl) (fun _ _ _ _ h => h)) (pa_cons (pv 3) (pa_cons (pv 9) pa_nil))) (pa_cons pe_int pa_nil)))) (pss_one (ps_ret (pe_or (pe_cmpR op_isN (pv 10) pe_non (nomark _)) (pe_or (pe_cmpR op_isN (pv 11) pe_non (nomark _)) (pe_one (pe_cmpR (op_eqD hr.units) (pv 10) (pv 11) (nomark _))))))))))))))), ?_⟩
    refine sl_of (σ2 := [some _, none, none, none, none, none, none, none, none, none, none, none]) rfl ?_
    walk_at "st"
    walk_at "go"
    refine ⟨a, ns, rfl, hS, hlen, fun H1 s1 l e1 hs1 st1 => ?_⟩
    generalize (⟨l, ns, 0, 0, mixOf ns⟩ : Stm) = m1 at *
    clear hs1 e1 hS
    walk_at "go"
    refine ⟨s1, m1, 14, rfl, st1, by decide, by decide, fun H2 fr2 st2 => ?_⟩
    have v2 := m1.val_lt (n := 14) (by decide)
    generalize m1.val 14 = n2 at *
    generalize m1.next 14 = m2 at *
    obtain ⟨k, rfl⟩ : ∃ k : Nat, n2 = (k : Int) := ⟨n2.toNat, (Int.toNat_of_nonneg v2.1).symm⟩
    walk_at "go"
    refine ⟨s1, m2, 2, rfl, st2, by decide, by decide, fun H3 fr3 st3 => ?_⟩
    have v3 := m2.val_lt (n := 2) (by decide)
    generalize m2.val 2 = n3 at *
    generalize m2.next 2 = m3 at *
    obtain ⟨k3, rfl⟩ : ∃ k : Nat, n3 = (k : Int) := ⟨n3.toNat, (Int.toNat_of_nonneg v3.1).symm⟩
    clear fr2 fr3 st1 st2
    walk_at "go"
    refine ⟨s1, m3, 1 + k, 3 * k3, by rw [show ((1 + k : Nat) : Int) = 1 + (k : Int) by omega, show ((3 * k3 : Nat) : Int) = 3 * (k3 : Int) by omega]; rfl, st3, by omega, by omega, by omega, fun H4 pt m4 t fr4 st4 fol4 hpt0 hpt hwf htl => ?_⟩
    have htl : t.enc.length ≤ 28 := by omega
    have hpt := SqT.of (K := K) hpt
    have hv : t.vars 100 := Tm.vars_mono (by omega) (Tm.vars_wf hwf)
    clear fr4 st3 fol4 hpt0 hwf
    walk_at "go"
    refine made_one hpt (by omega) hv (by omega) fun v5 H5 e5 hm5 => ?_
    have hpt5 := ex_t e5 hpt
    have st5 := st4.ex e5
    clear e5 hpt st4
    walk_at "go"
    refine w_cut (M := fun σ' H' => ∃ (y4 y5 y6 y7 y8 y9 y10 y11 : Option V), σ' = [some (.ref a), some (.ref s1), some (.ref pt), some v5, y4, y5, y6, y7, y8, y9, y10, y11] ∧ StAt H' s1 m4) ?_ ?_
    · walk_at "go"
      rcases hm5 with ⟨p5, rfl, hlc, hp5⟩ | rfl
      · have hnd := t.cmb.nodes
        walk_at "go"
        intro nl hnl
        refine lc_tup (K := K) (a := p5) (xs := t.cmb.enc) (fun i H' => Ex H5 H' ∧ H' nl = some (.lst (((t.cmb.enc.take i).filterMap intV).map V.int))) ⟨Ex.new hnl, by rw [upd_same]; simp⟩ (fun i H' _ e => ex_t e.1 hp5) ?_ ?_
        · rintro i x H6 hi ⟨e6, hn6⟩
          have tk := fmT88 (f := intV) hi
          have hlt : i < t.cmb.enc.length := (List.getElem?_eq_some_iff.mp hi).1
          have ll : (((t.cmb.enc.take i).filterMap intV).map V.int).length ≤ 1000 := by
            rw [List.length_map]
            refine Nat.le_trans (List.length_filterMap_le _ _) ?_
            rw [List.length_take]
            omega
          walk_at "go"
          rcases hnd x (List.mem_of_getElem? hi) with ⟨n, rfl⟩ | rfl | rfl | rfl | rfl
          · walk_at "go"
            refine ⟨_, hn6, ly_lt (by omega), by walk_at "ex", ?_⟩
            rw [upd_same, tk]
            simp [intV]
          all_goals
            walk_at "go"
            rw [tk]
            simpa [intV] using ⟨e6, hn6⟩
        · rintro H6 ⟨e6, hn6⟩
          rw [List.take_length] at hn6
          have hpt6 := ex_t e6 hpt5
          have hp56 := ex_t e6 hp5
          have st6 := st5.ex e6
          clear hpt5 hp5 st5 hnl e6
          walk_at "go"
          intro ns ul hperm _ hul
          have hns : ∀ z, z ∈ ns ↔ ∃ j : Nat, z = j ∧ t.fr 0 j := fun z => by
            rw [hperm.mem_iff, intV_mem hnd]
            constructor
            · rintro ⟨j, e, h⟩
              exact ⟨j, e, (cmb_fr t j).mp h⟩
            · rintro ⟨j, e, h⟩
              exact ⟨j, e, (cmb_fr t j).mpr h⟩
          have nsl : ns.length ≤ 1000 := by
            rw [hperm.length_eq]
            exact Nat.le_trans (List.length_filterMap_le _ _) hlc
          have e7 := Ex.new hul (o := .lst (ns.map V.int))
          have hu7 : upd H6 ul (.lst (ns.map V.int)) ul = some (.lst (ns.map V.int)) := upd_same
          have hpt7 := ex_t e7 hpt6
          have hp57 := ex_t e7 hp56
          have st7 := st6.ex e7
          generalize upd H6 ul (.lst (ns.map V.int)) = H7 at *
          clear hpt6 hp56 st6 hn6 hul e7 hperm
          walk_at "go"
          refine ⟨pt, t, rfl, hpt7, by omega, fun H8 fl ns2 e8 hfl hf8 hm2 hl2 => ?_⟩
          walk_at "go"
          intro dl hdl
          refine lc_list (K := K) (a := fl) (xs := ns2.map V.int) (fun i H' => Ex H8 H' ∧ H' dl = some (.lst (((ns2.take i).map fun z => decide (z ∈ ns)).map V.bl))) ⟨by walk_at "ex", by rw [upd_same]; simp⟩ (fun i H' _ h => SqL.of (h.1 _ _ hf8)) ?_ ?_
          · rintro i x H9 hi ⟨e9, hd9⟩
            have lb : (((ns2.take i).map fun z => decide (z ∈ ns)).map V.bl).length ≤ 1000 := by
              rw [List.length_map, List.length_map, List.length_take]
              omega
            rw [List.getElem?_map] at hi
            obtain ⟨z, hz, rfl⟩ := Option.map_eq_some_iff.mp hi
            have hu9 := e9 _ _ (e8 _ _ hu7)
            walk_at "go"
            refine w_in88 (SqL.of hu9) ?_
            walk_at "go"
            refine ⟨_, hd9, ly_lt (by omega), by walk_at "ex", ?_⟩
            rw [upd_same, mp_take hz, List.map_append]
            rfl
          · rintro H9 ⟨e9, hd9⟩
            rw [List.length_map, List.take_length] at hd9
            have e79 := e8.trans e9
            have hu9 := e79 _ _ hu7
            have hpt9 := ex_t e79 hpt7
            have hp59 := ex_t e79 hp57
            have st9 := st7.ex e79
            clear hu7 hpt7 hp57 st7 e79 e8 e9 hdl hfl hf8
            walk_at "go"
            refine w_allB (SqL.of hd9) ?_
            rw [all_id (fun z hz => decide_eq_true ((hns z).mpr ((hm2 z).mp hz)))]
            walk_at "go"
            clear hd9 hm2 hl2
            intro dl hdl
            refine lc_list (K := K) (a := ul) (xs := ns.map V.int) (fun i H' => Ex H9 H' ∧ H' dl = some (.lst (((ns.take i).map fun _ => true).map V.bl))) ⟨by walk_at "ex", by rw [upd_same]; simp⟩ (fun i H' _ h => SqL.of (h.1 _ _ hu9)) ?_ ?_
            · rintro i x H10 hi ⟨e10, hd10⟩
              have lb : (((ns.take i).map fun _ => true).map V.bl).length ≤ 1000 := by
                rw [List.length_map, List.length_map, List.length_take]
                omega
              rw [List.getElem?_map] at hi
              obtain ⟨z, hz, rfl⟩ := Option.map_eq_some_iff.mp hi
              walk_at "go"
              refine ⟨pt, t, rfl, ex_t e10 hpt9, by omega, fun H11 fl ns2 e11 hfl hf11 hm2 hl2 => ?_⟩
              have hd11 := e11 _ _ hd10
              refine w_in88 (SqL.of hf11) ?_
              rw [decide_eq_true ((hm2 z).mpr ((hns z).mp (List.mem_of_getElem? hz)))]
              walk_at "go"
              refine ⟨_, hd11, ly_lt (by omega), (e10.trans e11).mut hdl, ?_⟩
              rw [upd_same, mp_take hz, List.map_append]
              rfl
            · rintro H10 ⟨e10, hd10⟩
              rw [List.length_map, List.take_length] at hd10
              have hpt10 := ex_t e10 hpt9
              have hp510 := ex_t e10 hp59
              have st10 := st9.ex e10
              clear hu9 hpt9 hp59 st9 e10 hdl
              walk_at "go"
              refine w_allB (SqL.of hd10) ?_
              rw [all_id (fun z hz => rfl)]
              walk_at "go"
              refine lnorm_one (k := 60) hpt10 (by omega) (by decide) rfl fun v11 H11 e11 hv11 => ?_
              have hp511 := ex_t e11 hp510
              have st11 := st10.ex e11
              clear hpt10 hp510 st10 e11 hd10
              walk_at "go"
              refine normof_one (c := t.cmb) (k := 600) hp511 rfl (by omega) (by decide) rfl fun v12 H12 e12 hv12 => ?_
              have st12 := st11.ex e12
              clear st11 hp511
              rcases hv11 with ⟨p, x, n, u, rfl, hsu, hru, hp, hx⟩ | hv11
              · have hp12 := ex_t e12 hp
                have hx12 := ex_t e12 hx
                clear hp hx e12
                walk_at "go"
                intro p13 hp13
                have e13 := Ex.new hp13 (o := .tup [V.str "large", V.str "steps"])
                have hq13 : SqT K (upd H12 p13 (.tup [V.str "large", V.str "steps"])) p13 [V.str "large", V.str "steps"] := SqT.of upd_same
                have hp14 := ex_t e13 hp12
                have hx14 := ex_t e13 hx12
                have hv14 := hv12.mono e13
                have st14 := st12.ex e13
                refine w_niPair hp14 hx14 hq13 ?_
                generalize upd H12 p13 (.tup [V.str "large", V.str "steps"]) = H14 at *
                clear hp12 hx12 hv12 st12 e13 hq13 hp13
                walk_at "go"
                rcases hv14 with ⟨x2, u2, rfl, hsu2, hru2, hx2⟩ | rfl
                · have e2 : u2 = u := norm_uniq2 (cmb_star t) hsu2 hsu hru2 hru
                  subst e2
                  have ix0 : atI ([.ref x, .int n] : List V) 0 = some (.ref x) := at_of (j := 0) rfl rfl
                  walk_at "go"
                  exact ⟨_, _, _, _, _, _, _, _, rfl, st14⟩
                · walk_at "go"
                  exact ⟨_, _, _, _, _, _, _, _, rfl, st14⟩
              · walk_at "go"
                intro p13 hp13
                have e13 := Ex.new hp13 (o := .tup [V.str "large", V.str "steps"])
                have hq13 : SqT K (upd H12 p13 (.tup [V.str "large", V.str "steps"])) p13 [V.str "large", V.str "steps"] := SqT.of upd_same
                have st14 := st12.ex e13
                generalize upd H12 p13 (.tup [V.str "large", V.str "steps"]) = H14 at *
                clear hv12 st12 e13 hp13
                obtain ⟨ss, rfl, hss⟩ : ∃ ss : Str, v11 = .str ss ∧ (ss = "large" ∨ ss = "steps") := by
                  rcases hv11 with rfl | rfl
                  · exact ⟨_, rfl, .inl rfl⟩
                  · exact ⟨_, rfl, .inr rfl⟩
                refine w_niStr hss hq13 ?_
                walk_at "go"
                exact ⟨_, _, _, _, _, _, _, _, rfl, st14⟩
      · walk_at "go"
        exact ⟨none, none, none, none, none, none, none, none, rfl, st5⟩
    · clear hm5 hpt5 st5
      rintro σ' H6 ⟨y4, y5, y6, y7, y8, y9, y10, y11, rfl, st6⟩
      walk_at "go"
      refine ⟨s1, m4, 10, rfl, st6, by decide, by decide, fun H7 fr7 st7 => ?_⟩
      have v7 := m4.val_lt (n := 10) (by decide)
      generalize m4.val 10 = n7 at *
      generalize m4.next 10 = m7 at *
      obtain ⟨k7, rfl⟩ : ∃ k : Nat, n7 = (k : Int) := ⟨n7.toNat, (Int.toNat_of_nonneg v7.1).symm⟩
      clear fr7 st6
      walk_at "go"
      refine ⟨s1, m7, 1 + k7, 2, by rw [show ((1 + k7 : Nat) : Int) = 1 + (k7 : Int) by omega]; rfl, st7, by omega, by omega, by omega, fun H8 pn m8 n fr8 st8 fol8 hpn hln hnl => ?_⟩
      clear fr8 st7 fol8
      walk_at "go"
      refine ⟨s1, m8, 5, rfl, st8, by decide, by decide, fun H9 fr9 st9 => ?_⟩
      have hpn9 := fr_t fr9 st8.2.1 hpn
      have v9 := m8.val_lt (n := 5) (by decide)
      generalize m8.val 5 = n9 at *
      generalize m8.next 5 = m9 at *
      obtain ⟨k9, rfl⟩ : ∃ k : Nat, n9 = (k : Int) := ⟨n9.toNat, (Int.toNat_of_nonneg v9.1).symm⟩
      clear fr9 st8 hpn
      walk_at "go"
      refine ⟨s1, m9, 1 + k9, 2, by rw [show ((1 + k9 : Nat) : Int) = 1 + (k9 : Int) by omega]; rfl, st9, by omega, by omega, by omega, fun H10 pv m10 v fr10 st10 fol10 hpv hlv hvl => ?_⟩
      have hpn10 := fr_t fr10 st9.2.1 hpn9
      clear fr10 st9 fol10 hpn9 st10
      have aln := n.abs_len.2
      walk_at "go"
      intro p11 hp11
      have e11 := Ex.new hp11 (o := .tup [V.str "app"])
      have hq11 : SqT K (upd H10 p11 (.tup [V.str "app"])) p11 [V.str "app"] := SqT.of upd_same
      have hpn11 := ex_t e11 hpn10
      have hpv11 := ex_t e11 hpv
      generalize upd H10 p11 (.tup [V.str "app"]) = H11 at *
      clear hpn10 hpv e11 hp11
      walk_at "go"
      refine ⟨pn, n, 2, rfl, hpn11, by omega, hln, by decide, fun _ H12 p12 e12 hp12 => ?_, fun z => by omega⟩
      have hq12 := ex_t e12 hq11
      have hpn12 := ex_t e12 hpn11
      have hpv12 := ex_t e12 hpv11
      clear hq11 hpn11 hpv11 e12
      walk_at "go"
      intro p13 H13 e13 hp13
      have hpn13 := ex_t e13 hpn12
      have hpv13 := ex_t e13 hpv12
      clear hp12 hq12 hpn12 hpv12 e13
      walk_at "go"
      intro p14 H14 e14 hp14
      have hpn14 := ex_t e14 hpn13
      have hpv14 := ex_t e14 hpv13
      clear hp13 hpn13 hpv13 e14
      have ea : [V.str "app"] ++ n.abs.enc ++ v.enc = (Cb.app n.abs v).enc := by simp [Cb.enc]
      have la : (Cb.app n.abs v).enc.length ≤ 1000 := by
        rw [← ea]
        simp
        omega
      walk_at "go"
      refine normof_one (c := Cb.app n.abs v) (k := 600) hp14 ea la (by decide) rfl fun v15 H15 e15 hv15 => ?_
      have hpn15 := ex_t e15 hpn14
      have hpv15 := ex_t e15 hpv14
      clear hp14 hpn14 hpv14 e15
      have lput : (Cb.vput v n).enc.length ≤ 100 := by
        have h := fm_len (f := vpN v.enc) (n := v.enc.length) (xs := n.enc) fun x hx => vpN_len v.pos
        have h2 : v.enc.length * n.enc.length ≤ 5 * 10 := Nat.mul_le_mul (by omega) (by omega)
        rw [vput_enc]
        omega
      have okp := vpN_ok hln (by decide) hlv (by decide)
      have vp := v.pos
      walk_at "go"
      refine ⟨pn, pv, n.enc, v.enc, rfl, hpn15, hpv15, n.nodes, v.nodes, by omega, by omega, by omega, fun _ H16 p16 e16 hp16 => ?_, fun z => ?_⟩
      case refine_2 =>
        exfalso
        rw [← vput_enc] at z okp
        rw [fitsV, okp, Bool.and_true, decide_eq_true (by omega)] at z
        cases z
      have hv16 := hv15.mono e16
      clear hpn15 hpv15 hv15 e16
      walk_at "go"
      refine normof_one (c := Cb.vput v n) (k := 600) hp16 (vput_enc v n).symm (by omega) (by decide) rfl fun v17 H17 e17 hv17 => ?_
      have hv18 := hv16.mono e17
      walk_at "go"
      clear hv16 e17
      rcases hv18 with ⟨x1, u1, rfl, hs1, hr1, hx1⟩ | rfl
      · rcases hv17 with ⟨x2, u2, rfl, hs2, hr2, hx2⟩ | rfl
        · have e2 : u1 = u2 := norm_uniq2 (vput_star n v) hs1 hs2 hr1 hr2
          subst e2
          walk_at "go"
          rw [decide_eq_true rfl]
          exact q _
        · walk_at "go"
          exact q _
      · walk_at "go"
        exact q _
end
end Ly
set_option Elab.async false
set_option linter.all false
set_option maxRecDepth 100000
set_option maxHeartbeats 8000000
namespace Ly
open PySem PySem.Spec PyProof.Rows L2 Evl

-- endR _law_mapped ok_mapped 3:2
/-! ### what the top has left; the head -/
theorem all_mk {l : PySem.W.OpenLaw} {w : World} {K : PySem.W.Frag} {h : Heap} {mg : Str → Option Value} {fa f1 f2 f3 f4 f5 f6 f7 f8 f9 f10 f11 f12 f13 f14 f15 f16 f17 f18 f19 f20 f21 f22 f23 f24 f25 f26 f27 f28 f29 f30 f31 f32 f33 cc40 cc41 cc0 cc1 cc4 cc42 cc43 cc44 : Addr} (X : K.In h) (G : h.Ns mainGlobals mg) (hfa : mg "law" = some (.ref fa))
    {od1 an1 od2 an2 od3 an3 od4 an4 od5 an5 od6 an6 od7 an7 od8 an8 od9 an9 od10 an10 od11 an11 od12 an12 od13 an13 od14 an14 od15 an15 od16 an16 od17 an17 od18 an18 od19 an19 od20 an20 od21 an21 od22 an22 od23 an23 od24 an24 od25 an25 od26 an26 od27 an27 od28 an28 od29 an29 od30 an30 od31 an31 od32 an32 od33 an33 : Option Addr} {sl1 sl2 sl3 sl4 sl5 sl6 sl7 sl8 sl9 sl10 sl11 sl12 sl13 sl14 sl15 sl16 sl17 sl18 sl19 sl20 sl21 sl22 sl23 sl24 sl25 sl26 sl27 sl28 sl29 sl30 sl31 sl32 sl33 : Array (Option Value)} {oc1 kV1 dc1 pm1 cd1 ct1 oc2 kV2 dc2 pm2 cd2 ct2 oc3 kV3 dc3 pm3 cd3 ct3 oc4 kV4 dc4 pm4 cd4 ct4 oc5 kV5 dc5 pm5 cd5 ct5 oc6 kV6 dc6 pm6 cd6 ct6 oc7 kV7 dc7 pm7 cd7 ct7 oc8 kV8 dc8 pm8 cd8 ct8 oc9 kV9 dc9 pm9 cd9 ct9 oc10 kV10 dc10 pm10 cd10 ct10 oc11 kV11 dc11 pm11 cd11 ct11 oc12 kV12 dc12 pm12 cd12 ct12 oc13 kV13 dc13 pm13 cd13 ct13 oc14 kV14 dc14 pm14 cd14 ct14 oc15 kV15 dc15 pm15 cd15 ct15 oc16 kV16 dc16 pm16 cd16 ct16 oc17 kV17 dc17 pm17 cd17 ct17 oc18 kV18 dc18 pm18 cd18 ct18 oc19 kV19 dc19 pm19 cd19 ct19 oc20 kV20 dc20 pm20 cd20 ct20 oc21 kV21 dc21 pm21 cd21 ct21 oc22 kV22 dc22 pm22 cd22 ct22 oc23 kV23 dc23 pm23 cd23 ct23 oc24 kV24 dc24 pm24 cd24 ct24 oc25 kV25 dc25 pm25 cd25 ct25 oc26 kV26 dc26 pm26 cd26 ct26 oc27 kV27 dc27 pm27 cd27 ct27 oc28 kV28 dc28 pm28 cd28 ct28 oc29 kV29 dc29 pm29 cd29 ct29 oc30 kV30 dc30 pm30 cd30 ct30 oc31 kV31 dc31 pm31 cd31 ct31 oc32 kV32 dc32 pm32 cd32 ct32 oc33 kV33 dc33 pm33 cd33 ct33 : Value} {t0 t1 : Tok}
    (a1 : PySem.W.nsIn K mainGlobals "_law_draw" = some (some (.ref f1))) (l1 : K.lookup f1 = some ⟨oc1, od1, .func (PySem.W.fnOf "_law_draw" "_law_draw" (defArgs s_law_draw) (defBody s_law_draw) (defScope s_law_draw) .none kV1 dc1 pm1 an1 cd1 ct1), sl1⟩) (c1 : PySem.W.codeIn K cd1 "_law_draw" = true) (k1 : PySem.W.keepIn K (.ref f1) = true)
    (a2 : PySem.W.nsIn K mainGlobals "_law_stream" = some (some (.ref f2))) (l2 : K.lookup f2 = some ⟨oc2, od2, .func (PySem.W.fnOf "_law_stream" "_law_stream" (defArgs s_law_stream) (defBody s_law_stream) (defScope s_law_stream) .none kV2 dc2 pm2 an2 cd2 ct2), sl2⟩) (c2 : PySem.W.codeIn K cd2 "_law_stream" = true) (k2 : PySem.W.keepIn K (.ref f2) = true)
    (a3 : PySem.W.nsIn K mainGlobals "_law_combination" = some (some (.ref f3))) (l3 : K.lookup f3 = some ⟨oc3, od3, .func (PySem.W.fnOf "_law_combination" "_law_combination" (defArgs s_law_combination) (defBody s_law_combination) (defScope s_law_combination) .none kV3 dc3 pm3 an3 cd3 ct3), sl3⟩) (c3 : PySem.W.codeIn K cd3 "_law_combination" = true) (k3 : PySem.W.keepIn K (.ref f3) = true)
    (a4 : PySem.W.nsIn K mainGlobals "part_count" = some (some (.ref f4))) (l4 : K.lookup f4 = some ⟨oc4, od4, .func (PySem.W.fnOf "part_count" "part_count" (defArgs s_part_count) (defBody s_part_count) (defScope s_part_count) .none kV4 dc4 pm4 an4 cd4 ct4), sl4⟩) (c4 : PySem.W.codeIn K cd4 "part_count" = true) (k4 : PySem.W.keepIn K (.ref f4) = true)
    (a5 : PySem.W.nsIn K mainGlobals "check_size" = some (some (.ref f5))) (l5 : K.lookup f5 = some ⟨oc5, od5, .func (PySem.W.fnOf "check_size" "check_size" (defArgs s_check_size) (defBody s_check_size) (defScope s_check_size) .none kV5 dc5 pm5 an5 cd5 ct5), sl5⟩) (c5 : PySem.W.codeIn K cd5 "check_size" = true) (k5 : PySem.W.keepIn K (.ref f5) = true)
    (a6 : PySem.W.nsIn K mainGlobals "checked" = some (some (.ref f6))) (l6 : K.lookup f6 = some ⟨oc6, od6, .func (PySem.W.fnOf "checked" "checked" (defArgs s_checked) (defBody s_checked) (defScope s_checked) .none kV6 dc6 pm6 an6 cd6 ct6), sl6⟩) (c6 : PySem.W.codeIn K cd6 "checked" = true) (k6 : PySem.W.keepIn K (.ref f6) = true)
    (a7 : PySem.W.nsIn K mainGlobals "depths" = some (some (.ref f7))) (l7 : K.lookup f7 = some ⟨oc7, od7, .func (PySem.W.fnOf "depths" "depths" (defArgs s_depths) (defBody s_depths) (defScope s_depths) .none kV7 dc7 pm7 an7 cd7 ct7), sl7⟩) (c7 : PySem.W.codeIn K cd7 "depths" = true) (k7 : PySem.W.keepIn K (.ref f7) = true)
    (a8 : PySem.W.nsIn K mainGlobals "stands_free" = some (some (.ref f8))) (l8 : K.lookup f8 = some ⟨oc8, od8, .func (PySem.W.fnOf "stands_free" "stands_free" (defArgs s_stands_free) (defBody s_stands_free) (defScope s_stands_free) .none kV8 dc8 pm8 an8 cd8 ct8), sl8⟩) (c8 : PySem.W.codeIn K cd8 "stands_free" = true) (k8 : PySem.W.keepIn K (.ref f8) = true)
    (a9 : PySem.W.nsIn K mainGlobals "lifted_nodes" = some (some (.ref f9))) (l9 : K.lookup f9 = some ⟨oc9, od9, .func (PySem.W.fnOf "lifted_nodes" "lifted_nodes" (defArgs s_lifted_nodes) (defBody s_lifted_nodes) (defScope s_lifted_nodes) .none kV9 dc9 pm9 an9 cd9 ct9), sl9⟩) (c9 : PySem.W.codeIn K cd9 "lifted_nodes" = true) (k9 : PySem.W.keepIn K (.ref f9) = true)
    (a10 : PySem.W.nsIn K mainGlobals "put" = some (some (.ref f10))) (l10 : K.lookup f10 = some ⟨oc10, od10, .func (PySem.W.fnOf "put" "put" (defArgs s_put) (defBody s_put) (defScope s_put) .none kV10 dc10 pm10 an10 cd10 ct10), sl10⟩) (c10 : PySem.W.codeIn K cd10 "put" = true) (k10 : PySem.W.keepIn K (.ref f10) = true)
    (a11 : PySem.W.nsIn K mainGlobals "end_of" = some (some (.ref f11))) (l11 : K.lookup f11 = some ⟨oc11, od11, .func (PySem.W.fnOf "end_of" "end_of" (defArgs s_end_of) (defBody s_end_of) (defScope s_end_of) .none kV11 dc11 pm11 an11 cd11 ct11), sl11⟩) (c11 : PySem.W.codeIn K cd11 "end_of" = true) (k11 : PySem.W.keepIn K (.ref f11) = true)
    (a12 : PySem.W.nsIn K mainGlobals "is_redex" = some (some (.ref f12))) (l12 : K.lookup f12 = some ⟨oc12, od12, .func (PySem.W.fnOf "is_redex" "is_redex" (defArgs s_is_redex) (defBody s_is_redex) (defScope s_is_redex) .none kV12 dc12 pm12 an12 cd12 ct12), sl12⟩) (c12 : PySem.W.codeIn K cd12 "is_redex" = true) (k12 : PySem.W.keepIn K (.ref f12) = true)
    (a13 : PySem.W.nsIn K mainGlobals "stepped" = some (some (.ref f13))) (l13 : K.lookup f13 = some ⟨oc13, od13, .func (PySem.W.fnOf "stepped" "stepped" (defArgs s_stepped) (defBody s_stepped) (defScope s_stepped) .none kV13 dc13 pm13 an13 cd13 ct13), sl13⟩) (c13 : PySem.W.codeIn K cd13 "stepped" = true) (k13 : PySem.W.keepIn K (.ref f13) = true)
    (a14 : PySem.W.nsIn K mainGlobals "first_redex" = some (some (.ref f14))) (l14 : K.lookup f14 = some ⟨oc14, od14, .func (PySem.W.fnOf "first_redex" "first_redex" (defArgs s_first_redex) (defBody s_first_redex) (defScope s_first_redex) .none kV14 dc14 pm14 an14 cd14 ct14), sl14⟩) (c14 : PySem.W.codeIn K cd14 "first_redex" = true) (k14 : PySem.W.keepIn K (.ref f14) = true)
    (a15 : PySem.W.nsIn K mainGlobals "next_redex" = some (some (.ref f15))) (l15 : K.lookup f15 = some ⟨oc15, od15, .func (PySem.W.fnOf "next_redex" "next_redex" (defArgs s_next_redex) (defBody s_next_redex) (defScope s_next_redex) .none kV15 dc15 pm15 an15 cd15 ct15), sl15⟩) (c15 : PySem.W.codeIn K cd15 "next_redex" = true) (k15 : PySem.W.keepIn K (.ref f15) = true)
    (a16 : PySem.W.nsIn K mainGlobals "repeated" = some (some (.ref f16))) (l16 : K.lookup f16 = some ⟨oc16, od16, .func (PySem.W.fnOf "repeated" "repeated" (defArgs s_repeated) (defBody s_repeated) (defScope s_repeated) .none kV16 dc16 pm16 an16 cd16 ct16), sl16⟩) (c16 : PySem.W.codeIn K cd16 "repeated" = true) (k16 : PySem.W.keepIn K (.ref f16) = true)
    (a17 : PySem.W.nsIn K mainGlobals "normal" = some (some (.ref f17))) (l17 : K.lookup f17 = some ⟨oc17, od17, .func (PySem.W.fnOf "normal" "normal" (defArgs s_normal) (defBody s_normal) (defScope s_normal) .none kV17 dc17 pm17 an17 cd17 ct17), sl17⟩) (c17 : PySem.W.codeIn K cd17 "normal" = true) (k17 : PySem.W.keepIn K (.ref f17) = true)
    (a18 : PySem.W.nsIn K mainGlobals "decreased" = some (some (.ref f18))) (l18 : K.lookup f18 = some ⟨oc18, od18, .func (PySem.W.fnOf "decreased" "decreased" (defArgs s_decreased) (defBody s_decreased) (defScope s_decreased) .none kV18 dc18 pm18 an18 cd18 ct18), sl18⟩) (c18 : PySem.W.codeIn K cd18 "decreased" = true) (k18 : PySem.W.keepIn K (.ref f18) = true)
    (a19 : PySem.W.nsIn K mainGlobals "term_of" = some (some (.ref f19))) (l19 : K.lookup f19 = some ⟨oc19, od19, .func (PySem.W.fnOf "term_of" "term_of" (defArgs s_term_of) (defBody s_term_of) (defScope s_term_of) .none kV19 dc19 pm19 an19 cd19 ct19), sl19⟩) (c19 : PySem.W.codeIn K cd19 "term_of" = true) (k19 : PySem.W.keepIn K (.ref f19) = true)
    (a20 : PySem.W.nsIn K mainGlobals "value_put" = some (some (.ref f20))) (l20 : K.lookup f20 = some ⟨oc20, od20, .func (PySem.W.fnOf "value_put" "value_put" (defArgs s_value_put) (defBody s_value_put) (defScope s_value_put) .none kV20 dc20 pm20 an20 cd20 ct20), sl20⟩) (c20 : PySem.W.codeIn K cd20 "value_put" = true) (k20 : PySem.W.keepIn K (.ref f20) = true)
    (a21 : PySem.W.nsIn K mainGlobals "_law_term" = some (some (.ref f21))) (l21 : K.lookup f21 = some ⟨oc21, od21, .func (PySem.W.fnOf "_law_term" "_law_term" (defArgs s_law_term) (defBody s_law_term) (defScope s_law_term) .none kV21 dc21 pm21 an21 cd21 ct21), sl21⟩) (c21 : PySem.W.codeIn K cd21 "_law_term" = true) (k21 : PySem.W.keepIn K (.ref f21) = true)
    (a22 : PySem.W.nsIn K mainGlobals "parts_with_zero" = some (some (.ref f22))) (l22 : K.lookup f22 = some ⟨oc22, od22, .func (PySem.W.fnOf "parts_with_zero" "parts_with_zero" (defArgs s_parts_with_zero) (defBody s_parts_with_zero) (defScope s_parts_with_zero) .none kV22 dc22 pm22 an22 cd22 ct22), sl22⟩) (c22 : PySem.W.codeIn K cd22 "parts_with_zero" = true) (k22 : PySem.W.keepIn K (.ref f22) = true)
    (a23 : PySem.W.nsIn K mainGlobals "abstracted" = some (some (.ref f23))) (l23 : K.lookup f23 = some ⟨oc23, od23, .func (PySem.W.fnOf "abstracted" "abstracted" (defArgs s_abstracted) (defBody s_abstracted) (defScope s_abstracted) .none kV23 dc23 pm23 an23 cd23 ct23), sl23⟩) (c23 : PySem.W.codeIn K cd23 "abstracted" = true) (k23 : PySem.W.keepIn K (.ref f23) = true)
    (a24 : PySem.W.nsIn K mainGlobals "combination_of" = some (some (.ref f24))) (l24 : K.lookup f24 = some ⟨oc24, od24, .func (PySem.W.fnOf "combination_of" "combination_of" (defArgs s_combination_of) (defBody s_combination_of) (defScope s_combination_of) .none kV24 dc24 pm24 an24 cd24 ct24), sl24⟩) (c24 : PySem.W.codeIn K cd24 "combination_of" = true) (k24 : PySem.W.keepIn K (.ref f24) = true)
    (a25 : PySem.W.nsIn K mainGlobals "_law_end" = some (some (.ref f25))) (l25 : K.lookup f25 = some ⟨oc25, od25, .func (PySem.W.fnOf "_law_end" "_law_end" (defArgs s_law_end) (defBody s_law_end) (defScope s_law_end) .none kV25 dc25 pm25 an25 cd25 ct25), sl25⟩) (c25 : PySem.W.codeIn K cd25 "_law_end" = true) (k25 : PySem.W.keepIn K (.ref f25) = true)
    (a26 : PySem.W.nsIn K mainGlobals "_law_mapped" = some (some (.ref f26))) (l26 : K.lookup f26 = some ⟨oc26, od26, .func (PySem.W.fnOf "_law_mapped" "_law_mapped" (defArgs s_law_mapped) (defBody s_law_mapped) (defScope s_law_mapped) .none kV26 dc26 pm26 an26 cd26 ct26), sl26⟩) (c26 : PySem.W.codeIn K cd26 "_law_mapped" = true) (k26 : PySem.W.keepIn K (.ref f26) = true)
    (a27 : PySem.W.nsIn K mainGlobals "_law_stepped" = some (some (.ref f27))) (l27 : K.lookup f27 = some ⟨oc27, od27, .func (PySem.W.fnOf "_law_stepped" "_law_stepped" (defArgs s_law_stepped) (defBody s_law_stepped) (defScope s_law_stepped) .none kV27 dc27 pm27 an27 cd27 ct27), sl27⟩) (c27 : PySem.W.codeIn K cd27 "_law_stepped" = true) (k27 : PySem.W.keepIn K (.ref f27) = true)
    (a28 : PySem.W.nsIn K mainGlobals "_law_redexes" = some (some (.ref f28))) (l28 : K.lookup f28 = some ⟨oc28, od28, .func (PySem.W.fnOf "_law_redexes" "_law_redexes" (defArgs s_law_redexes) (defBody s_law_redexes) (defScope s_law_redexes) .none kV28 dc28 pm28 an28 cd28 ct28), sl28⟩) (c28 : PySem.W.codeIn K cd28 "_law_redexes" = true) (k28 : PySem.W.keepIn K (.ref f28) = true)
    (a29 : PySem.W.nsIn K mainGlobals "_law_normal" = some (some (.ref f29))) (l29 : K.lookup f29 = some ⟨oc29, od29, .func (PySem.W.fnOf "_law_normal" "_law_normal" (defArgs s_law_normal) (defBody s_law_normal) (defScope s_law_normal) .none kV29 dc29 pm29 an29 cd29 ct29), sl29⟩) (c29 : PySem.W.codeIn K cd29 "_law_normal" = true) (k29 : PySem.W.keepIn K (.ref f29) = true)
    (a30 : PySem.W.nsIn K mainGlobals "_law_normal_of" = some (some (.ref f30))) (l30 : K.lookup f30 = some ⟨oc30, od30, .func (PySem.W.fnOf "_law_normal_of" "_law_normal_of" (defArgs s_law_normal_of) (defBody s_law_normal_of) (defScope s_law_normal_of) .none kV30 dc30 pm30 an30 cd30 ct30), sl30⟩) (c30 : PySem.W.codeIn K cd30 "_law_normal_of" = true) (k30 : PySem.W.keepIn K (.ref f30) = true)
    (a31 : PySem.W.nsIn K mainGlobals "_law_free" = some (some (.ref f31))) (l31 : K.lookup f31 = some ⟨oc31, od31, .func (PySem.W.fnOf "_law_free" "_law_free" (defArgs s_law_free) (defBody s_law_free) (defScope s_law_free) .none kV31 dc31 pm31 an31 cd31 ct31), sl31⟩) (c31 : PySem.W.codeIn K cd31 "_law_free" = true) (k31 : PySem.W.keepIn K (.ref f31) = true)
    (a32 : PySem.W.nsIn K mainGlobals "_law_made" = some (some (.ref f32))) (l32 : K.lookup f32 = some ⟨oc32, od32, .func (PySem.W.fnOf "_law_made" "_law_made" (defArgs s_law_made) (defBody s_law_made) (defScope s_law_made) .none kV32 dc32 pm32 an32 cd32 ct32), sl32⟩) (c32 : PySem.W.codeIn K cd32 "_law_made" = true) (k32 : PySem.W.keepIn K (.ref f32) = true)
    (a33 : PySem.W.nsIn K mainGlobals "law" = some (some (.ref f33))) (l33 : K.lookup f33 = some ⟨oc33, od33, .func (PySem.W.fnOf "law" "law" (defArgs s_law) (defBody s_law) (defScope s_law) .none kV33 dc33 pm33 an33 cd33 ct33), sl33⟩) (c33 : PySem.W.codeIn K cd33 "law" = true) (k33 : PySem.W.keepIn K (.ref f33) = true)
    (z_int : PySem.W.nsIn K mainGlobals "int" = some none)
    (z_list : PySem.W.nsIn K mainGlobals "list" = some none)
    (z_len : PySem.W.nsIn K mainGlobals "len" = some none)
    (z_abs : PySem.W.nsIn K mainGlobals "abs" = some none)
    (z_isinstance : PySem.W.nsIn K mainGlobals "isinstance" = some none)
    (z_tuple : PySem.W.nsIn K mainGlobals "tuple" = some none)
    (z_range : PySem.W.nsIn K mainGlobals "range" = some none)
    (z_zip : PySem.W.nsIn K mainGlobals "zip" = some none)
    (z_reversed : PySem.W.nsIn K mainGlobals "reversed" = some none)
    (z_sorted : PySem.W.nsIn K mainGlobals "sorted" = some none)
    (z_all : PySem.W.nsIn K mainGlobals "all" = some none)
    (z_max : PySem.W.nsIn K mainGlobals "max" = some none)
    (z_ValueError : PySem.W.nsIn K mainGlobals "ValueError" = some none)
    (g_MOST_NODES : PySem.W.nsIn K mainGlobals "MOST_NODES" = some (some (.int 1000 t0)))
    (g_MOST_VARIABLE : PySem.W.nsIn K mainGlobals "MOST_VARIABLE" = some (some (.int 1000000 t1)))
    (e_PART_COUNTS : PySem.W.nsIn K mainGlobals "PART_COUNTS" = some (some (.ref cc40)))
    (e_TERMS : PySem.W.nsIn K mainGlobals "TERMS" = some (some (.ref cc41)))
    (e_LyditeError : PySem.W.nsIn K mainGlobals "LyditeError" = some (some (.ref cc0)))
    (e_TooLarge : PySem.W.nsIn K mainGlobals "TooLarge" = some (some (.ref cc1)))
    (e_OutOfSteps : PySem.W.nsIn K mainGlobals "OutOfSteps" = some (some (.ref cc4)))
    (y_d_PART_COUNTS : KD K w cc40 [("lam", .int 1), ("app", .int 2), ("to", .int 2)])
    (y_d_TERMS : KD K w cc41 [("S", .ref cc42), ("K", .ref cc43), ("I", .ref cc44)])
    (y_t_TERMS_0 : KT K cc42 [.str "lam", .str "lam", .str "lam", .str "app", .str "app", .int 2, .int 0, .str "app", .int 1, .int 0])
    (y_t_TERMS_1 : KT K cc43 [.str "lam", .str "lam", .int 1])
    (y_t_TERMS_2 : KT K cc44 [.str "lam", .int 0])
    (y_t_LyditeError : PySem.W.typeIn K (.ref cc0) = some (.type "type"))
    (y_h3_LyditeError : PySem.W.hasDictIn K cc0 = true)
    (y_b_LyditeError : PySem.W.subIn K (.ref cc0) (.type "BaseException") = some true)
    (y_x_TooLarge : PySem.W.excIn K cc1 [.type "ValueError", .type "Exception", .type "BaseException", .type "object"] "ValueError.__new__" = true)
    (y_k_TooLarge : PySem.W.keepIn K (.ref cc1) = true)
    (y_b_TooLarge : PySem.W.subIn K (.ref cc1) (.type "BaseException") = some true)
    (y_t_TooLarge : PySem.W.typeIn K (.ref cc1) = some (.type "type"))
    (y_s0_TooLarge : PySem.W.subIn K (.ref cc1) (.ref cc0) = some true)
    (y_sv_TooLarge : PySem.W.subIn K (.ref cc1) (.type "ValueError") = some true)
    (y_s1_TooLarge : PySem.W.subIn K (.ref cc1) (.ref cc1) = some true)
    (y_s4_TooLarge : PySem.W.subIn K (.ref cc1) (.ref cc4) = some false)
    (y_h1_TooLarge : PySem.W.findIn K (.ref cc1) "__getattribute__" = some (some (.builtin "BaseException.__getattribute__")))
    (y_h2_TooLarge : PySem.W.findIn K (.ref cc1) "__getattr__" = some none)
    (y_h3_TooLarge : PySem.W.hasDictIn K cc1 = true)
    (y_h4_TooLarge : PySem.W.findIn K (.ref cc1) "__class__" = some (some (.builtin "object.__class__")))
    (y_h7_TooLarge : PySem.W.mroIn K cc1 (.type "object") = some true)
    (y_h5_TooLarge : PySem.W.specialIn K (.builtin "object.__class__") "__get__" = some (some (.builtin "getset_descriptor.__get__")))
    (y_h6_TooLarge : PySem.W.takesIn K (.builtin "object.__class__") = some true)
    (y_x_OutOfSteps : PySem.W.excIn K cc4 [.type "ValueError", .type "Exception", .type "BaseException", .type "object"] "ValueError.__new__" = true)
    (y_k_OutOfSteps : PySem.W.keepIn K (.ref cc4) = true)
    (y_b_OutOfSteps : PySem.W.subIn K (.ref cc4) (.type "BaseException") = some true)
    (y_t_OutOfSteps : PySem.W.typeIn K (.ref cc4) = some (.type "type"))
    (y_s0_OutOfSteps : PySem.W.subIn K (.ref cc4) (.ref cc0) = some true)
    (y_sv_OutOfSteps : PySem.W.subIn K (.ref cc4) (.type "ValueError") = some true)
    (y_s1_OutOfSteps : PySem.W.subIn K (.ref cc4) (.ref cc1) = some false)
    (y_s4_OutOfSteps : PySem.W.subIn K (.ref cc4) (.ref cc4) = some true)
    (y_h1_OutOfSteps : PySem.W.findIn K (.ref cc4) "__getattribute__" = some (some (.builtin "BaseException.__getattribute__")))
    (y_h2_OutOfSteps : PySem.W.findIn K (.ref cc4) "__getattr__" = some none)
    (y_h3_OutOfSteps : PySem.W.hasDictIn K cc4 = true)
    (y_h4_OutOfSteps : PySem.W.findIn K (.ref cc4) "__class__" = some (some (.builtin "object.__class__")))
    (y_h7_OutOfSteps : PySem.W.mroIn K cc4 (.type "object") = some true)
    : ∃ fd : FuncData, (∀ (s : Shared) (v : Value), BindsTo s fd ⟨[v], []⟩ [("script", v)]) ∧ ∀ base : Heap, K.In base → base.Ns mainGlobals mg → FnOk l.prog w K mg base (L2.CX l.prog w) 40 fa fd ["script"] (spLaw K) := by
  have e := hfa.symm.trans (PySem.W.mg_of X G a33)
  cases e
  have T : Txt w K mg (fun n => match n with | 0 => t0 | _ => t1) (fun n => match n with | 42 => cc42 | 43 => cc43 | 44 => cc44 | 40 => cc40 | 41 => cc41 | 0 => cc0 | 1 => cc1 | _ => cc4) := ⟨PySem.W.mg_none_of X G z_int, PySem.W.mg_none_of X G z_list, PySem.W.mg_none_of X G z_len, PySem.W.mg_none_of X G z_abs, PySem.W.mg_none_of X G z_isinstance, PySem.W.mg_none_of X G z_tuple, PySem.W.mg_none_of X G z_range, PySem.W.mg_none_of X G z_zip, PySem.W.mg_none_of X G z_reversed, PySem.W.mg_none_of X G z_sorted, PySem.W.mg_none_of X G z_all, PySem.W.mg_none_of X G z_max, PySem.W.mg_of X G g_MOST_NODES, PySem.W.mg_of X G g_MOST_VARIABLE, PySem.W.mg_of X G e_PART_COUNTS, y_d_PART_COUNTS, PySem.W.mg_of X G e_TERMS, y_d_TERMS, y_t_TERMS_0, y_t_TERMS_1, y_t_TERMS_2, PySem.W.mg_none_of X G z_ValueError, PySem.W.mg_of X G e_LyditeError, y_t_LyditeError, y_h3_LyditeError, y_b_LyditeError, PySem.W.mg_of X G e_TooLarge, y_x_TooLarge, y_k_TooLarge, y_b_TooLarge, y_t_TooLarge, y_s0_TooLarge, y_sv_TooLarge, y_s1_TooLarge, y_s4_TooLarge, y_h1_TooLarge, y_h2_TooLarge, y_h3_TooLarge, y_h4_TooLarge, y_h7_TooLarge, y_h5_TooLarge, y_h6_TooLarge, PySem.W.mg_of X G e_OutOfSteps, y_x_OutOfSteps, y_k_OutOfSteps, y_b_OutOfSteps, y_t_OutOfSteps, y_s0_OutOfSteps, y_sv_OutOfSteps, y_s1_OutOfSteps, y_s4_OutOfSteps, y_h1_OutOfSteps, y_h2_OutOfSteps, y_h3_OutOfSteps, y_h4_OutOfSteps, y_h7_OutOfSteps⟩
  exact ⟨PySem.W.fnOf "law" "law" (defArgs s_law) (defBody s_law) (defScope s_law) .none kV33 dc33 pm33 an33 cd33 ct33, fun s v => .of_eq rfl, fun base _ _ => by
    have F1 := fun_mk (st := s_law_draw) l1 c1 k1
    have D1 := Def.of (P := l.prog) (w := w) (base := base) (k := 1) (PySem.W.mg_of X G a1) k1 (F1.binds (ps := ["stream", "many"]) fun _ _ _ _ _ _ us hl => match us, hl with | [_, _], _ => rfl) (ok_draw F1 T)
    have F2 := fun_mk (st := s_law_stream) l2 c2 k2
    have D2 := Def.of (P := l.prog) (w := w) (base := base) (k := 1) (PySem.W.mg_of X G a2) k2 (F2.binds (ps := ["script"]) fun _ _ _ _ _ _ us hl => match us, hl with | [_], _ => rfl) (ok_stream F2 T)
    have F3 := fun_mk (st := s_law_combination) l3 c3 k3
    have D3 := Def.of (P := l.prog) (w := w) (base := base) (k := 2) (PySem.W.mg_of X G a3) k3 (F3.binds (ps := ["stream", "size", "widest"]) fun _ _ _ _ _ _ us hl => match us, hl with | [_, _, _], _ => rfl) (ok_comb F3 T D1)
    have F4 := fun_mk (st := s_part_count) l4 c4 k4
    have D4 := Def.of (P := l.prog) (w := w) (base := base) (k := 1) (PySem.W.mg_of X G a4) k4 (F4.binds (ps := ["node"]) fun _ _ _ _ _ _ us hl => match us, hl with | [_], _ => rfl) (ok_part_count F4 T)
    have F5 := fun_mk (st := s_check_size) l5 c5 k5
    have D5 := Def.of (P := l.prog) (w := w) (base := base) (k := 1) (PySem.W.mg_of X G a5) k5 (F5.binds (ps := ["size"]) fun _ _ _ _ _ _ us hl => match us, hl with | [_], _ => rfl) (ok_check_size F5 T)
    have F6 := fun_mk (st := s_checked) l6 c6 k6
    have D6 := Def.of (P := l.prog) (w := w) (base := base) (k := 2) (PySem.W.mg_of X G a6) k6 (F6.binds (ps := ["term"]) fun _ _ _ _ _ _ us hl => match us, hl with | [_], _ => rfl) (ok_checked F6 T D5)
    have F7 := fun_mk (st := s_depths) l7 c7 k7
    have D7 := Def.of (P := l.prog) (w := w) (base := base) (k := 1) (PySem.W.mg_of X G a7) k7 (F7.binds (ps := ["term"]) fun _ _ _ _ _ _ us hl => match us, hl with | [_], _ => rfl) (ok_depths F7 T)
    have F8 := fun_mk (st := s_stands_free) l8 c8 k8
    have D8 := Def.of (P := l.prog) (w := w) (base := base) (k := 1) (PySem.W.mg_of X G a8) k8 (F8.binds (ps := ["node", "depth"]) fun _ _ _ _ _ _ us hl => match us, hl with | [_, _], _ => rfl) (ok_stands_free F8 T)
    have F9 := fun_mk (st := s_lifted_nodes) l9 c9 k9
    have D9 := Def.of (P := l.prog) (w := w) (base := base) (k := 2) (PySem.W.mg_of X G a9) k9 (F9.binds (ps := ["term", "count"]) fun _ _ _ _ _ _ us hl => match us, hl with | [_, _], _ => rfl) (ok_lifted F9 T D7 D8)
    have F10 := fun_mk (st := s_put) l10 c10 k10
    have D10 := Def.of (P := l.prog) (w := w) (base := base) (k := 3) (PySem.W.mg_of X G a10) k10 (F10.binds (ps := ["term", "value"]) fun _ _ _ _ _ _ us hl => match us, hl with | [_, _], _ => rfl) (ok_put F10 T D7 D8 D9 D5 D6)
    have F11 := fun_mk (st := s_end_of) l11 c11 k11
    have D11 := Def.of (P := l.prog) (w := w) (base := base) (k := 2) (PySem.W.mg_of X G a11) k11 (F11.binds (ps := ["term", "start"]) fun _ _ _ _ _ _ us hl => match us, hl with | [_, _], _ => rfl) (ok_end_of F11 T D4)
    have F12 := fun_mk (st := s_is_redex) l12 c12 k12
    have D12 := Def.of (P := l.prog) (w := w) (base := base) (k := 1) (PySem.W.mg_of X G a12) k12 (F12.binds (ps := ["term", "at"]) fun _ _ _ _ _ _ us hl => match us, hl with | [_, _], _ => rfl) (ok_is_redex F12 T)
    have F13 := fun_mk (st := s_stepped) l13 c13 k13
    have D13 := Def.of (P := l.prog) (w := w) (base := base) (k := 4) (PySem.W.mg_of X G a13) k13 (F13.binds (ps := ["term", "at"]) fun _ _ _ _ _ _ us hl => match us, hl with | [_, _], _ => rfl) (ok_stepped F13 T D11 D10 D6)
    have F14 := fun_mk (st := s_first_redex) l14 c14 k14
    have D14 := Def.of (P := l.prog) (w := w) (base := base) (k := 2) (PySem.W.mg_of X G a14) k14 (F14.binds (ps := ["term", "start"]) fun _ _ _ _ _ _ us hl => match us, hl with | [_, _], _ => rfl) (ok_first F14 T D12)
    have F15 := fun_mk (st := s_next_redex) l15 c15 k15
    have D15 := Def.of (P := l.prog) (w := w) (base := base) (k := 3) (PySem.W.mg_of X G a15) k15 (F15.binds (ps := ["term", "at"]) fun _ _ _ _ _ _ us hl => match us, hl with | [_, _], _ => rfl) (ok_nextf F15 T D14)
    have F16 := fun_mk (st := s_repeated) l16 c16 k16
    have D16 := Def.of (P := l.prog) (w := w) (base := base) (k := 6) (PySem.W.mg_of X G a16) k16 (F16.binds (ps := ["term", "steps", "next_at", "step_at"]) fun _ _ _ _ _ _ us hl => match us, hl with | [_, _, _, _], _ => rfl) (ok_repeated F16 T D13 D15 D6)
    have F17 := fun_mk (st := s_normal) l17 c17 k17
    have D17 := Def.of (P := l.prog) (w := w) (base := base) (k := 7) (PySem.W.mg_of X G a17) k17 (F17.binds (ps := ["term", "steps"]) fun _ _ _ _ _ _ us hl => match us, hl with | [_, _], _ => rfl) (ok_normal F17 T D16 D13 D15)
    have F4 := fun_mk (st := s_part_count) l4 c4 k4
    have D4 := Def.of (P := l.prog) (w := w) (base := base) (k := 1) (PySem.W.mg_of X G a4) k4 (F4.binds (ps := ["node"]) fun _ _ _ _ _ _ us hl => match us, hl with | [_], _ => rfl) (ok_part_countC F4 T)
    have F11 := fun_mk (st := s_end_of) l11 c11 k11
    have D11 := Def.of (P := l.prog) (w := w) (base := base) (k := 2) (PySem.W.mg_of X G a11) k11 (F11.binds (ps := ["term", "start"]) fun _ _ _ _ _ _ us hl => match us, hl with | [_, _], _ => rfl) (ok_end_ofC F11 T D4)
    have F18 := fun_mk (st := s_decreased) l18 c18 k18
    have D18 := Def.of (P := l.prog) (w := w) (base := base) (k := 1) (PySem.W.mg_of X G a18) k18 (F18.binds (ps := ["combination"]) fun _ _ _ _ _ _ us hl => match us, hl with | [_], _ => rfl) (ok_decreased F18 T)
    have F19 := fun_mk (st := s_term_of) l19 c19 k19
    have D19 := Def.of (P := l.prog) (w := w) (base := base) (k := 3) (PySem.W.mg_of X G a19) k19 (F19.binds (ps := ["combination"]) fun _ _ _ _ _ _ us hl => match us, hl with | [_], _ => rfl) (ok_term_of F19 T D6)
    have F20 := fun_mk (st := s_value_put) l20 c20 k20
    have D20 := Def.of (P := l.prog) (w := w) (base := base) (k := 3) (PySem.W.mg_of X G a20) k20 (F20.binds (ps := ["combination", "value"]) fun _ _ _ _ _ _ us hl => match us, hl with | [_, _], _ => rfl) (ok_value_put F20 T D18 D6)
    have F21 := fun_mk (st := s_law_term) l21 c21 k21
    have D21 := Def.of (P := l.prog) (w := w) (base := base) (k := 2) (PySem.W.mg_of X G a21) k21 (F21.binds (ps := ["stream", "size", "widest"]) fun _ _ _ _ _ _ us hl => match us, hl with | [_, _, _], _ => rfl) (ok_term F21 T D1)
    have F22 := fun_mk (st := s_parts_with_zero) l22 c22 k22
    have D22 := Def.of (P := l.prog) (w := w) (base := base) (k := 1) (PySem.W.mg_of X G a22) k22 (F22.binds (ps := ["combination"]) fun _ _ _ _ _ _ us hl => match us, hl with | [_], _ => rfl) (ok_pzero F22 T)
    have F23 := fun_mk (st := s_abstracted) l23 c23 k23
    have D23 := Def.of (P := l.prog) (w := w) (base := base) (k := 4) (PySem.W.mg_of X G a23) k23 (F23.binds (ps := ["combination"]) fun _ _ _ _ _ _ us hl => match us, hl with | [_], _ => rfl) (ok_abstracted F23 T D22 D11 D18 D6)
    have F24 := fun_mk (st := s_combination_of) l24 c24 k24
    have D24 := Def.of (P := l.prog) (w := w) (base := base) (k := 5) (PySem.W.mg_of X G a24) k24 (F24.binds (ps := ["term"]) fun _ _ _ _ _ _ us hl => match us, hl with | [_], _ => rfl) (ok_combof F24 T D5 D23 D6)
    have F25 := fun_mk (st := s_law_end) l25 c25 k25
    have D25 := Def.of (P := l.prog) (w := w) (base := base) (k := 1) (PySem.W.mg_of X G a25) k25 (F25.binds (ps := ["term", "at"]) fun _ _ _ _ _ _ us hl => match us, hl with | [_, _], _ => rfl) (ok_lend87 F25 T)
    have F26 := fun_mk (st := s_law_mapped) l26 c26 k26
    have D26 := Def.of (P := l.prog) (w := w) (base := base) (k := 3) (PySem.W.mg_of X G a26) k26 (F26.binds (ps := ["term", "value", "count"]) fun _ _ _ _ _ _ us hl => match us, hl with | [_, _, _], _ => rfl) (ok_mapped F26 T (PySem.W.mg_of X G a26) k26 (F26.binds (ps := ["term", "value", "count"]) fun _ _ _ _ _ _ us hl => match us, hl with | [_, _, _], _ => rfl) 2)
    have F27 := fun_mk (st := s_law_stepped) l27 c27 k27
    have D27 := Def.of (P := l.prog) (w := w) (base := base) (k := 4) (PySem.W.mg_of X G a27) k27 (F27.binds (ps := ["term", "at"]) fun _ _ _ _ _ _ us hl => match us, hl with | [_, _], _ => rfl) (ok_lstep87 F27 T D25 D26)
    have F28 := fun_mk (st := s_law_redexes) l28 c28 k28
    have D28 := Def.of (P := l.prog) (w := w) (base := base) (k := 1) (PySem.W.mg_of X G a28) k28 (F28.binds (ps := ["term"]) fun _ _ _ _ _ _ us hl => match us, hl with | [_], _ => rfl) (ok_lreds87 F28 T)
    have F29 := fun_mk (st := s_law_normal) l29 c29 k29
    have D29 := Def.of (P := l.prog) (w := w) (base := base) (k := 5) (PySem.W.mg_of X G a29) k29 (F29.binds (ps := ["term", "steps"]) fun _ _ _ _ _ _ us hl => match us, hl with | [_, _], _ => rfl) (ok_lnorm F29 T D28 D27)
    have F30 := fun_mk (st := s_law_normal_of) l30 c30 k30
    have D30 := Def.of (P := l.prog) (w := w) (base := base) (k := 8) (PySem.W.mg_of X G a30) k30 (F30.binds (ps := ["nodes", "steps"]) fun _ _ _ _ _ _ us hl => match us, hl with | [_, _], _ => rfl) (ok_normof F30 T D19 D17)
    have F31 := fun_mk (st := s_law_free) l31 c31 k31
    have D31 := Def.of (P := l.prog) (w := w) (base := base) (k := 1) (PySem.W.mg_of X G a31) k31 (F31.binds (ps := ["term"]) fun _ _ _ _ _ _ us hl => match us, hl with | [_], _ => rfl) (ok_free88 F31 T)
    have F32 := fun_mk (st := s_law_made) l32 c32 k32
    have D32 := Def.of (P := l.prog) (w := w) (base := base) (k := 6) (PySem.W.mg_of X G a32) k32 (F32.binds (ps := ["term"]) fun _ _ _ _ _ _ us hl => match us, hl with | [_], _ => rfl) (ok_made F32 T D24)
    have F33 := fun_mk (st := s_law) l33 c33 k33
    exact ok_law F33 T D2 D1 D21 D32 D31 D29 D30 D3 D23 D20⟩
theorem walk {l : PySem.W.OpenLaw} {q : Program} {loose : List Str} {XP : (Str → Option Value) → Heap → Prop} {YP : World → Heap → Prop} {d : DefRec} {K : Params → PySem.W.Frag} (hn : l.most = some 63) (hdf : d.params.defaults = [])
    (hY : ∀ (w : World) (h : Heap), YP w h → (K w.params).In h)
    (F : ∀ (w : World) (mg : Str → Option Value) (fa : Addr) (h : Heap), (K w.params).In h → h.Ns mainGlobals mg → mg d.name = some (.ref fa) →
      ∃ fd : FuncData, (∀ (s : Shared) (u : Value), BindsTo s fd ⟨[u], []⟩ [("script", u)]) ∧ ∀ base : Heap, (K w.params).In base → base.Ns mainGlobals mg → FnOk l.prog w (K w.params) mg base (L2.CX l.prog w) 40 fa fd ["script"] (spLaw (K w.params))) :
    PySem.W.WalkO q loose XP YP l.row.toRowW d [] (fun f vs => PySem.call f vs) :=
  L2.walk_of (n := 63) (k := 40) (x := "script") (CX := fun w => L2.CX l.prog w) (sp := fun w => spLaw (K w.params)) hn (by decide) hdf ⟨rfl, by decide, by decide⟩ hY F (fun _ _ a ns hl _ hS => ⟨a, ns, rfl, hS, hl, fun _ => rfl⟩) fun _ _ _ _ _ z => (match z with | ⟨_, _, _, _, _, _, _, _, _, _, _, _, e⟩ => e)
end Ly
open PySem PySem.W PyProof.Rows in
set_option maxRecDepth 100000 in
set_option maxHeartbeats 0 in
theorem PySem.Challenge.cw_lydite_k88_whole_there_and_back_holds : PySem.Challenge.rw_lydite_k88_whole_there_and_back.Holds := by
  w_on; o_law; k_head; (case hw => w_witness2)
  k_fill
  refine Ly.walk (l := PySem.Challenge.rw_lydite_k88_whole_there_and_back) rfl rfl (fun w h Y => PySem.W.kIn_of Y) ?F
  case F =>
    intro w mg fa h KX G hmg
    refine' Ly.all_mk KX G hmg ?a1 ?l1 ?c1 ?k1 ?a2 ?l2 ?c2 ?k2 ?a3 ?l3 ?c3 ?k3 ?a4 ?l4 ?c4 ?k4 ?a5 ?l5 ?c5 ?k5 ?a6 ?l6 ?c6 ?k6 ?a7 ?l7 ?c7 ?k7 ?a8 ?l8 ?c8 ?k8 ?a9 ?l9 ?c9 ?k9 ?a10 ?l10 ?c10 ?k10 ?a11 ?l11 ?c11 ?k11 ?a12 ?l12 ?c12 ?k12 ?a13 ?l13 ?c13 ?k13 ?a14 ?l14 ?c14 ?k14 ?a15 ?l15 ?c15 ?k15 ?a16 ?l16 ?c16 ?k16 ?a17 ?l17 ?c17 ?k17 ?a18 ?l18 ?c18 ?k18 ?a19 ?l19 ?c19 ?k19 ?a20 ?l20 ?c20 ?k20 ?a21 ?l21 ?c21 ?k21 ?a22 ?l22 ?c22 ?k22 ?a23 ?l23 ?c23 ?k23 ?a24 ?l24 ?c24 ?k24 ?a25 ?l25 ?c25 ?k25 ?a26 ?l26 ?c26 ?k26 ?a27 ?l27 ?c27 ?k27 ?a28 ?l28 ?c28 ?k28 ?a29 ?l29 ?c29 ?k29 ?a30 ?l30 ?c30 ?k30 ?a31 ?l31 ?c31 ?k31 ?a32 ?l32 ?c32 ?k32 ?a33 ?l33 ?c33 ?k33 ?z_int ?z_list ?z_len ?z_abs ?z_isinstance ?z_tuple ?z_range ?z_zip ?z_reversed ?z_sorted ?z_all ?z_max ?z_ValueError ?g_MOST_NODES ?g_MOST_VARIABLE ?e_PART_COUNTS ?e_TERMS ?e_LyditeError ?e_TooLarge ?e_OutOfSteps ?y_d_PART_COUNTS ?y_d_TERMS ?y_t_TERMS_0 ?y_t_TERMS_1 ?y_t_TERMS_2 ?y_t_LyditeError ?y_h3_LyditeError ?y_b_LyditeError ?y_x_TooLarge ?y_k_TooLarge ?y_b_TooLarge ?y_t_TooLarge ?y_s0_TooLarge ?y_sv_TooLarge ?y_s1_TooLarge ?y_s4_TooLarge ?y_h1_TooLarge ?y_h2_TooLarge ?y_h3_TooLarge ?y_h4_TooLarge ?y_h7_TooLarge ?y_h5_TooLarge ?y_h6_TooLarge ?y_x_OutOfSteps ?y_k_OutOfSteps ?y_b_OutOfSteps ?y_t_OutOfSteps ?y_s0_OutOfSteps ?y_sv_OutOfSteps ?y_s1_OutOfSteps ?y_s4_OutOfSteps ?y_h1_OutOfSteps ?y_h2_OutOfSteps ?y_h3_OutOfSteps ?y_h4_OutOfSteps ?y_h7_OutOfSteps
    (case e_PART_COUNTS => k_is)
    (case e_TERMS => k_is)
    (case e_LyditeError => k_is)
    (case e_TooLarge => k_is)
    (case e_OutOfSteps => k_is)
    (case y_d_PART_COUNTS => (refine' Ly.KD.mk ?kl ?kk ?ks ?ke; (case kl => k_is); (case kk => k_keys); (case ks => decide); (case ke => exact ⟨⟨_, rfl⟩, ⟨_, rfl⟩, ⟨⟨_, rfl⟩, ⟨_, rfl⟩, ⟨⟨_, rfl⟩, ⟨_, rfl⟩, True.intro⟩⟩⟩)))
    (case y_d_TERMS => (refine' Ly.KD.mk ?kl ?kk ?ks ?ke; (case kl => k_is); (case kk => k_keys); (case ks => decide); (case ke => exact ⟨⟨_, rfl⟩, rfl, ⟨⟨_, rfl⟩, rfl, ⟨⟨_, rfl⟩, rfl, True.intro⟩⟩⟩)))
    (case y_t_TERMS_0 => (refine' Ly.KT.mk ?tl ?tc ?td ?tz ?tv; (case tl => k_is); (case tc => rfl); (case td => rfl); (case tz => decide); (case tv => exact (.cons ⟨_, rfl⟩ (.cons ⟨_, rfl⟩ (.cons ⟨_, rfl⟩ (.cons ⟨_, rfl⟩ (.cons ⟨_, rfl⟩ (.cons ⟨_, rfl⟩ (.cons ⟨_, rfl⟩ (.cons ⟨_, rfl⟩ (.cons ⟨_, rfl⟩ (.cons ⟨_, rfl⟩ .nil)))))))))))))
    (case y_t_TERMS_1 => (refine' Ly.KT.mk ?tl ?tc ?td ?tz ?tv; (case tl => k_is); (case tc => rfl); (case td => rfl); (case tz => decide); (case tv => exact (.cons ⟨_, rfl⟩ (.cons ⟨_, rfl⟩ (.cons ⟨_, rfl⟩ .nil))))))
    (case y_t_TERMS_2 => (refine' Ly.KT.mk ?tl ?tc ?td ?tz ?tv; (case tl => k_is); (case tc => rfl); (case td => rfl); (case tz => decide); (case tv => exact (.cons ⟨_, rfl⟩ (.cons ⟨_, rfl⟩ .nil)))))
    (case a1 => k_is)
    (case l1 => k_is)
    (case c1 => k_is)
    (case k1 => k_is)
    (case a2 => k_is)
    (case l2 => k_is)
    (case c2 => k_is)
    (case k2 => k_is)
    (case a3 => k_is)
    (case l3 => k_is)
    (case c3 => k_is)
    (case k3 => k_is)
    (case a4 => k_is)
    (case l4 => k_is)
    (case c4 => k_is)
    (case k4 => k_is)
    (case a5 => k_is)
    (case l5 => k_is)
    (case c5 => k_is)
    (case k5 => k_is)
    (case a6 => k_is)
    (case l6 => k_is)
    (case c6 => k_is)
    (case k6 => k_is)
    (case a7 => k_is)
    (case l7 => k_is)
    (case c7 => k_is)
    (case k7 => k_is)
    (case a8 => k_is)
    (case l8 => k_is)
    (case c8 => k_is)
    (case k8 => k_is)
    (case a9 => k_is)
    (case l9 => k_is)
    (case c9 => k_is)
    (case k9 => k_is)
    (case a10 => k_is)
    (case l10 => k_is)
    (case c10 => k_is)
    (case k10 => k_is)
    (case a11 => k_is)
    (case l11 => k_is)
    (case c11 => k_is)
    (case k11 => k_is)
    (case a12 => k_is)
    (case l12 => k_is)
    (case c12 => k_is)
    (case k12 => k_is)
    (case a13 => k_is)
    (case l13 => k_is)
    (case c13 => k_is)
    (case k13 => k_is)
    (case a14 => k_is)
    (case l14 => k_is)
    (case c14 => k_is)
    (case k14 => k_is)
    (case a15 => k_is)
    (case l15 => k_is)
    (case c15 => k_is)
    (case k15 => k_is)
    (case a16 => k_is)
    (case l16 => k_is)
    (case c16 => k_is)
    (case k16 => k_is)
    (case a17 => k_is)
    (case l17 => k_is)
    (case c17 => k_is)
    (case k17 => k_is)
    (case a18 => k_is)
    (case l18 => k_is)
    (case c18 => k_is)
    (case k18 => k_is)
    (case a19 => k_is)
    (case l19 => k_is)
    (case c19 => k_is)
    (case k19 => k_is)
    (case a20 => k_is)
    (case l20 => k_is)
    (case c20 => k_is)
    (case k20 => k_is)
    (case a21 => k_is)
    (case l21 => k_is)
    (case c21 => k_is)
    (case k21 => k_is)
    (case a22 => k_is)
    (case l22 => k_is)
    (case c22 => k_is)
    (case k22 => k_is)
    (case a23 => k_is)
    (case l23 => k_is)
    (case c23 => k_is)
    (case k23 => k_is)
    (case a24 => k_is)
    (case l24 => k_is)
    (case c24 => k_is)
    (case k24 => k_is)
    (case a25 => k_is)
    (case l25 => k_is)
    (case c25 => k_is)
    (case k25 => k_is)
    (case a26 => k_is)
    (case l26 => k_is)
    (case c26 => k_is)
    (case k26 => k_is)
    (case a27 => k_is)
    (case l27 => k_is)
    (case c27 => k_is)
    (case k27 => k_is)
    (case a28 => k_is)
    (case l28 => k_is)
    (case c28 => k_is)
    (case k28 => k_is)
    (case a29 => k_is)
    (case l29 => k_is)
    (case c29 => k_is)
    (case k29 => k_is)
    (case a30 => k_is)
    (case l30 => k_is)
    (case c30 => k_is)
    (case k30 => k_is)
    (case a31 => k_is)
    (case l31 => k_is)
    (case c31 => k_is)
    (case k31 => k_is)
    (case a32 => k_is)
    (case l32 => k_is)
    (case c32 => k_is)
    (case k32 => k_is)
    (case a33 => k_is)
    (case l33 => k_is)
    (case c33 => k_is)
    (case k33 => k_is)
    (case z_int => k_is)
    (case z_list => k_is)
    (case z_len => k_is)
    (case z_abs => k_is)
    (case z_isinstance => k_is)
    (case z_tuple => k_is)
    (case z_range => k_is)
    (case z_zip => k_is)
    (case z_reversed => k_is)
    (case z_sorted => k_is)
    (case z_all => k_is)
    (case z_max => k_is)
    (case z_ValueError => k_is)
    (case g_MOST_NODES => k_is)
    (case g_MOST_VARIABLE => k_is)
    (case y_t_LyditeError => k_is)
    (case y_h3_LyditeError => k_is)
    (case y_b_LyditeError => k_is)
    (case y_x_TooLarge => k_exc)
    (case y_k_TooLarge => k_is)
    (case y_b_TooLarge => k_is)
    (case y_t_TooLarge => k_is)
    (case y_s0_TooLarge => k_is)
    (case y_sv_TooLarge => k_is)
    (case y_s1_TooLarge => k_is)
    (case y_s4_TooLarge => k_is)
    (case y_h1_TooLarge => k_is)
    (case y_h2_TooLarge => k_is)
    (case y_h3_TooLarge => k_is)
    (case y_h4_TooLarge => k_is)
    (case y_h7_TooLarge => k_is)
    (case y_h5_TooLarge => k_is)
    (case y_h6_TooLarge => k_is)
    (case y_x_OutOfSteps => k_exc)
    (case y_k_OutOfSteps => k_is)
    (case y_b_OutOfSteps => k_is)
    (case y_t_OutOfSteps => k_is)
    (case y_s0_OutOfSteps => k_is)
    (case y_sv_OutOfSteps => k_is)
    (case y_s1_OutOfSteps => k_is)
    (case y_s4_OutOfSteps => k_is)
    (case y_h1_OutOfSteps => k_is)
    (case y_h2_OutOfSteps => k_is)
    (case y_h3_OutOfSteps => k_is)
    (case y_h4_OutOfSteps => k_is)
    (case y_h7_OutOfSteps => k_is)
