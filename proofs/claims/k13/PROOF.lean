import PyProof.Rows.All
import Wide.All
import OpenK.AllK
import Wide.FinOn
import HandS.ForMost
import HandS.IsInst
import HandS.Style
import HandS.Walk
import HandS.TupMul
import HandS.TupAny
import HandS.Evl
import HandS.Strs
import HandS.SortInts
import PyProof.P3Eq
import HandS.ForExc
import HandS.ExcIs
import HandS.FStr
import HandS.RaiseMore
import KE.GoesMore
import KE.GoesEnum
import HandS.Rev
import HandS.TryMany
import HandS.Dict
import HandS.More
import HandS.Iter
import HandS.CallLocal
import HandS.Conv
import HandS.SetKeys
import HandS.Codes
import PyProof.StrOps2
import HandS.AnyAll
import HandS.EndOwn
import KE.KDictZip
import KE.GoesZip
import HandS.GenList
import HandS.SetFor
import HandS.Text
import PySem.Challenge.RW_lydite_k13_show
set_option Elab.async false
set_option linter.all false
set_option maxRecDepth 100000
namespace Ly
open PySem PySem.Spec PyProof.Rows L2 Evl

section
variable {K : PySem.W.Frag} {σ : L2.St} {H H' H0 : Hp} {Q : VK} {D : Ends} {ta tb tc te to : TE} {tA : TA} {t u : TT} {s1 s2 : TS} {g : TG}
theorem w_var {i : Nat} {v : V} (h : σ[i]? = some (some v)) (q : Q v H) : tVar i σ H Q := ⟨v, h, q⟩
theorem w_c {v : V} (q : Q v H) : tC v σ H Q := q
theorem w_op {r : R2} (h : ta σ H fun x H1 => tb σ H1 fun y H2 => r x y H2 Q) : tOp r ta tb σ H Q := h
theorem w_un {r : V → Hp → VK → Prop} (h : ta σ H fun x H1 => r x H1 Q) : tUn r ta σ H Q := h
theorem w_I0 {f : Int → Int → V} {i j : Int} (q : Q (f i j) H) : rI0 f (.int i) (.int j) H Q := ⟨i, j, rfl, rfl, q⟩
theorem w_I {C : Int → Int → Prop} {f : Int → Int → V} {i j : Int} (c : C i j) (q : Q (f i j) H) : rI C f (.int i) (.int j) H Q := ⟨i, j, rfl, rfl, c, q⟩
theorem w_U {f : Int → V} {i : Int} (q : Q (f i) H) : rU f (.int i) H Q := ⟨i, rfl, q⟩
theorem w_eq {x y : V} (s : scal x y = true) (q : Q (.bl (decide (x = y))) H) : rEq x y H Q := ⟨s, q⟩
theorem w_ne {x y : V} (s : scal x y = true) (q : Q (.bl (!decide (x = y))) H) : rNe x y H Q := ⟨s, q⟩
theorem w_isB {a b : Bool} (q : Q (.bl (decide (a = b))) H) : rIsB (.bl a) (.bl b) H Q := ⟨a, b, rfl, rfl, q⟩
theorem w_notB {a b : Bool} (q : Q (.bl (!decide (a = b))) H) : rNotB (.bl a) (.bl b) H Q := ⟨a, b, rfl, rfl, q⟩
theorem w_nil {R : List V → Hp → Prop} (q : R [] H) : tNil σ H R := q
theorem w_cons {R : List V → Hp → Prop} {tr : TA} (h : ta σ H fun x H1 => tr σ H1 fun xs H2 => R (x :: xs) H2) : tCons ta tr σ H R := h
theorem w_tup (h : tA σ H fun xs H1 => xs.length ≤ sizeLine ∧ ∀ p, H1 p = none → Q (.ref p) (upd H1 p (.tup xs))) : tTup tA σ H Q := h
theorem w_lst (h : tA σ H fun xs H1 => xs.length ≤ sizeLine ∧ ∀ p, H1 p = none → Q (.ref p) (upd H1 p (.lst xs))) : tLst tA σ H Q := h
theorem w_cb {r : List V → Hp → VK → Prop} (h : tA σ H fun vs H1 => r vs H1 Q) : tCB r tA σ H Q := h
theorem w_call {sp : Sp} {dvs : List V} {E : XK} (h : tA σ H fun vs H1 => sp (vs ++ dvs) H1 Q E) : tCall sp dvs E tA σ H Q := h
theorem w_isi {x : V} {n : String} {t : Value} {b : Bool} (h : TyX K H x t) (k : PySem.W.kitOne K t (.type n) = some b) (q : Q (.bl b) H) : rIsi K [x, .ty n] H Q :=
  ⟨x, .ty n, t, .type n, b, rfl, .ty n, h, k, q⟩
theorem w_bm {T : String} {r : V → List V → Hp → VK → Prop} (h : to σ H fun x H1 => tyV K T x H1 ∧ tA σ H1 fun xs H2 => r x xs H2 Q) : tBM K T r to tA σ H Q := h
theorem w_bm0 {T : String} {r : V → List V → Hp → VK → Prop} (h : to σ H fun x H1 => tyV K T x H1 ∧ r x [] H1 Q) : tBM0 K T r to σ H Q := h
theorem w_app {l : Addr} {xs : List V} {y : V} (h : H l = some (.lst xs)) (z : xs.length < sizeLine) (q : Q .non (upd H l (.lst (xs ++ [y])))) : rAppend (.ref l) [y] H Q := ⟨l, xs, y, rfl, rfl, h, z, q⟩
theorem w_popA {l : Addr} {xs : List V} {y : V} (h : H l = some (.lst (xs ++ [y]))) (q : Q y (upd H l (.lst xs))) : rPop (.ref l) [] H Q :=
  ⟨l, xs ++ [y], y, rfl, rfl, h, by simp, by rw [List.dropLast_concat]; exact q⟩
theorem w_sadd {w : World} {a : Addr} {k : Int} {S : Int → Bool} {n : Nat} (h : H a = some (SetO w a S n)) (r : n + 1 < 4096) (q : Q .non (upd H a (SetO w a (fun j => S j || decide (j = k)) (if S k = true then n else n + 1)))) : rSAdd w (.ref a) [.int k] H Q := ⟨a, k, S, n, rfl, rfl, h, r, q⟩
theorem w_tsadd {w : World} (h : ta σ H fun x H1 => (∃ a S n, x = V.ref a ∧ H1 a = some (SetO w a S n)) ∧ tA σ H1 fun xs H2 => rSAdd w x xs H2 Q) : tSAdd w ta tA σ H Q := h
theorem w_tsadd1 {w : World} {a : Addr} {S : Int → Bool} {n : Nat} {B : Prop} (h : H a = some (SetO w a S n)) (q : B) : (∃ b S' n', V.ref a = V.ref b ∧ H b = some (SetO w b S' n')) ∧ B := ⟨⟨a, S, n, rfl, h⟩, q⟩
theorem w_ext {l b : Addr} {xs zs : List V} (h : H l = some (.lst xs)) (h2 : H b = some (.lst zs)) (z : xs.length + zs.length ≤ sizeLine) (q : Q .non (upd H l (.lst (xs ++ zs)))) : rExtend (.ref l) [.ref b] H Q := ⟨l, b, xs, zs, rfl, rfl, h, h2, z, q⟩
theorem w_ixL {p : Addr} {xs : List V} {i : Int} {v : V} (h : SqL K H p xs) (a : atI xs i = some v) (q : Q v H) : rIxL K (.ref p) (.int i) H Q := ⟨p, xs, i, v, rfl, rfl, h, a, q⟩
theorem w_ixT {p : Addr} {xs : List V} {i : Int} {v : V} (h : SqT K H p xs) (a : atI xs i = some v) (q : Q v H) : rIxT K (.ref p) (.int i) H Q := ⟨p, xs, i, v, rfl, rfl, h, a, q⟩
theorem w_cat {a b : Addr} {xs ys : List V} (h : H a = some (.lst xs)) (h2 : H b = some (.lst ys)) (z : xs.length + ys.length ≤ sizeLine) (q : ∀ p, H p = none → Q (.ref p) (upd H p (.lst (xs ++ ys)))) : rCat (.ref a) (.ref b) H Q := ⟨a, b, xs, ys, rfl, rfl, h, h2, z, q⟩
theorem w_test {R : Bool → Hp → Prop} (h : te σ H fun x H1 => ∃ k, x = .bl k ∧ R k H1) : tTest te σ H R := h
theorem w_tB {R : Bool → Hp → Prop} (h : te σ H fun x H1 => ∃ k, x = .bl k ∧ R k H1) : tB te σ H R := h
theorem w_bl {A : Bool → Prop} {k : Bool} (h : A k) : ∃ c, V.bl k = .bl c ∧ A c := ⟨k, rfl, h⟩
theorem w_and {R : Bool → Hp → Prop} (h : t σ H fun c H1 => if c = true then u σ H1 R else R false H1) : tAnd t u σ H R := h
theorem w_or {R : Bool → Hp → Prop} (h : t σ H fun c H1 => if c = true then R true H1 else u σ H1 R) : tOr t u σ H R := h
theorem w_not {R : Bool → Hp → Prop} (h : t σ H fun c H1 => R (!c) H1) : tNot t σ H R := h
theorem w_andV (h : ta σ H fun x H1 => ∃ c, x = .bl c ∧ if c = true then tb σ H1 Q else Q (.bl false) H1) : tAndV ta tb σ H Q := h
theorem w_orV (h : ta σ H fun x H1 => ∃ c, x = .bl c ∧ if c = true then Q (.bl true) H1 else tb σ H1 Q) : tOrV ta tb σ H Q := h
theorem w_notV (h : ta σ H fun x H1 => ∃ c, x = .bl c ∧ Q (.bl (!c)) H1) : tNotV ta σ H Q := h
theorem w_ifE (h : t σ H fun c H1 => if c = true then ta σ H1 Q else tb σ H1 Q) : tIf t ta tb σ H Q := h
theorem w_ch {r r' : R2} (h : ta σ H fun x H1 => tb σ H1 fun y H2 => r x y H2 fun z H3 => ∃ k, z = .bl k ∧ (if k = true then tc σ H3 fun w' H4 => r' y w' H4 Q else Q (.bl false) H3)) : tChain r r' ta tb tc σ H Q := h
-- statements
theorem sl_of {t : TS} {D : Ends} {σ σ2 : L2.St} {H : Hp} (e : σ = σ2) (h : t D σ2 H) : t D σ H := by
  rw [e]
  exact h
theorem w_seq (h : s1 { D with nx := s2 D } σ H) : tSeq s1 s2 D σ H := h
theorem w_cut {M : L2.St → Hp → Prop} (h : s1 { D with nx := M } σ H) (q : ∀ σ' H', M σ' H' → s2 D σ' H') : tCut s1 s2 D σ H := ⟨M, h, q⟩
theorem w_while (W : Nat → L2.St → Hp → Prop) (m0 : Nat) (h0 : W m0 σ H) (hs : ∀ m σ H, W m σ H → t σ H fun b H1 => if b = true then ∃ N : L2.St → Hp → Prop, (∀ σ' H', N σ' H' → ∃ m', m' < m ∧ W m' σ' H') ∧ s1 { D with nx := N, ct := N, bk := D.nx } σ H1 else D.nx σ H1) : tWhile t s1 D σ H := ⟨W, ⟨m0, h0⟩, hs⟩
theorem w_truL {l : Addr} {xs : List V} {A : Bool → Prop} (h : SqL K H l xs) (q : A (!xs.isEmpty)) : ∃ k, TruV K (.ref l) H k ∧ A k := ⟨_, .inl ⟨xs, h, rfl⟩, q⟩
theorem w_next (h : D.nx σ H) : tNext D σ H := h
theorem w_drop (h : te σ H fun _ H1 => D.nx σ H1) : tDrop te D σ H := h
theorem w_ret (h : te σ H D.rt) : tRet te D σ H := h
theorem w_asg (h : te σ H fun x H1 => g x σ H1 D.nx) : tAsg te g D σ H := h
theorem w_if (h : t σ H fun b H1 => if b = true then s1 D σ H1 else s2 D σ H1) : tIfS t s1 s2 D σ H := h
theorem w_name {v : V} {i : Nat} {R : L2.St → Hp → Prop} (h : R (σ.set i (some v)) H) : gName i v σ H R := h
theorem w_sub {v : V} {st : TSet} {R : L2.St → Hp → Prop} (h : ta σ H fun o H1 => tb σ H1 fun i H2 => st o i v H2 fun H3 => R σ H3) : gSub ta tb st v σ H R := h
theorem w_setL {R : Hp → Prop} {p : Addr} {xs : List V} {k : Int} {j : Nat} {v : V} (h : H p = some (.lst xs)) (a : ixN xs.length k = some j) (q : R (upd H p (.lst (xs.set j v)))) : rSetL (.ref p) (.int k) v H R := ⟨p, xs, k, j, rfl, rfl, h, a, q⟩
theorem w_aug {i : Nat} {x : V} {ti : TIp} (h : σ[i]? = some (some x)) (q : te σ H fun y H1 => ti x y H1 fun z H2 => D.nx (σ.set i (some z)) H2) : tAug i te ti D σ H := ⟨x, h, q⟩
theorem w_ipI {f : Int → Int → Int} {i j : Int} (q : Q (.int (f i j)) H) : ipI f (.int i) (.int j) H Q := ⟨i, j, rfl, rfl, q⟩
end

def ForB (J : It) (g : TG) (tb : TS) (D : Ends) (σ : L2.St) (H1 : Hp) : Prop := ∃ W : Nat → Nat → L2.St → Hp → Prop, (∃ m, W 0 m σ H1) ∧ ∀ i m σ H, W i m σ H →
  (J.stop i H ∧ D.nx σ H) ∨ (J.go i H ∧ ∃ N : L2.St → Hp → Prop, (∀ σ' H', N σ' H' → ∃ m', m' < m ∧ W (i + 1) m' σ' H') ∧ ∀ x H', J.yld i H x H' → g x σ H' fun σ2 H2 => tb { D with nx := N, ct := N, bk := D.nx } σ2 H2)
def LcB (J : It) (g : TG) (tt : TT) (te : TE) (vs : List Nat) (Q : VK) (σ : L2.St) (H1 : Hp) (Dl : Addr) : Prop := ∃ W : Nat → Nat → Hp → Prop, (∃ m, W 0 m (upd H1 Dl (.lst []))) ∧ ∀ i m H, W i m H →
  (J.stop i H ∧ Q (.ref Dl) H) ∨ (J.go i H ∧ ∃ Nx : Hp → Prop, (∀ H', Nx H' → ∃ m', m' < m ∧ W (i + 1) m' H') ∧ ∀ x H', J.yld i H x H' → g x (wipe σ vs) H' fun σ2 H2 => wipe σ2 vs = wipe σ vs ∧ tt σ2 H2 fun b H3 =>
    if b = true then te σ2 H3 fun y H4 => ∃ acc, H4 Dl = some (.lst acc) ∧ acc.length < sizeLine ∧ Nx (upd H4 Dl (.lst (acc ++ [y]))) else Nx H3)
section
variable {K : PySem.W.Frag} {σ : L2.St} {H : Hp} {D : Ends} {ta tb : TE} {tA : TA} {g : TG} {s1 : TS} {wi : TI} {R : It → Hp → Prop}
theorem w_for (h : wi σ H fun J H1 => ForB J g s1 D σ H1) : tFor wi g s1 D σ H := h
theorem w_iL (h : ta σ H fun x H1 => ∃ a, x = .ref a ∧ (∃ xs, SqL K H1 a xs) ∧ R (Itl K a) H1) : iList K ta σ H R := h
theorem w_iL1 {a : Addr} {xs : List V} {B : Addr → Prop} (h : SqL K H a xs) (q : B a) : ∃ b, V.ref a = .ref b ∧ (∃ ys, SqL K H b ys) ∧ B b := ⟨a, rfl, ⟨xs, h⟩, q⟩
theorem w_iT (h : ta σ H fun x H1 => ∃ a, x = .ref a ∧ (∃ xs, SqT K H1 a xs) ∧ R (Itt K a) H1) : iTup K ta σ H R := h
theorem w_iT1 {a : Addr} {xs : List V} {B : Addr → Prop} (h : SqT K H a xs) (q : B a) : ∃ b, V.ref a = .ref b ∧ (∃ ys, SqT K H b ys) ∧ B b := ⟨a, rfl, ⟨xs, h⟩, q⟩
theorem w_iR (h : tA σ H fun vs H1 => ∃ j : Int, vs = [.int j] ∧ -(2 ^ 62) ≤ j ∧ j < 2 ^ 62 ∧ R (Itr 0 j.toNat) H1) : iRng1 tA σ H R := h
theorem w_iR1 {j : Int} {B : Int → Prop} (h1 : -(2 ^ 62) ≤ j) (h2 : j < 2 ^ 62) (q : B j) : ∃ k, [V.int j] = [V.int k] ∧ -(2 ^ 62) ≤ k ∧ k < 2 ^ 62 ∧ B k := ⟨j, rfl, h1, h2, q⟩
theorem w_yes {R : Bool → Hp → Prop} (h : R true H) : tYes σ H R := h
theorem w_wipe {σ2 : L2.St} {vs : List Nat} {B : Prop} (e : wipe σ2 vs = wipe σ vs) (q : B) : wipe σ2 vs = wipe σ vs ∧ B := ⟨e, q⟩
theorem w_lc {tt : TT} {te : TE} {vs : List Nat} {Q : VK} (h : wi σ H fun J H1 => ∀ Dl, H1 Dl = none → LcB J g tt te vs Q σ H1 Dl) : tLc wi g tt te vs σ H Q := h
end

def Fr (s : Addr) (H H' : Hp) : Prop := ∀ a o, a ≠ s → H a = some o → H' a = some o
section
variable {K : PySem.W.Frag} {H H' H0 H1 H2 : Hp} {a p s : Addr} {o : HO} {xs ys : List V}
theorem Fr.refl (s : Addr) (H : Hp) : Fr s H H := fun _ _ _ h => h
theorem Fr.ex (e : Ex H H') : Fr s H H' := fun a o _ h => e a o h
theorem Fr.trans (a : Fr s H H1) (b : Fr s H1 H2) : Fr s H H2 := fun x o n h => b x o n (a x o n h)
theorem Fr.new (e : Fr s H H') (h : H' p = none) : Fr s H (upd H' p o) := fun x u n ha => by
  have q := e x u n ha
  rw [upd_ne (ne_of_none q h)]
  exact q
theorem Fr.mut (e : Fr s H H') (h : H p = none) : Fr s H (upd H' p o) := fun x u n ha => by
  rw [upd_ne (ne_of_none ha h)]
  exact e x u n ha
theorem Fr.own (e : Fr s H H') : Fr s H (upd H' s o) := fun x u n ha => by
  rw [upd_ne n]
  exact e x u n ha
theorem Fr.free (e : Fr s H H') (hs : H s = some o) (h : H' p = none) (h2 : p ≠ s) : H p = none := by
  cases q : H p with
  | none => rfl
  | some u =>
    rw [e p u h2 q] at h
    cases h
theorem fr_t (e : Fr s H H') (hs : H s = some (.lst ys)) (h : SqT K H a xs) : SqT K H' a xs := by
  rcases h with (h | ⟨ob, h⟩) | h
  · exact .inl (.inl (e a _ (fun z => by rw [z, hs] at h; cases h) h))
  · exact .inl (.inr ⟨ob, e a _ (fun z => by rw [z, hs] at h; cases h) h⟩)
  · exact .inr h
theorem ex_upd (e : Ex H H') (h : H p = none) : Ex H (upd H' p o) := e.mut h
theorem ex_new (e : Ex H H') (h : H' p = none) : Ex H (upd H' p o) := e.trans (Ex.new h)
theorem ly_at (e : Ex H H') (h : H a = some o) : H' a = some o := e a o h
theorem ly_atF (e : Fr s H H') (n : a ≠ s) (h : H a = some o) : H' a = some o := e a o n h
theorem ly_mulL {i j : Int} (h1 : -(2 ^ 64) < i) (h2 : i < 2 ^ 64) : CMul i j := .inl ⟨h1, h2⟩
theorem ly_mulR {i j : Int} (h1 : -(2 ^ 64) < j) (h2 : j < 2 ^ 64) : CMul i j := .inr ⟨h1, h2⟩
end
section
variable {K : PySem.W.Frag} {H : Hp} {Q : VK} {p : Addr} {xs : List V}
theorem w_int {i : Int} {A : Int → Prop} {B : Prop} (q : A i) : (∃ j, [V.int i] = [V.int j] ∧ A j) ∨ B := .inl ⟨i, rfl, q⟩
theorem w_intB {k : Bool} {A : Prop} {B : Bool → Prop} (q : B k) : A ∨ ∃ c, [V.bl k] = [V.bl c] ∧ B c := .inr ⟨k, rfl, q⟩
theorem w_abs {i : Int} {A : Int → Prop} (q : A i) : ∃ j, [V.int i] = [V.int j] ∧ A j := ⟨i, rfl, q⟩
theorem w_lenL {A : Addr → List V → Prop} (h : SqL K H p xs) (q : A p xs) : ∃ a ys, [V.ref p] = [V.ref a] ∧ (SqL K H a ys ∨ SqT K H a ys) ∧ A a ys := ⟨p, xs, rfl, .inl h, q⟩
theorem w_lenT {A : Addr → List V → Prop} (h : SqT K H p xs) (q : A p xs) : ∃ a ys, [V.ref p] = [V.ref a] ∧ (SqL K H a ys ∨ SqT K H a ys) ∧ A a ys := ⟨p, xs, rfl, .inr h, q⟩
theorem w_tupL {A B : Addr → List V → Prop} (h : SqL K H p xs) (q : A p xs) : ∃ a ys, [V.ref p] = [V.ref a] ∧ ((SqL K H a ys ∧ A a ys) ∨ (SqT K H a ys ∧ B a ys)) := ⟨p, xs, rfl, .inl ⟨h, q⟩⟩
theorem w_tupT {A B : Addr → List V → Prop} (h : SqT K H p xs) (q : B p xs) : ∃ a ys, [V.ref p] = [V.ref a] ∧ ((SqL K H a ys ∧ A a ys) ∨ (SqT K H a ys ∧ B a ys)) := ⟨p, xs, rfl, .inr ⟨h, q⟩⟩
theorem w_nT {A B : Prop} (h : B) : if (!true) = true then A else B := iteF h
theorem w_nF {A B : Prop} (h : A) : if (!false) = true then A else B := iteT h
theorem w_br {c A B : Prop} [Decidable c] (h1 : c → A) (h2 : ¬ c → B) : if decide c = true then A else B := ite2 (fun h => h1 (of_decide_eq_true h)) (fun h => h2 (fun z => h (decide_eq_true z)))
theorem w_deIS {i : Int} {x : Str} {A B : Prop} (h : B) : if decide (V.int i = V.str x) = true then A else B := iteF h
theorem w_deSI {i : Int} {x : Str} {A B : Prop} (h : B) : if decide (V.str x = V.int i) = true then A else B := iteF h
theorem w_deST {x y : Str} {A B : Prop} (e : x = y) (h : A) : if decide (V.str x = V.str y) = true then A else B := by
  rw [decide_eq_true (by rw [e])]
  exact iteT h
theorem w_deSF {x y : Str} {A B : Prop} (e : x ≠ y) (h : B) : if decide (V.str x = V.str y) = true then A else B := by
  rw [decide_eq_false (fun z => e (V.str.inj z))]
  exact iteF h
theorem w_deISn {i : Int} {x : Str} {A B : Prop} (h : A) : if (!decide (V.int i = V.str x)) = true then A else B := iteT h
theorem w_deSTn {x y : Str} {A B : Prop} (e : x = y) (h : B) : if (!decide (V.str x = V.str y)) = true then A else B := by
  rw [decide_eq_true (by rw [e])]
  exact iteF h
theorem w_deSFn {x y : Str} {A B : Prop} (e : x ≠ y) (h : A) : if (!decide (V.str x = V.str y)) = true then A else B := by
  rw [decide_eq_false (fun z => e (V.str.inj z))]
  exact iteT h
theorem w_neS {x : V} {A B : Prop} (h : B) : if (!decide (x = x)) = true then A else B := by
  rw [decide_eq_true rfl]
  exact iteF h
theorem w_eqS {x : V} {A B : Prop} (h : A) : if decide (x = x) = true then A else B := by
  rw [decide_eq_true rfl]
  exact iteT h
theorem w_neSb {x : Bool} {A B : Prop} (h : B) : if (!decide (x = x)) = true then A else B := by
  rw [decide_eq_true rfl]
  exact iteF h
theorem w_eqSb {x : Bool} {A B : Prop} (h : A) : if decide (x = x) = true then A else B := by
  rw [decide_eq_true rfl]
  exact iteT h
theorem w_neG {α : Type} {x : α} [Decidable (x = x)] {A B : Prop} (h : B) : if (!decide (x = x)) = true then A else B := by
  rw [decide_eq_true rfl]
  exact iteF h
theorem w_eqG {α : Type} {x : α} [Decidable (x = x)] {A B : Prop} (h : A) : if decide (x = x) = true then A else B := by
  rw [decide_eq_true rfl]
  exact iteT h
theorem w_nn {B : Prop} (q : B) : V.non = V.non ∧ B := ⟨rfl, q⟩
theorem w_nnT {A B : Prop} (h : B) : if (!decide (V.non = V.non)) = true then A else B := iteF h
theorem w_nnR {a : Addr} {A B : Prop} (h : A) : if (!decide (V.ref a = V.non)) = true then A else B := iteT h
theorem w_brI {i j : Int} {A B : Prop} (h1 : i = j → A) (h2 : i ≠ j → B) : if decide (V.int i = V.int j) = true then A else B := w_br (fun h => h1 (V.int.inj h)) (fun h => h2 (fun z => h (by rw [z])))
theorem w_disp {R : Addr → Prop} (z : xs.length ≤ sizeLine) (q : ∀ p, H p = none → R p) : xs.length ≤ sizeLine ∧ ∀ p, H p = none → R p := ⟨z, q⟩
theorem w_tyL {R : Prop} (h : SqL K H p xs) (q : R) : tyV K "list" (.ref p) H ∧ R := ⟨.inl ⟨rfl, xs, h⟩, q⟩
end
theorem kcls_mk {K : PySem.W.Frag} {t : Value} {C : Addr} {r : Bool} (d : PySem.W.hasDictIn K C = true) (ty : PySem.W.typeIn K (.ref C) = some (.type "type")) (s : PySem.W.subIn K t (.ref C) = some r) : PySem.W.kitCls K t (.ref C) = some r := by
  have h : ((PySem.W.clsIn K C).isSome && PySem.W.typeIn K (.ref C) == some (.type "type")) = true := by
    obtain ⟨cd, hc, _⟩ := PySem.W.any_some d
    rw [hc, ty]
    simp
  show (if ((PySem.W.clsIn K C).isSome && PySem.W.typeIn K (.ref C) == some (.type "type")) = true then PySem.W.subIn K t (.ref C) else none) = some r
  rw [if_pos h, s]
theorem kitOne_mk {K : PySem.W.Frag} {t : Value} {C : Addr} (d : PySem.W.hasDictIn K C = true) (ty : PySem.W.typeIn K (.ref C) = some (.type "type")) (s : PySem.W.subIn K t (.ref C) = some true) : PySem.W.kitOne K t (.ref C) = some true := by
  unfold PySem.W.kitOne
  split
  · rfl
  · exact kcls_mk d ty s
theorem exm_mk {K : PySem.W.Frag} {t : Value} {C : Addr} {r : Bool} (b : PySem.W.subIn K (.ref C) (.type "BaseException") = some true) (d : PySem.W.hasDictIn K C = true) (ty : PySem.W.typeIn K (.ref C) = some (.type "type")) (s : PySem.W.subIn K t (.ref C) = some r) : PySem.W.exmOne K t (.ref C) = some r := by
  unfold PySem.W.exmOne
  rw [b]
  simp [kcls_mk d ty s]
theorem call_isEa {X : Cx} {a : Addr} {oe : Obj} {cls : Value} {d : Option Addr} {pn : List (Addr × Obj)} (hz : Zc cls d oe) (hf : ∃ vs, oe.data = .fields vs) :
    CallR (X.suite a ((a, oe) :: pn)) (.builtin "isinstance") (fun xs H Q => ∃ D, cls = .ref D ∧ d = none ∧ ExcC X.K D ∧ rIsE X.K D a xs H Q) := by
  intro pins s σ H xs us Q I r ⟨D, e1, e2, C, h⟩
  subst e1 e2
  exact call_isE C hz hf pins s σ H xs us Q I r h
section
variable {K : PySem.W.Frag} {σ : L2.St} {H : Hp} {Q : VK} {te : TE} {tA : TA}
theorem w_js {ts : List TE} {acc : Str} {R : Str → Hp → Prop} (h : te σ H fun x H1 => ∃ y : Str, x = .str y ∧ (acc ++ y).length ≤ sizeLine ∧ tJs ts (acc ++ y) σ H1 R) : tJs (te :: ts) acc σ H R := h
theorem w_jsn {acc : Str} {R : Str → Hp → Prop} (h : R acc H) : tJs [] acc σ H R := h
theorem w_js1 {z acc : Str} {A : Str → Prop} (hl : (acc ++ z).length ≤ sizeLine) (q : A z) : ∃ y : Str, V.str z = .str y ∧ (acc ++ y).length ≤ sizeLine ∧ A y := ⟨z, rfl, hl, q⟩
theorem w_fmt (h : te σ H fun x H1 => (∃ y : Str, x = .str y ∧ y.length ≤ sizeLine ∧ Q (.str y) H1) ∨ ∃ i : Int, x = .int i ∧ i.natAbs.log2 < 1920 ∧ Q (.str (toString i)) H1) : tFmt te σ H Q := h
theorem w_fmt1 {i : Int} {A : Prop} {B : Int → Prop} (hl : i.natAbs.log2 < 1920) (q : B i) : A ∨ ∃ j : Int, V.int i = .int j ∧ j.natAbs.log2 < 1920 ∧ B j := .inr ⟨i, rfl, hl, q⟩
theorem w_callS {sp : Sp} {E : L2.St → XK} (h : tA σ H fun vs H1 => sp vs H1 Q (E σ)) : tCallS sp E tA σ H Q := h
end
section
variable {K : PySem.W.Frag} {H H' : Hp} {Q : VK} {a b p : Addr} {xs ys : List V}
theorem w_catA (h : SqT K H a xs) (h2 : SqT K H b ys) (z : xs.length + ys.length ≤ sizeLine) (q : ∀ p H', Ex H H' → SqT K H' p (xs ++ ys) → Q (.ref p) H') : rCatA K (.ref a) (.ref b) H Q :=
  ⟨a, b, xs, ys, rfl, rfl, h, h2, z, fun e => q b H (Ex.refl H) (by rw [e]; exact h2), fun _ e => q a H (Ex.refl H) (by rw [e, List.append_nil]; exact h), fun _ _ p hp => q p _ (Ex.new hp) (SqT.of upd_same)⟩
theorem w_slA {lo hi : Option Int} (h : SqT K H a xs) (q : ∀ p H', Ex H H' → SqT K H' p (cutV xs lo hi) → Q (.ref p) H') : rSlA K (.ref a) lo hi H Q := by
  refine ⟨a, xs, rfl, h, fun e => q a H (Ex.refl H) ?_, fun _ p hp => q p _ (Ex.new hp) (SqT.of upd_same)⟩
  unfold cutV
  rw [e.1, e.2]
  simpa using h
theorem tyx_t (h : SqT K H a xs) : TyX K H (.ref a) (.type "tuple") := by
  rcases h with (h | ⟨o, h⟩) | ⟨o, _, _, h, c, _⟩
  · exact .base (.tup h)
  · exact .fTuple h
  · exact .kTuple h c
theorem tyx_l (h : SqL K H a xs) : TyX K H (.ref a) (.type "list") := by
  rcases h with (h | ⟨o, h⟩) | ⟨o, _, _, h, c, _⟩
  · exact .base (.lst h)
  · exact .base (.frz h)
  · exact .kList h c
end
set_option maxHeartbeats 4000000 in
theorem mul_one_meets (l : Addr) (items : Array Value) (n : Nat) (di : Option Addr) (ss : Array (Option Value)) (u : Tok) :
    Meets (Builtin.«tuple.__mul__» ⟨[.ref l, .int 1 u], []⟩) (fun _ R s => s.heap.get? l = some { cls := .type "tuple", dict := di, data := .seq items n, slots := ss } ∧ R (.ok (.ret (Value.ref l))) s) :=
  .of_wp fun prog w A R s ⟨hl, h⟩ => by
    obtain ⟨hp, g, d, tk, os⟩ := s
    have idx := AutoSeq1.idx_int
    have c1 : (items.isEmpty || (1 : Int) == 1) = true := by simp
    have c0 : (decide ((1 : Int) < -(2 ^ 63)) || decide ((1 : Int) ≥ 2 ^ 63)) = false := by decide
    wp_walk using wpAny_loadPart' hl
    repeat (first
      | (refine wpAny_ite_false (decide_eq_false (fun z => by rw [c0] at z; cases z)) ?_; wp_walk using wpAny_loadPart' hl)
      | (refine wpAny_ite_true (decide_eq_true (by simp)) ?_; wp_walk using wpAny_loadPart' hl))
    exact ⟨_, rfl, h⟩
set_option maxHeartbeats 4000000 in
theorem mul_zero_meets (l : Addr) (items : Array Value) (n : Nat) (di : Option Addr) (ss : Array (Option Value)) (u : Tok) (em : items.isEmpty = false) :
    Meets (Builtin.«tuple.__mul__» ⟨[.ref l, .int 0 u], []⟩) (fun _ R s => s.heap.get? l = some { cls := .type "tuple", dict := di, data := .seq items n, slots := ss } ∧
      R (.ok (.ret (Value.ref s.heap.objs.size))) { s with heap := s.heap.push { cls := Value.type "tuple", data := Data.seq #[] }, toks := s.toks }) :=
  .of_wp fun prog w A R s ⟨hl, h⟩ => by
    obtain ⟨hp, g, d, tk, os⟩ := s
    have idx := AutoSeq1.idx_int
    have c1 : (items.isEmpty || (0 : Int) == 1) = false := by rw [em]; rfl
    have c2 : (decide ((0 : Int) ≤ 0) || items.isEmpty) = true := by simp
    have c0 : (decide ((0 : Int) < -(2 ^ 63)) || decide ((0 : Int) ≥ 2 ^ 63)) = false := by decide
    wp_walk using wpAny_loadPart' hl
    repeat (first
      | (refine wpAny_ite_false (decide_eq_false (fun z => by rw [c0] at z; cases z)) ?_; wp_walk using wpAny_loadPart' hl)
      | (refine wpAny_ite_false (decide_eq_false (fun z => by rw [c1] at z; cases z)) ?_; wp_walk using wpAny_loadPart' hl)
      | (refine wpAny_ite_true (decide_eq_true c2) ?_; wp_walk using wpAny_loadPart' hl))
    exact ⟨_, rfl, h⟩
def rRepB (K : PySem.W.Frag) : R2 := fun x y H Q => ∃ (l : Addr) (k : Int) (xs : List V), x = .ref l ∧ y = .int k ∧ SqT K H l xs ∧ xs ≠ [] ∧ 0 ≤ k ∧ k ≤ 3000 ∧ xs.length ≤ 1000 ∧ (k = 1 → Q (.ref l) H) ∧ (k ≠ 1 → ∀ p, H p = none → Q (.ref p) (upd H p (.tup (List.replicate k.toNat xs).flatten)))
theorem op_repB {X : Cx} : OpR X (binaryOp .Mult) (rRepB X.K) := by
  intro pins s σ H x y v u Q I rx ry ⟨l, k, xs, ex, ey, hT, hne, k0, k3, hz, q1, q⟩
  subst ex ey
  cases rx
  obtain ⟨tt, eu⟩ := ry
  subst eu
  obtain ⟨its, r, ⟨⟨cl, di, da, ss⟩, hob, hcl, n, hda⟩, _⟩ := I.tuple hT
  simp only at hcl hda
  subst hcl hda
  have el : its.length = xs.length := r.length.symm
  have es : its.toArray.size = xs.length := by rw [List.size_toArray, el]
  have pos : 0 < xs.length := List.length_pos_iff.mpr hne
  have em : its.toArray.isEmpty = false := by
    rw [Array.isEmpty_eq_false_iff_exists_mem]
    obtain ⟨a0, ha0⟩ := List.exists_mem_of_length_pos (l := its) (by omega)
    exact ⟨a0, by simpa using ha0⟩
  have big : k.toNat * xs.length ≤ 3000 * 1000 := Nat.mul_le_mul (by omega) hz
  have prod : ((its.toArray.size : Nat) : Int) * k = ((k.toNat * xs.length : Nat) : Int) := by
    rw [es, Int.natCast_mul, Int.toNat_of_nonneg (by omega), Int.mul_comm]
  have fl : (List.replicate k.toNat its).flatten.length = k.toNat * xs.length := by rw [PyProof.Rows.lm_len_rep_flat, el]
  have sl := sizeLine_eq
  have d0 : (decide (k < -(2 ^ 63)) || decide (k ≥ 2 ^ 63)) = false := by simp; omega
  refine wpAny_binaryOp_repeat_ref (T := "tuple") (U := "int") (by decide) ⟨_, hob, rfl⟩ (fun z => typeIs_int z k tt) noFill_tuple_mul F.fills_int_mul F.slot_int_rmul repeat_tuple F.slot_int_index.lookup (call_meets F.slot_int_rmul (typeIs_int s k tt) F.entry_int_rmul (F.args_int_rmul_2 _ _)
    (int_rmul_tuple k tt l its.toArray n di ss) ⟨hob, rfl, ⟨_, hob, rfl⟩, ?_⟩)
  have made : ∀ (xs2 : List V) (us : List Value), Vals xs2 us → xs2.length ≤ 3000000 → (∀ p, H p = none → Q (.ref p) (upd H p (.tup xs2))) → EP X pins σ Q (.ref s.heap.objs.size) { s with heap := s.heap.push { cls := Value.type "tuple", data := Data.seq us.toArray }, toks := s.toks } := fun xs2 us rv hlen q2 =>
    ⟨.ref s.heap.objs.size, _, I.laid (t' := s.toks) (o := .tup xs2) (fun _ _ z => Heap.get?_push_of_some _ z) (Nat.le_refl _) ⟨by omega, _, rv, IsTup.new _ _⟩, rfl, q2 _ (I.hok.fresh (Nat.le_refl _))⟩
  by_cases h1 : k = 1
  · subst h1
    exact call_meets F.slot_tuple_mul ⟨_, hob, rfl⟩ F.entry_tuple_mul (F.args_tuple_mul_2 _ _) (mul_one_meets l its.toArray n di ss tt) ⟨hob, .ref l, H, I, rfl, q1 rfl⟩
  · by_cases h2 : k = 0
    · subst h2
      exact call_meets F.slot_tuple_mul ⟨_, hob, rfl⟩ F.entry_tuple_mul (F.args_tuple_mul_2 _ _) (mul_zero_meets l its.toArray n di ss tt em) ⟨hob, made [] [] .nil (by simp) (q h1)⟩
    · have d1 : (its.toArray.isEmpty || k == 1) = false := by rw [em]; simp; omega
      have d2 : (decide (k ≤ 0) || its.toArray.isEmpty) = false := by rw [em]; simp; omega
      have d4 : Builtin.Tuple.tupleTooMany (((its.toArray.size : Nat) : Int) * k) = false := by
        rw [prod]
        unfold Builtin.Tuple.tupleTooMany
        exact decide_eq_false (by omega)
      have tm : Meets _ _ := tuple_mulW l its.toArray n di ss k tt d0 d1 d2 (by rw [prod]; omega) d4 (by rw [size_rep, List.size_toArray, fl]; omega)
      refine call_meets F.slot_tuple_mul ⟨_, hob, rfl⟩ F.entry_tuple_mul (F.args_tuple_mul_2 _ _) tm ⟨hob, ?_⟩
      rw [size_rep]
      exact made _ _ (r.rep k.toNat) (by rw [PyProof.Rows.lm_len_rep_flat]; omega) (q h1)
theorem w_repB {K : PySem.W.Frag} {H : Hp} {Q : VK} {l : Addr} {k : Int} {xs : List V} (h : SqT K H l xs) (hne : xs ≠ []) (h2 : 0 ≤ k) (h3 : k ≤ 3000) (hz : xs.length ≤ 1000) (q : ∀ p H', Ex H H' → SqT K H' p (List.replicate k.toNat xs).flatten → Q (.ref p) H') : rRepB K (.ref l) (.int k) H Q := by
  refine ⟨l, k, xs, rfl, rfl, h, hne, h2, h3, hz, fun e => q l H (Ex.refl H) ?_, fun _ p hp => q p _ (Ex.new hp) (SqT.of upd_same)⟩
  subst e
  simpa using h
section
variable {X : Cx} {K : PySem.W.Frag}
end
def Kp (H H' : Hp) : Prop := (∀ a xs, H a = some (.lst xs) → ∃ ys, H' a = some (.lst ys)) ∧ ∀ a xs, H a = some (.tup xs) → H' a = some (.tup xs)
section
variable {K : PySem.W.Frag} {H H' H1 : Hp} {a s l : Addr} {xs ys : List V}
theorem Kp.refl (H : Hp) : Kp H H := ⟨fun _ xs h => ⟨xs, h⟩, fun _ _ h => h⟩
theorem Kp.trans (e : Kp H H1) (f : Kp H1 H') : Kp H H' := ⟨fun a xs h => by
  obtain ⟨ys, h1⟩ := e.1 a xs h
  exact f.1 a ys h1, fun a xs h => f.2 a xs (e.2 a xs h)⟩
theorem Kp.ex (e : Ex H H') : Kp H H' := ⟨fun a xs h => ⟨xs, e a _ h⟩, fun a xs h => e a _ h⟩
theorem Kp.fr (e : Fr s H H') (h : H s = some (.lst xs)) (h2 : H' s = some (.lst ys)) : Kp H H' := ⟨fun a zs q => by
  by_cases z : a = s
  · rw [z]
    exact ⟨_, h2⟩
  · exact ⟨_, e a _ z q⟩, fun a zs q => e a _ (fun z => by rw [z, h] at q; cases q) q⟩
theorem Kp.put (h : H l = some (.lst xs)) : Kp H (upd H l (.lst ys)) := ⟨fun a zs q => by
  by_cases z : a = l
  · rw [z]
    exact ⟨_, upd_same⟩
  · exact ⟨zs, by rw [upd_ne z]; exact q⟩, fun a zs q => by
  rw [upd_ne (fun z => by rw [z, h] at q; cases q)]
  exact q⟩
/-- the values of the law that asks is_term -/
inductive Kd (H : Hp) : V → Prop
  | int (i : Int) : Kd H (.int i)
  | str (x : Str) : Kd H (.str x)
  | bl (b : Bool) : Kd H (.bl b)
  | non : Kd H .non
  | lst {a : Addr} {xs : List V} (h : H a = some (.lst xs)) : Kd H (.ref a)
  | tup {a : Addr} {xs : List V} (h : H a = some (.tup xs)) : Kd H (.ref a)
theorem Kd.mono {v : V} (h : Kd H v) (e : Kp H H') : Kd H' v := by
  cases h with
  | int i => exact .int i
  | str x => exact .str x
  | bl b => exact .bl b
  | non => exact .non
  | lst h =>
    obtain ⟨ys, h⟩ := e.1 _ _ h
    exact .lst h
  | tup h => exact .tup (e.2 _ _ h)
end
theorem Kd.ty {H : Hp} {v : V} (h : Kd H v) (K : PySem.W.Frag) : ∃ n, TyX K H v (.type n) ∧ n = (match v with | .int _ => "int" | .str _ => "str" | .bl _ => "bool" | .non => "NoneType" | _ => n) := by
  cases h with
  | int i => exact ⟨_, .base (.int i), rfl⟩
  | str i => exact ⟨_, .base (.str i), rfl⟩
  | bl i => exact ⟨_, .base (.bl i), rfl⟩
  | non => exact ⟨_, .base .non, rfl⟩
  | lst h => exact ⟨_, .base (.lst h), rfl⟩
  | tup h => exact ⟨_, .base (.tup h), rfl⟩
theorem all_cons {H : Hp} {v : V} {xs : List V} (h : Kd H v) (t : ∀ x ∈ xs, Kd H x) : ∀ x ∈ v :: xs, Kd H x := fun x hx => by
  rcases List.mem_cons.mp hx with e | e
  · rw [e]
    exact h
  · exact t x e
section
variable {K : PySem.W.Frag}
theorem kit_int_int : PySem.W.kitOne K (.type "int") (.type "int") = some true := kit_ty (by decide +kernel)
theorem kit_int_str : PySem.W.kitOne K (.type "int") (.type "str") = some false := kit_ty (by decide +kernel)
theorem kit_int_bool : PySem.W.kitOne K (.type "int") (.type "bool") = some false := kit_ty (by decide +kernel)
theorem kit_int_tuple : PySem.W.kitOne K (.type "int") (.type "tuple") = some false := kit_ty (by decide +kernel)
theorem kit_int_list : PySem.W.kitOne K (.type "int") (.type "list") = some false := kit_ty (by decide +kernel)
theorem kit_str_int : PySem.W.kitOne K (.type "str") (.type "int") = some false := kit_ty (by decide +kernel)
theorem kit_str_str : PySem.W.kitOne K (.type "str") (.type "str") = some true := kit_ty (by decide +kernel)
theorem kit_str_bool : PySem.W.kitOne K (.type "str") (.type "bool") = some false := kit_ty (by decide +kernel)
theorem kit_str_tuple : PySem.W.kitOne K (.type "str") (.type "tuple") = some false := kit_ty (by decide +kernel)
theorem kit_str_list : PySem.W.kitOne K (.type "str") (.type "list") = some false := kit_ty (by decide +kernel)
theorem kit_bool_int : PySem.W.kitOne K (.type "bool") (.type "int") = some true := kit_ty (by decide +kernel)
theorem kit_bool_str : PySem.W.kitOne K (.type "bool") (.type "str") = some false := kit_ty (by decide +kernel)
theorem kit_bool_bool : PySem.W.kitOne K (.type "bool") (.type "bool") = some true := kit_ty (by decide +kernel)
theorem kit_bool_tuple : PySem.W.kitOne K (.type "bool") (.type "tuple") = some false := kit_ty (by decide +kernel)
theorem kit_bool_list : PySem.W.kitOne K (.type "bool") (.type "list") = some false := kit_ty (by decide +kernel)
theorem kit_NoneType_int : PySem.W.kitOne K (.type "NoneType") (.type "int") = some false := kit_ty (by decide +kernel)
theorem kit_NoneType_str : PySem.W.kitOne K (.type "NoneType") (.type "str") = some false := kit_ty (by decide +kernel)
theorem kit_NoneType_bool : PySem.W.kitOne K (.type "NoneType") (.type "bool") = some false := kit_ty (by decide +kernel)
theorem kit_NoneType_tuple : PySem.W.kitOne K (.type "NoneType") (.type "tuple") = some false := kit_ty (by decide +kernel)
theorem kit_NoneType_list : PySem.W.kitOne K (.type "NoneType") (.type "list") = some false := kit_ty (by decide +kernel)
theorem kit_list_int : PySem.W.kitOne K (.type "list") (.type "int") = some false := kit_ty (by decide +kernel)
theorem kit_list_str : PySem.W.kitOne K (.type "list") (.type "str") = some false := kit_ty (by decide +kernel)
theorem kit_list_bool : PySem.W.kitOne K (.type "list") (.type "bool") = some false := kit_ty (by decide +kernel)
theorem kit_list_tuple : PySem.W.kitOne K (.type "list") (.type "tuple") = some false := kit_ty (by decide +kernel)
theorem kit_list_list : PySem.W.kitOne K (.type "list") (.type "list") = some true := kit_ty (by decide +kernel)
theorem kit_tuple_int : PySem.W.kitOne K (.type "tuple") (.type "int") = some false := kit_ty (by decide +kernel)
theorem kit_tuple_str : PySem.W.kitOne K (.type "tuple") (.type "str") = some false := kit_ty (by decide +kernel)
theorem kit_tuple_bool : PySem.W.kitOne K (.type "tuple") (.type "bool") = some false := kit_ty (by decide +kernel)
theorem kit_tuple_tuple : PySem.W.kitOne K (.type "tuple") (.type "tuple") = some true := kit_ty (by decide +kernel)
theorem kit_tuple_list : PySem.W.kitOne K (.type "tuple") (.type "list") = some false := kit_ty (by decide +kernel)
end
/-- a def that may be called by its name -/
def Def (P : Program) (w : World) (K : PySem.W.Frag) (mg : Str → Option Value) (base : Heap) (CX : CXT) (k : Nat) (x : Str) (ps : List Str) (sp : Sp) : Prop :=
  ∃ (f : Addr) (fd : FuncData), mg x = some (.ref f) ∧ PySem.W.keepIn K (.ref f) = true ∧ Binds K fd ps [] ∧ FnOk P w K mg base CX k f fd ps sp
theorem Def.of {P : Program} {w : World} {K : PySem.W.Frag} {mg : Str → Option Value} {base : Heap} {CX : CXT} {k : Nat} {x : Str} {ps : List Str} {sp : Sp} {f : Addr} {fd : FuncData} (g : mg x = some (.ref f)) (kp : PySem.W.keepIn K (.ref f) = true) (b : Binds K fd ps []) (G : FnOk P w K mg base CX k f fd ps sp) : Def P w K mg base CX k x ps sp := ⟨f, fd, g, kp, b, G⟩
theorem drop_at {α : Type} {xs : List α} {i : Nat} {x : α} (h : xs[i]? = some x) : xs.drop i = x :: xs.drop (i + 1) := by
  obtain ⟨h1, rfl⟩ := List.getElem?_eq_some_iff.mp h
  exact List.drop_eq_getElem_cons h1
inductive Tm where
  | var (n : Nat)
  | lam (b : Tm)
  | app (f a : Tm)
def Tm.enc : Tm → List V
  | .var n => [.int n]
  | .lam b => .str "lam" :: b.enc
  | .app f a => .str "app" :: (f.enc ++ a.enc)
/-- its free variables are below d -/
def Tm.wf : Nat → Tm → Prop
  | d, .var n => n < d
  | d, .lam b => b.wf (d + 1)
  | d, .app f a => f.wf d ∧ a.wf d
def encs (ts : List Tm) : List V := (ts.map Tm.enc).flatten
/-- whatever terms stand for what waits (the last one first), the whole is a term -/
def Comp (loose : Nat) (nodes : List V) (wait : List Nat) : Prop := ∀ ts : List Tm, ts.length = wait.length → (∀ p ∈ ts.zip wait.reverse, p.1.wf (p.2 + loose)) → ∃ t : Tm, t.wf loose ∧ t.enc = nodes ++ encs ts
theorem Comp.start (loose : Nat) : Comp loose [] [0] := fun ts hl hw => by
  match ts, hl with
  | [t], _ =>
    refine ⟨t, ?_, by simp [encs]⟩
    have := hw (t, 0) (by simp)
    simpa using this
theorem Comp.done {loose : Nat} {nodes : List V} (h : Comp loose nodes []) : ∃ t : Tm, t.wf loose ∧ t.enc = nodes := by
  obtain ⟨t, h1, h2⟩ := h [] rfl (by simp)
  exact ⟨t, h1, by rw [h2]; simp [encs]⟩
theorem Comp.var {loose : Nat} {nodes : List V} {wait : List Nat} {d n : Nat} (h : Comp loose nodes (wait ++ [d])) (hn : n < d + loose) : Comp loose (nodes ++ [.int n]) wait := fun ts hl hw => by
  obtain ⟨t, h1, h2⟩ := h (.var n :: ts) (by simp [hl]) (fun p hp => by
    rw [List.reverse_append] at hp
    rcases List.mem_cons.mp hp with e | e
    · subst e
      exact hn
    · exact hw p e)
  exact ⟨t, h1, by rw [h2]; simp [encs, Tm.enc]⟩
theorem Comp.lam {loose : Nat} {nodes : List V} {wait : List Nat} {d : Nat} (h : Comp loose nodes (wait ++ [d])) : Comp loose (nodes ++ [.str "lam"]) (wait ++ [d + 1]) := fun ts hl hw => by
  match ts, hl with
  | [], hl => simp at hl
  | b :: r, hl =>
    rw [List.reverse_append] at hw
    obtain ⟨t, h1, h2⟩ := h (.lam b :: r) (by simpa using hl) (fun p hp => by
      rw [List.reverse_append] at hp
      rcases List.mem_cons.mp hp with e | e
      · subst e
        have := hw (b, d + 1) (by simp)
        show b.wf (d + loose + 1)
        have e2 : d + loose + 1 = d + 1 + loose := by omega
        rw [e2]
        exact this
      · exact hw p (List.mem_cons_of_mem _ e))
    exact ⟨t, h1, by rw [h2]; simp [encs, Tm.enc]⟩
theorem Comp.app {loose : Nat} {nodes : List V} {wait : List Nat} {d : Nat} (h : Comp loose nodes (wait ++ [d])) : Comp loose (nodes ++ [.str "app"]) (wait ++ [d] ++ [d]) := fun ts hl hw => by
  match ts, hl with
  | [], hl => simp at hl
  | [_], hl => simp at hl
  | f :: a :: r, hl =>
    rw [List.reverse_append, List.reverse_append] at hw
    obtain ⟨t, h1, h2⟩ := h (.app f a :: r) (by simpa using hl) (fun p hp => by
      rw [List.reverse_append] at hp
      rcases List.mem_cons.mp hp with e | e
      · subst e
        exact ⟨hw (f, d) (by simp), hw (a, d) (by simp)⟩
      · exact hw p (List.mem_cons_of_mem _ (List.mem_cons_of_mem _ e)))
    exact ⟨t, h1, by rw [h2]; simp [encs, Tm.enc]⟩
def Flat (xs : List V) : Prop := ∀ x ∈ xs, (∃ i, x = .int i) ∨ ∃ s, x = .str s
theorem Flat.kd {xs : List V} (h : Flat xs) (H : Hp) : ∀ x ∈ xs, Kd H x := fun x hx => by
  rcases h x hx with ⟨i, rfl⟩ | ⟨s, rfl⟩
  · exact .int i
  · exact .str s
theorem Flat.app {xs ys : List V} (h : Flat xs) (t : Flat ys) : Flat (xs ++ ys) := fun x hx => by
  rcases List.mem_append.mp hx with e | e
  · exact h x e
  · exact t x e
theorem Flat.rep {xs : List V} (h : Flat xs) (n : Nat) : Flat (List.replicate n xs).flatten := fun x hx => by
  obtain ⟨l, h1, h2⟩ := List.mem_flatten.mp hx
  rw [(List.mem_replicate.mp h1).2] at h2
  exact h x h2
theorem Flat.one (x : V) (h : (∃ i, x = .int i) ∨ ∃ s, x = .str s) : Flat [x] := fun y hy => by
  rw [List.mem_singleton.mp hy]
  exact h
theorem Flat.two (x z : V) (h : (∃ i, x = .int i) ∨ ∃ s, x = .str s) (h2 : (∃ i, z = .int i) ∨ ∃ s, z = .str s) : Flat [x, z] := fun y hy => by
  rcases List.mem_cons.mp hy with e | e
  · rw [e]
    exact h
  · rw [List.mem_singleton.mp e]
    exact h2
theorem Flat.cons {x : V} {xs : List V} (h : (∃ i, x = .int i) ∨ ∃ s, x = .str s) (t : Flat xs) : Flat (x :: xs) := fun y hy => by
  rcases List.mem_cons.mp hy with e | e
  · rw [e]
    exact h
  · exact t y e
theorem Flat.nil : Flat [] := fun x h => absurd h (by simp)
/-- no variable too great -/
def okV : V → Bool
  | .int i => decide (i ≤ 1000000)
  | _ => true
def fitsV (xs : List V) : Bool := decide (xs.length ≤ 1000) && xs.all okV
def Nds (xs : List V) : Prop := ∀ x ∈ xs, (∃ i, x = .int i) ∨ x = .str "lam" ∨ x = .str "app"
theorem Nds.nil : Nds [] := fun x h => absurd h (by simp)
theorem Nds.app {xs ys : List V} (h : Nds xs) (t : Nds ys) : Nds (xs ++ ys) := fun x hx => by
  rcases List.mem_append.mp hx with e | e
  · exact h x e
  · exact t x e
theorem Nds.cons {x : V} {xs : List V} (h : (∃ i, x = .int i) ∨ x = .str "lam" ∨ x = .str "app") (t : Nds xs) : Nds (x :: xs) := fun y hy => by
  rcases List.mem_cons.mp hy with e | e
  · rw [e]
    exact h
  · exact t y e
theorem Nds.rep {xs : List V} (h : Nds xs) (n : Nat) : Nds (List.replicate n xs).flatten := fun x hx => by
  obtain ⟨l, h1, h2⟩ := List.mem_flatten.mp hx
  rw [(List.mem_replicate.mp h1).2] at h2
  exact h x h2
theorem Nds.tail {x : V} {xs : List V} (h : Nds (x :: xs)) : Nds xs := fun y hy => h y (List.mem_cons_of_mem _ hy)
theorem Nds.take {xs : List V} (h : Nds xs) (n : Nat) : Nds (xs.take n) := fun x hx => h x (List.mem_of_mem_take hx)
theorem Nds.drop {xs : List V} (h : Nds xs) (n : Nat) : Nds (xs.drop n) := fun x hx => h x (List.mem_of_mem_drop hx)
theorem Nds.I (i : Int) : (∃ j, V.int i = .int j) ∨ V.int i = .str "lam" ∨ V.int i = .str "app" := .inl ⟨i, rfl⟩
theorem Nds.L : (∃ j, V.str "lam" = .int j) ∨ V.str "lam" = .str "lam" ∨ V.str "lam" = .str "app" := .inr (.inl rfl)
theorem Nds.A : (∃ j, V.str "app" = .int j) ∨ V.str "app" = .str "lam" ∨ V.str "app" = .str "app" := .inr (.inr rfl)
theorem Tm.nds : ∀ t : Tm, Nds t.enc
  | .var n => Nds.cons (Nds.I _) Nds.nil
  | .lam b => Nds.cons Nds.L b.nds
  | .app f a => Nds.cons Nds.A (f.nds.app a.nds)
def dv : V → PyData
  | .int i => .int i
  | .str x => .str x
  | _ => .none
theorem eqv_nodes : ∀ {xs ys : List V}, Nds xs → Nds ys → PyData.eqvAll (xs.map dv) (ys.map dv) = decide (xs = ys)
  | [], [], _, _ => by simp [PyData.eqvAll]
  | [], _ :: _, _, _ => by simp [PyData.eqvAll]
  | _ :: _, [], _, _ => by simp [PyData.eqvAll]
  | x :: xs, y :: ys, h, k => by
    have ih := eqv_nodes h.tail k.tail
    have hxy : PyData.eqv (dv x) (dv y) = decide (x = y) := by
      rcases h x List.mem_cons_self with ⟨i, rfl⟩ | rfl | rfl <;> rcases k y List.mem_cons_self with ⟨j, rfl⟩ | rfl | rfl <;> simp [dv, PyData.eqv] <;> first | (rw [Bool.eq_iff_iff]; simp) | decide +kernel
    rw [List.map_cons, List.map_cons, PyData.eqvAll, ih, hxy]
    simp
theorem lay_nodes : ∀ {xs : List V}, Nds xs → PyData.canLayAll0 (xs.map dv) = true
  | [], _ => rfl
  | x :: xs, h => by
    have ih := lay_nodes h.tail
    have hx : (dv x).canLay0 = true := by
      rcases h x List.mem_cons_self with ⟨i, rfl⟩ | rfl | rfl
      · rfl
      · decide +kernel
      · decide +kernel
    rw [List.map_cons, PyData.canLayAll0, hx, ih]
    rfl
theorem dp_nodes {K : PySem.W.Frag} {H : Hp} : ∀ {xs : List V}, Nds xs → DpAll K H xs (xs.map dv)
  | [], _ => .nil
  | x :: xs, h => by
    refine .cons ?_ (dp_nodes h.tail)
    rcases h x List.mem_cons_self with ⟨i, rfl⟩ | rfl | rfl
    · exact .int i
    · exact .str _
    · exact .str _
theorem depth_atom (x : V) : (dv x).depth ≤ 1 := by
  cases x <;> simp [dv, PyData.depth]
theorem depth_all : ∀ xs : List V, PyData.depthAll (xs.map dv) ≤ 1
  | [] => by simp [PyData.depthAll]
  | x :: xs => by
    have h1 := depth_atom x
    have h2 := depth_all xs
    simp only [List.map_cons, PyData.depthAll]
    omega
theorem depth_nodes {xs : List V} : (PyData.tuple (xs.map dv)).depth ≤ 2 := by
  have h := depth_all xs
  simp only [PyData.depth]
  omega
theorem shaped_nodes {xs : List V} (h : Nds xs) : SeqAt.shaped (.tuple (xs.map dv)) = true := by
  have h1 : (PyData.tuple (xs.map dv)).canLay0 = true := lay_nodes h
  have h2 := depth_nodes (xs := xs)
  unfold SeqAt.shaped
  rw [h1, Bool.true_and]
  exact decide_eq_true (by omega)
section
variable {K : PySem.W.Frag} {H : Hp} {Q : VK} {a b : Addr} {xs ys : List V}
theorem w_eqN (h : SqT K H a xs) (k : SqT K H b ys) (n : Nds xs) (m : Nds ys) (q : Q (.bl (decide (xs = ys))) H) : rEqD K (.ref a) (.ref b) H Q :=
  ⟨_, _, .tup h (dp_nodes n), .tup k (dp_nodes m), shaped_nodes n, shaped_nodes m, by rw [PyData.eqv, eqv_nodes n m]; exact q⟩
theorem w_neN (h : SqT K H a xs) (k : SqT K H b ys) (n : Nds xs) (m : Nds ys) (q : Q (.bl (!decide (xs = ys))) H) : rNeD K (.ref a) (.ref b) H Q :=
  ⟨_, _, .tup h (dp_nodes n), .tup k (dp_nodes m), shaped_nodes n, shaped_nodes m, by rw [PyData.eqv, eqv_nodes n m]; exact q⟩
theorem w_neNon (k : SqT K H b ys) (m : Nds ys) (q : Q (.bl true) H) : rNeD K .non (.ref b) H Q :=
  ⟨_, _, .non, .tup k (dp_nodes m), by decide, shaped_nodes m, q⟩
theorem w_eqNon (k : SqT K H b ys) (m : Nds ys) (q : Q (.bl false) H) : rEqD K .non (.ref b) H Q :=
  ⟨_, _, .non, .tup k (dp_nodes m), by decide, shaped_nodes m, q⟩
end
theorem ly_lt {n : Nat} (h : n < 15000000) : n < sizeLine := by
  rw [sizeLine_eq]
  omega
theorem ly_sz {n : Nat} (h : n ≤ 16000000) : n ≤ sizeLine := by
  rw [sizeLine_eq]
  omega
def Tm.lamN : Nat → Tm → Tm
  | 0, t => t
  | n + 1, t => .lam (Tm.lamN n t)
theorem Tm.enc_lamN (n : Nat) (t : Tm) : (Tm.lamN n t).enc = (List.replicate n [V.str "lam"]).flatten ++ t.enc := by
  induction n with
  | zero => rfl
  | succ n ih =>
    show V.str "lam" :: (Tm.lamN n t).enc = _
    rw [ih, List.replicate_succ]
    rfl
def Tm.deps : Nat → Tm → List Nat
  | d, .var _ => [d]
  | d, .lam b => d :: b.deps (d + 1)
  | d, .app f a => d :: (f.deps d ++ a.deps d)
theorem Tm.deps_len : ∀ (t : Tm) (d : Nat), (t.deps d).length = t.enc.length
  | .var _, _ => rfl
  | .lam b, d => by simp [Tm.deps, Tm.enc, Tm.deps_len b]
  | .app f a, d => by simp [Tm.deps, Tm.enc, Tm.deps_len f, Tm.deps_len a]
theorem Tm.enc_ne : ∀ t : Tm, t.enc ≠ []
  | .var _ => by simp [Tm.enc]
  | .lam _ => by simp [Tm.enc]
  | .app _ _ => by simp [Tm.enc]
def depss : List Tm → List Nat → List Nat
  | t :: ts, d :: ds => t.deps d ++ depss ts ds
  | _, _ => []
theorem encs_cons (t : Tm) (ts : List Tm) : encs (t :: ts) = t.enc ++ encs ts := by simp [encs]
theorem encs_nil {ts : List Tm} (h : encs ts = []) : ts = [] := by
  cases ts with
  | nil => rfl
  | cons t r =>
    rw [encs_cons] at h
    exact absurd (List.append_eq_nil_iff.mp h).1 t.enc_ne
/-- in the midst of a walk over a term's nodes: what is left are the terms ts, whose depths wait (the last one first) -/
def DInv (t : Tm) (i : Nat) (found ds : List Nat) : Prop := ∃ ts : List Tm, t.enc.drop i = encs ts ∧ ts.length = ds.length ∧ t.deps 0 = found ++ depss ts ds.reverse
theorem DInv.start (t : Tm) : DInv t 0 [] [0] := ⟨[t], by simp [encs], rfl, by simp [depss]⟩
theorem DInv.done {t : Tm} {found ds : List Nat} (h : DInv t t.enc.length found ds) : found = t.deps 0 := by
  obtain ⟨ts, h1, h2, h3⟩ := h
  rw [List.drop_length] at h1
  have e := encs_nil h1.symm
  subst e
  rw [h3]
  simp [depss]
theorem DInv.step {t : Tm} {i : Nat} {found ds : List Nat} {v : V} (h : DInv t i found ds) (hv : t.enc[i]? = some v) : ∃ r d, ds = r ++ [d] ∧
    ((∃ n : Nat, v = .int n ∧ DInv t (i + 1) (found ++ [d]) r) ∨ (v = .str "lam" ∧ DInv t (i + 1) (found ++ [d]) (r ++ [d + 1])) ∨ (v = .str "app" ∧ DInv t (i + 1) (found ++ [d]) (r ++ [d] ++ [d]))) := by
  obtain ⟨ts, h1, h2, h3⟩ := h
  rw [drop_at hv] at h1
  match ts, h1, h2, h3 with
  | [], h1, _, _ => cases h1
  | t1 :: r1, h1, h2, h3 =>
    have hne : ds ≠ [] := fun e => by
      rw [e] at h2
      cases h2
    refine ⟨ds.dropLast, ds.getLast hne, (List.dropLast_concat_getLast hne).symm, ?_⟩
    generalize hr : ds.dropLast = r at *
    generalize hd : ds.getLast hne = d at *
    have hds : ds = r ++ [d] := by rw [← hr, ← hd]; exact (List.dropLast_concat_getLast hne).symm
    subst hds
    rw [List.reverse_append] at h3
    have h3 : t.deps 0 = found ++ (t1.deps d ++ depss r1 r.reverse) := h3
    have hl : r1.length = r.length := by simpa using h2
    rw [encs_cons] at h1
    cases t1 with
    | var n =>
      have h1 : v :: t.enc.drop (i + 1) = V.int n :: encs r1 := h1
      injection h1 with e1 e2
      exact .inl ⟨n, e1, r1, e2, hl, by rw [h3]; simp [Tm.deps]⟩
    | lam b =>
      have h1 : v :: t.enc.drop (i + 1) = V.str "lam" :: (b.enc ++ encs r1) := h1
      injection h1 with e1 e2
      exact .inr (.inl ⟨e1, b :: r1, by rw [e2, encs_cons], by simp [hl], by rw [h3, List.reverse_append]; simp [Tm.deps, depss]⟩)
    | app f a =>
      have h1 : v :: t.enc.drop (i + 1) = V.str "app" :: (f.enc ++ a.enc ++ encs r1) := h1
      injection h1 with e1 e2
      exact .inr (.inr ⟨e1, f :: a :: r1, by rw [e2, encs_cons, encs_cons, List.append_assoc], by simp [hl], by rw [h3, List.reverse_append, List.reverse_append]; simp [Tm.deps, depss]⟩)
def Tm.vmap (g : Nat → Nat → Nat) : Nat → Tm → Tm
  | d, .var n => .var (g d n)
  | d, .lam b => .lam (b.vmap g (d + 1))
  | d, .app f a => .app (f.vmap g d) (a.vmap g d)
section
variable {K : PySem.W.Frag} {H : Hp} {Q : VK} {a b : Addr} {xs ys : List V}
theorem shapedL_nodes {xs : List V} (h : Nds xs) : SeqAt.shaped (.list (xs.map dv)) = true := by
  have h1 : (PyData.list (xs.map dv)).canLay0 = true := lay_nodes h
  have h2 : (PyData.list (xs.map dv)).depth ≤ 2 := by
    have h := depth_all xs
    simp only [PyData.depth]
    omega
  unfold SeqAt.shaped
  rw [h1, Bool.true_and]
  exact decide_eq_true (by omega)
theorem w_eqL (h : SqL K H a xs) (k : SqL K H b ys) (n : Nds xs) (m : Nds ys) (q : Q (.bl (decide (xs = ys))) H) : rEqD K (.ref a) (.ref b) H Q :=
  ⟨_, _, .lst h (dp_nodes n), .lst k (dp_nodes m), shapedL_nodes n, shapedL_nodes m, by rw [PyData.eqv, eqv_nodes n m]; exact q⟩
theorem w_neL (h : SqL K H a xs) (k : SqL K H b ys) (n : Nds xs) (m : Nds ys) (q : Q (.bl (!decide (xs = ys))) H) : rNeD K (.ref a) (.ref b) H Q :=
  ⟨_, _, .lst h (dp_nodes n), .lst k (dp_nodes m), shapedL_nodes n, shapedL_nodes m, by rw [PyData.eqv, eqv_nodes n m]; exact q⟩
theorem Nds.ofInts (ns : List Int) : Nds (ns.map V.int) := fun x hx => by
  obtain ⟨i, _, e⟩ := List.mem_map.mp hx
  exact .inl ⟨i, e.symm⟩
theorem inV_ints (z : Int) : ∀ ms : List Int, inV (.int z) (ms.map V.int) = decide (z ∈ ms)
  | [] => by simp [inV]
  | m :: ms => by
    have ih := inV_ints z ms
    unfold inV at ih ⊢
    rw [List.map_cons, List.any_cons, ih]
    have e : eqV (.int m) (.int z) = (m == z) := rfl
    rw [e]
    by_cases h : m = z
    · subst h
      simp
    · have h2 : z ≠ m := fun e => h e.symm
      simp [h, h2]
theorem flat_ints : ∀ ms : List Int, (ms.map V.int).all flatV = true
  | [] => rfl
  | m :: ms => by
    rw [List.map_cons, List.all_cons, flat_ints ms]
    rfl
theorem w_nin {p : Addr} {ms : List Int} {z : Int} (h : SqL K H p (ms.map V.int)) (q : Q (.bl (!decide (z ∈ ms))) H) : rIn K true (.int z) (.ref p) H Q :=
  ⟨p, _, rfl, .inl h, rfl, flat_ints ms, by rw [inV_ints]; exact q⟩
theorem w_sorted {p : Addr} {ms : List Int} (h : SqL K H p (ms.map V.int)) (q : ∀ (ns : List Int) (l : Addr), ns.Perm ms → ns.Pairwise (· ≤ ·) → H l = none → Q (.ref l) (upd H l (.lst (ns.map V.int)))) : rSortedI K [.ref p] H Q := ⟨p, ms, rfl, h, q⟩
end
structure Stm where
  home : Addr
  cells : List Int
  cur : Int
  pos : Nat
  mix : Int
def Stm.take (m : Stm) : Stm := if m.cur = 0 ∧ m.pos < m.cells.length then { m with cur := (if m.cells.getD m.pos 0 < 0 then -(m.cells.getD m.pos 0) else m.cells.getD m.pos 0), pos := m.pos + 1 } else m
def Stm.turn (m : Stm) : Stm := { m with mix := (m.mix * 48271 + 11).fmod 2147483647 }
def Stm.next (m : Stm) (n : Int) : Stm := if m.take.cur = 0 then m.take.turn else { m.take with cur := m.take.cur.fdiv n }
def Stm.val (m : Stm) (n : Int) : Int := if m.take.cur = 0 then (m.take.turn.mix.fdiv 97).fmod n else m.take.cur.fmod n
theorem fmod_lt {a n : Int} (h : 0 < n) : 0 ≤ a.fmod n ∧ a.fmod n < n := ⟨Int.fmod_nonneg_of_pos a h, Int.fmod_lt_of_pos a h⟩
theorem Stm.val_lt (m : Stm) {n : Int} (h : 0 < n) : 0 ≤ m.val n ∧ m.val n < n := by
  unfold Stm.val
  split
  · exact fmod_lt h
  · exact fmod_lt h
def mixOf (ns : List Int) : Int := ns.foldl (fun m c => (m * 48271 + c.fmod 65521 + 1).fmod 2147483647) 17
theorem mixOf_take {ns : List Int} {i : Nat} {z : Int} (h : ns[i]? = some z) : mixOf (ns.take (i + 1)) = (mixOf (ns.take i) * 48271 + z.fmod 65521 + 1).fmod 2147483647 := by
  rw [List.take_add_one, h]
  unfold mixOf
  rw [List.foldl_append]
  rfl
theorem get_int {ns : List Int} {i : Nat} {x : V} (h : (ns.map V.int)[i]? = some x) : ∃ z, ns[i]? = some z ∧ x = .int z := by
  rw [List.getElem?_map] at h
  cases e : ns[i]? with
  | none => rw [e] at h; cases h
  | some z => rw [e] at h; exact ⟨z, rfl, (Option.some.inj h).symm⟩
theorem at_map {ns : List Int} {j : Nat} (h : j < ns.length) : atI (ns.map V.int) (j : Int) = some (.int (ns.getD j 0)) := by
  refine atI_nat ?_
  rw [List.getElem?_map, List.getElem?_eq_getElem h, List.getD_eq_getElem?_getD, List.getElem?_eq_getElem h]
  rfl
theorem Stm.take_cells (m : Stm) : m.take.cells = m.cells := by
  unfold Stm.take
  split <;> rfl
theorem Stm.take_home (m : Stm) : m.take.home = m.home := by
  unfold Stm.take
  split <;> rfl
/-- the stream goes on: the same list of numbers at the same place -/
def Fol (m m' : Stm) : Prop := m'.home = m.home ∧ m'.cells = m.cells
theorem Fol.refl (m : Stm) : Fol m m := ⟨rfl, rfl⟩
theorem Fol.trans {m m1 m2 : Stm} (h : Fol m m1) (k : Fol m1 m2) : Fol m m2 := ⟨k.1.trans h.1, k.2.trans h.2⟩
theorem Fol.next (m : Stm) (n : Int) : Fol m (m.next n) := by
  unfold Stm.next
  split
  · exact ⟨m.take_home, m.take_cells⟩
  · exact ⟨m.take_home, m.take_cells⟩
theorem Fol.step {m m1 : Stm} (h : Fol m m1) (n : Int) : Fol m (m1.next n) := h.trans (Fol.next m1 n)
def StAt (H : Hp) (s : Addr) (m : Stm) : Prop := m.home ≠ s ∧ H s = some (.lst [.ref m.home, .int m.cur, .int m.pos, .int m.mix]) ∧ H m.home = some (.lst (m.cells.map V.int))
theorem StAt.ex {H H' : Hp} {s : Addr} {m : Stm} (h : StAt H s m) (e : Ex H H') : StAt H' s m := ⟨h.1, e _ _ h.2.1, e _ _ h.2.2⟩
theorem StAt.is {H : Hp} {s : Addr} {m : Stm} (h : StAt H s m) : ∃ ys, H s = some (.lst ys) := ⟨_, h.2.1⟩
theorem StAt.put {H : Hp} {s r : Addr} {m : Stm} {o : HO} (h : StAt H s m) (hs : r ≠ s) (hl : r ≠ m.home) : StAt (upd H r o) s m :=
  ⟨h.1, by rw [upd_ne hs.symm]; exact h.2.1, by rw [upd_ne hl.symm]; exact h.2.2⟩
theorem StAt.new {H : Hp} {s r : Addr} {m : Stm} {o : HO} (h : StAt H s m) (hr : H r = none) : StAt (upd H r o) s m := h.ex (Ex.new hr)
theorem StAt.ne {H : Hp} {s r : Addr} {m : Stm} (h : StAt H s m) (hr : H r = none) : r ≠ s ∧ r ≠ m.home := ⟨(ne_of_none h.2.1 hr).symm, (ne_of_none h.2.2 hr).symm⟩
theorem Kp.st {H H' : Hp} {s : Addr} {m m' : Stm} (e : Fr s H H') (h : StAt H s m) (h' : StAt H' s m') : Kp H H' := by
  obtain ⟨ys, h⟩ := h.is
  obtain ⟨zs, h'⟩ := h'.is
  exact Kp.fr e h h'
end Ly
set_option Elab.async false
set_option linter.all false
set_option maxRecDepth 100000
set_option maxHeartbeats 4000000
namespace Ly
open PySem PySem.Spec PyProof.Rows L2 Evl
/-- what one source of a zip gives: C tells its items by the abstract heap -/
structure ZSrc (P : Program) (w : World) (K : PySem.W.Frag) (C : Hp → List V → Prop) (it : Addr) (fp : List Addr) (st : Nat → Heap → Prop) : Prop where
  obj : ∀ i h, st i h → ∃ o, h.get? it = some o ∧ ∀ v, o.data ≠ .cell v
  keep : ∀ i h h', st i h → (∀ o, h.get? it = some o → h'.get? it = some o) → st i h'
  inj : ∀ (X : Cx), X.prog = P → X.w = w → X.K = K → ∀ (pins : List (Addr × Obj)) (σ : L2.St) (H : Hp) (s : Shared) (xs ys : List V), Inv X pins σ H s → C H xs → C H ys → xs = ys
  draws : ∀ (X : Cx), X.prog = P → X.w = w → X.K = K → X.A.handled = none → ∀ (pins : List (Addr × Obj)) (σ : L2.St) (H : Hp) (s : Shared) (xs : List V), Inv X pins σ H s → C H xs →
    ∃ (Pr : Nat → Value → Prop) (CT : Heap → Prop), Draws P w X.A.in1 it fp xs.length Pr (fun i h => st i h ∧ CT h) ∧ CT s.heap ∧ ∀ i u, Pr i u → ∃ v, xs[i]? = some v ∧ RelV v u
def ItzC (C1 C2 : Hp → List V → Prop) : It :=
  ⟨fun i H => ∃ (xs ys : List V) (x y : V), C1 H xs ∧ C2 H ys ∧ xs[i]? = some x ∧ ys[i]? = some y,
    fun i H v H' => ∃ (T : Addr) (x y : V), v = .ref T ∧ H T = none ∧ H' = upd H T (.tup [x, y]) ∧ (∀ xs, C1 H xs → xs[i]? = some x) ∧ ∀ ys, C2 H ys → ys[i]? = some y,
    fun i H => ∃ xs ys : List V, C1 H xs ∧ C2 H ys ∧ i ≤ xs.length ∧ i ≤ ys.length ∧ (i = xs.length ∨ i = ys.length)⟩
def signs (z : Str) : List V := z.cps.toList.map fun c => V.str ⟨#[c]⟩
def iZipTL (K : PySem.W.Frag) (ta : TA) : TI := fun σ H R => ta σ H fun vs H1 => ∃ a b xs ys, vs = [.ref a, .ref b] ∧ SqT K H1 a xs ∧ SqL K H1 b ys ∧ R (ItzC (fun H xs => SqT K H a xs) (fun H ys => SqL K H b ys)) H1
def iZipSS (ta : TA) : TI := fun σ H R => ta σ H fun vs H1 => ∃ z u, vs = [.str z, .str u] ∧ R (ItzC (fun _ xs => xs = signs z) (fun _ ys => ys = signs u)) H1
section
variable {K : PySem.W.Frag} {σ : L2.St} {H : Hp} {tA : TA} {R : It → Hp → Prop}
theorem w_iZ (h : tA σ H fun vs H1 => ∃ a b xs ys, vs = [.ref a, .ref b] ∧ SqT K H1 a xs ∧ SqL K H1 b ys ∧ R (ItzC (fun H xs => SqT K H a xs) (fun H ys => SqL K H b ys)) H1) : iZipTL K tA σ H R := h
theorem w_iZ1 {a b : Addr} {xs ys : List V} {B : Addr → Addr → Prop} (h : SqT K H a xs) (h2 : SqL K H b ys) (q : B a b) : ∃ a' b' us vs, [V.ref a, V.ref b] = [.ref a', .ref b'] ∧ SqT K H a' us ∧ SqL K H b' vs ∧ B a' b' := ⟨a, b, xs, ys, rfl, h, h2, q⟩
theorem w_iS (h : tA σ H fun vs H1 => ∃ z u, vs = [.str z, .str u] ∧ R (ItzC (fun _ xs => xs = signs z) (fun _ ys => ys = signs u)) H1) : iZipSS tA σ H R := h
theorem w_iS1 {z u : Str} {B : Str → Str → Prop} (q : B z u) : ∃ a b, [V.str z, V.str u] = [.str a, .str b] ∧ B a b := ⟨z, u, rfl, q⟩
theorem w_gtup {t : TGs} {a : Addr} {xs : List V} {n : Nat} {Rs : L2.St → Hp → Prop} (h : SqT K H a xs) (hn : xs.length = n) (q : t xs σ H Rs) : gTup K n t (.ref a) σ H Rs := ⟨a, xs, rfl, h, hn, q⟩
theorem w_gcons {t : TG} {u : TGs} {v : V} {r : List V} {Rs : L2.St → Hp → Prop} (q : t v σ H fun σ' H' => u r σ' H' Rs) : gCons t u (v :: r) σ H Rs := ⟨v, r, rfl, q⟩
theorem w_gnil {Rs : L2.St → Hp → Prop} (q : Rs σ H) : gNil [] σ H Rs := ⟨rfl, q⟩
end
end Ly
set_option Elab.async false
set_option linter.all false
set_option maxRecDepth 100000
set_option maxHeartbeats 2000000
namespace Ly
open PySem PySem.Spec PyProof.Rows L2 Evl
/-- the walker at it: what it walks over, the place that comes next -/
def RevAt (h : Heap) (it : Addr) (z : Str) (t : Tok) (i : Int) : Prop := ∃ o, h.get? it = some o ∧ o.cls = .type "reversed" ∧ o.data = .fields #[.str z t, rawInt i]
theorem RevAt.kind {s : Shared} {it : Addr} {z : Str} {t : Tok} {i : Int} (r : RevAt s.heap it z t i) : s.TypeIs (.ref it) "reversed" := by
  obtain ⟨o, e, c, _⟩ := r
  exact ⟨o, e, c⟩
section
variable {prog : Program} {w : World} {A : Around} {E : Value → Shared → Prop} {s : Shared} {z : Str} {t : Tok}
end
end Ly
set_option Elab.async false
set_option linter.all false
set_option maxRecDepth 100000
set_option maxHeartbeats 2000000
namespace Ly
open PySem PySem.Spec PyProof.Rows L2 Evl
abbrev nums (ds : List Nat) : List V := ds.map fun (d : Nat) => V.int d
def lif (c d n : Nat) : Nat := if d ≤ n then n + c else n
def Tm.put (u : Tm) : Nat → Tm → Tm
  | d, .var n => if n < d then .var n else if n = d then u.vmap (lif d) 0 else .var (n - 1)
  | d, .lam b => .lam (Tm.put u (d + 1) b)
  | d, .app f a => .app (Tm.put u d f) (Tm.put u d a)
def rAddZ : R2 := fun x y H Q => ∃ i j, x = .str i ∧ y = .str j ∧ i.length + j.length ≤ sizeLine ∧ Q (.str (i ++ j)) H
theorem op_addZ {X : Cx} : OpR X (binaryOp .Add) rAddZ := op_add_str
def rLenZ : List V → Hp → VK → Prop := fun xs H Q => ∃ z, xs = [.str z] ∧ z.length ≤ sizeLine ∧ Q (.int z.length) H
theorem call_lenZ {X : Cx} : CallR X (.builtin "len") rLenZ := call_len_str
def pl (p : List Nat) : Str := ⟨p.toArray⟩
theorem pl_len (p : List Nat) : (pl p).length = p.length := by simp [pl, Str.length]
theorem pl_app (p q : List Nat) : pl p ++ pl q = pl (p ++ q) := by
  show Str.mk (p.toArray ++ q.toArray) = ⟨(p ++ q).toArray⟩
  simp
theorem pl_b : ("b" : Str) = pl [98] := by decide +kernel
theorem pl_f : ("f" : Str) = pl [102] := by decide +kernel
theorem pl_a : ("a" : Str) = pl [97] := by decide +kernel
theorem pl_inj {p q : List Nat} (h : pl p = pl q) : p = q := by
  have e := congrArg Str.cps h
  simpa [pl] using e
abbrev plcs (ps : List (List Nat)) : List V := ps.map fun p => V.str (pl p)
section
variable {H : Hp} {Q : VK}
theorem w_addZ {p q : List Nat} (z : p.length + q.length ≤ 16000000) (h : Q (.str (pl (p ++ q))) H) : rAddZ (.str (pl p)) (.str (pl q)) H Q :=
  ⟨pl p, pl q, rfl, rfl, by rw [pl_len, pl_len]; exact ly_sz z, by rw [pl_app]; exact h⟩
theorem w_addZb {p : List Nat} (z : p.length ≤ 15000000) (h : Q (.str (pl (p ++ [98]))) H) : rAddZ (.str (pl p)) (.str "b") H Q := by
  rw [pl_b]
  exact w_addZ (by simp; omega) h
theorem w_addZf {p : List Nat} (z : p.length ≤ 15000000) (h : Q (.str (pl (p ++ [102]))) H) : rAddZ (.str (pl p)) (.str "f") H Q := by
  rw [pl_f]
  exact w_addZ (by simp; omega) h
theorem w_addZa {p : List Nat} (z : p.length ≤ 15000000) (h : Q (.str (pl (p ++ [97]))) H) : rAddZ (.str (pl p)) (.str "a") H Q := by
  rw [pl_a]
  exact w_addZ (by simp; omega) h
theorem w_lenZ {p : List Nat} (z : p.length ≤ 16000000) (h : Q (.int p.length) H) : rLenZ [.str (pl p)] H Q :=
  ⟨pl p, rfl, by rw [pl_len]; exact ly_sz z, by rw [pl_len]; exact h⟩
end
/-- the letters' order: where they differ, the function comes first; else the shorter -/
def before : List Nat → List Nat → Bool
  | a :: x, b :: y => if a = b then before x y else decide (a = 102)
  | [], y => decide (0 < y.length)
  | _ :: _, [] => false
theorem before_app : ∀ (p x y : List Nat), before (p ++ x) (p ++ y) = before x y
  | [], _, _ => rfl
  | a :: p, x, y => by simp [before, before_app p x y]
def RB (x y : List Nat) : Prop := before x y = true ∧ before y x = false
theorem RB.app {p x y : List Nat} (h : RB x y) : RB (p ++ x) (p ++ y) := ⟨by rw [before_app]; exact h.1, by rw [before_app]; exact h.2⟩
theorem RB.longer {p s : List Nat} {c : Nat} : RB p (p ++ c :: s) := by
  have h : RB [] (c :: s) := ⟨by simp [before], rfl⟩
  have := RB.app (p := p) h
  rwa [List.append_nil] at this
theorem RB.fa {p s u : List Nat} : RB (p ++ 102 :: s) (p ++ 97 :: u) := RB.app ⟨rfl, rfl⟩
def Tm.pls : List Nat → Tm → List (List Nat)
  | p, .var _ => [p]
  | p, .lam b => p :: b.pls (p ++ [98])
  | p, .app f a => p :: (f.pls (p ++ [102]) ++ a.pls (p ++ [97]))
def plss : List Tm → List (List Nat) → List (List Nat)
  | t :: ts, d :: ds => t.pls d ++ plss ts ds
  | _, _ => []
/-- in the midst of a walk that finds the places: what is left are the terms ts, whose places wait (the last one first) -/
def PInv (t : Tm) (i : Nat) (found ds : List (List Nat)) : Prop := ∃ ts : List Tm, t.enc.drop i = encs ts ∧ ts.length = ds.length ∧ t.pls [] = found ++ plss ts ds.reverse
theorem PInv.start (t : Tm) : PInv t 0 [] [[]] := ⟨[t], by simp [encs], rfl, by simp [plss]⟩
theorem PInv.done {t : Tm} {found ds : List (List Nat)} (h : PInv t t.enc.length found ds) : found = t.pls [] := by
  obtain ⟨ts, h1, h2, h3⟩ := h
  rw [List.drop_length] at h1
  have e := encs_nil h1.symm
  subst e
  rw [h3]
  simp [plss]
theorem PInv.step {t : Tm} {i : Nat} {found ds : List (List Nat)} {v : V} (h : PInv t i found ds) (hv : t.enc[i]? = some v) : ∃ r d, ds = r ++ [d] ∧
    ((∃ n : Nat, v = .int n ∧ PInv t (i + 1) (found ++ [d]) r) ∨ (v = .str "lam" ∧ PInv t (i + 1) (found ++ [d]) (r ++ [d ++ [98]])) ∨ (v = .str "app" ∧ PInv t (i + 1) (found ++ [d]) (r ++ [d ++ [97]] ++ [d ++ [102]]))) := by
  obtain ⟨ts, h1, h2, h3⟩ := h
  rw [drop_at hv] at h1
  match ts, h1, h2, h3 with
  | [], h1, _, _ => cases h1
  | t1 :: r1, h1, h2, h3 =>
    have hne : ds ≠ [] := fun e => by
      rw [e] at h2
      cases h2
    refine ⟨ds.dropLast, ds.getLast hne, (List.dropLast_concat_getLast hne).symm, ?_⟩
    generalize hr : ds.dropLast = r at *
    generalize hd : ds.getLast hne = d at *
    have hds : ds = r ++ [d] := by rw [← hr, ← hd]; exact (List.dropLast_concat_getLast hne).symm
    subst hds
    rw [List.reverse_append] at h3
    have h3 : t.pls [] = found ++ (t1.pls d ++ plss r1 r.reverse) := h3
    have hl : r1.length = r.length := by simpa using h2
    rw [encs_cons] at h1
    cases t1 with
    | var n =>
      have h1 : v :: t.enc.drop (i + 1) = V.int n :: encs r1 := h1
      injection h1 with e1 e2
      exact .inl ⟨n, e1, r1, e2, hl, by rw [h3]; simp [Tm.pls]⟩
    | lam b =>
      have h1 : v :: t.enc.drop (i + 1) = V.str "lam" :: (b.enc ++ encs r1) := h1
      injection h1 with e1 e2
      exact .inr (.inl ⟨e1, b :: r1, by rw [e2, encs_cons], by simp [hl], by rw [h3, List.reverse_append]; simp [Tm.pls, plss]⟩)
    | app f a =>
      have h1 : v :: t.enc.drop (i + 1) = V.str "app" :: (f.enc ++ a.enc ++ encs r1) := h1
      injection h1 with e1 e2
      exact .inr (.inr ⟨e1, f :: a :: r1, by rw [e2, encs_cons, encs_cons, List.append_assoc], by simp [hl], by rw [h3, List.reverse_append, List.reverse_append]; simp [Tm.pls, plss]⟩)
theorem drop_get {xs r : List V} {i : Nat} {v : V} (h : xs.drop i = v :: r) : xs[i]? = some v ∧ xs.drop (i + 1) = r := by
  have e : (xs.drop i)[0]? = some v := by rw [h]; rfl
  rw [List.getElem?_drop, Nat.add_zero] at e
  refine ⟨e, ?_⟩
  have := drop_at e
  rw [h] at this
  injection this with _ e2
  exact e2.symm
def Tm.sub : Tm → List Nat → Option (Nat × Tm)
  | t, [] => some (0, t)
  | .lam b, c :: p => if c = 98 then (b.sub p).map (fun r => (r.1 + 1, r.2)) else none
  | .app f a, c :: p => if c = 102 then (f.sub p).map (fun r => (r.1 + 1, r.2)) else if c = 97 then (a.sub p).map (fun r => (r.1 + (1 + f.enc.length), r.2)) else none
  | .var _, _ :: _ => none
theorem w_it {te : TE} {σ : L2.St} {H : Hp} {R : It → Hp → Prop} (h : te σ H fun v H1 => ∃ x, v = .str x ∧ R (Its x) H1) : iStr te σ H R := h
theorem w_it1 {z : Str} {B : Str → Prop} (q : B z) : ∃ x, V.str z = .str x ∧ B x := ⟨z, rfl, q⟩
/-- in the midst of a walk to a part's end: the terms that are missing -/
def EInv (xs : List V) (fin e : Nat) (ts : List Tm) : Prop := ∃ post, xs.drop e = encs ts ++ post ∧ e + (encs ts).length = fin
theorem EInv.start {xs post : List V} {s : Nat} {u : Tm} (h : xs.drop s = u.enc ++ post) : EInv xs (s + u.enc.length) s [u] := ⟨post, by simpa [encs] using h, by simp [encs]⟩
theorem EInv.step {xs : List V} {fin e : Nat} {t : Tm} {ts : List Tm} (h : EInv xs fin e (t :: ts)) : e < fin ∧ ∃ v ts', xs[e]? = some v ∧ EInv xs fin (e + 1) ts' ∧
    ((∃ n : Nat, v = .int n ∧ ts'.length = ts.length) ∨ (v = .str "lam" ∧ ts'.length = ts.length + 1) ∨ (v = .str "app" ∧ ts'.length = ts.length + 2)) := by
  obtain ⟨post, h1, h2⟩ := h
  rw [encs_cons] at h1 h2
  have pos := List.length_pos_iff.mpr t.enc_ne
  rw [List.length_append] at h2
  refine ⟨by omega, ?_⟩
  cases t with
  | var n =>
    have g := drop_get (i := e) (v := .int n) (r := encs ts ++ post) (by rw [h1]; rfl)
    exact ⟨_, ts, g.1, ⟨post, g.2, by simp [Tm.enc] at h2; omega⟩, .inl ⟨n, rfl, rfl⟩⟩
  | lam b =>
    have g := drop_get (i := e) (v := .str "lam") (r := b.enc ++ encs ts ++ post) (by rw [h1]; simp [Tm.enc])
    exact ⟨_, b :: ts, g.1, ⟨post, by rw [g.2, encs_cons], by rw [encs_cons]; simp [Tm.enc] at h2 ⊢; omega⟩, .inr (.inl ⟨rfl, rfl⟩)⟩
  | app f a =>
    have g := drop_get (i := e) (v := .str "app") (r := f.enc ++ (a.enc ++ encs ts) ++ post) (by rw [h1]; simp [Tm.enc])
    exact ⟨_, f :: a :: ts, g.1, ⟨post, by rw [g.2, encs_cons, encs_cons], by rw [encs_cons, encs_cons]; simp [Tm.enc] at h2 ⊢; omega⟩, .inr (.inr ⟨rfl, rfl⟩)⟩
theorem w_sl {r : V → Option Int → Option Int → Hp → VK → Prop} {te : TE} {tl th : TO} {σ : L2.St} {H : Hp} {Q : VK} (h : te σ H fun x H1 => tl σ H1 fun l H2 => th σ H2 fun u H3 => r x l u H3 Q) : L2.tSl r te tl th σ H Q := h
theorem w_noP {σ : L2.St} {H : Hp} {Q : Option Int → Hp → Prop} (h : Q none H) : tNoPart σ H Q := h
theorem w_part {t : TE} {σ : L2.St} {H : Hp} {Q : Option Int → Hp → Prop} (h : t σ H fun x H1 => ∃ i, x = .int i ∧ Q (some i) H1) : tPart t σ H Q := h
theorem w_part1 {j : Int} {B : Int → Prop} (h : B j) : ∃ i, V.int j = .int i ∧ B i := ⟨j, rfl, h⟩
theorem cut_lo (xs : List V) (i : Nat) : cutV xs none (some (i : Int)) = xs.take i := by
  unfold cutV
  rw [HT.sIx_nat, HT.sIx_none]
  simp
theorem cut_hi (xs : List V) (i : Nat) : cutV xs (some (i : Int)) none = xs.drop i := by
  unfold cutV
  rw [HT.sIx_nat, HT.sIx_none]
  by_cases h : i ≤ xs.length
  · rw [Nat.min_eq_left h]
    exact List.take_of_length_le (by simp)
  · rw [Nat.min_eq_right (by omega), List.drop_length, List.drop_of_length_le (by omega)]
    simp
def Small (qs : List (List Nat)) : Prop := ∀ q ∈ qs, ∀ c ∈ q, c < 200
theorem dp_pl {K : PySem.W.Frag} {H : Hp} : ∀ qs : List (List Nat), DpAll K H (plcs qs) ((plcs qs).map dv)
  | [] => .nil
  | _ :: qs => .cons (.str _) (dp_pl qs)
theorem lay_pl : ∀ {qs : List (List Nat)}, Small qs → PyData.canLayAll0 ((plcs qs).map dv) = true
  | [], _ => rfl
  | q :: qs, h => by
    have ih := lay_pl (qs := qs) fun x hx => h x (List.mem_cons_of_mem _ hx)
    have hx : (dv (V.str (pl q))).canLay0 = true := by
      show PyData.strOk (pl q) = true
      unfold PyData.strOk
      rw [Array.all_eq_true]
      intro i hi
      have hm : (pl q).cps[i] ∈ q := by
        have : (pl q).cps[i] ∈ (pl q).cps := Array.getElem_mem hi
        simpa [pl] using this
      have := h q List.mem_cons_self _ hm
      simp
      omega
    show ((dv (V.str (pl q))).canLay0 && PyData.canLayAll0 ((plcs qs).map dv)) = true
    rw [hx, ih]
    rfl
theorem eqv_pl : ∀ qs : List (List Nat), PyData.eqvAll ((plcs qs).map dv) ((plcs qs).map dv) = true
  | [] => by simp [PyData.eqvAll]
  | q :: qs => by
    have ih := eqv_pl qs
    show PyData.eqvAll (dv (V.str (pl q)) :: (plcs qs).map dv) (dv (V.str (pl q)) :: (plcs qs).map dv) = true
    rw [PyData.eqvAll, ih]
    simp [dv, PyData.eqv]
theorem shaped_pl {qs : List (List Nat)} (h : Small qs) : SeqAt.shaped (.list ((plcs qs).map dv)) = true := by
  have h1 : (PyData.list ((plcs qs).map dv)).canLay0 = true := lay_pl h
  have h2 : (PyData.list ((plcs qs).map dv)).depth ≤ 2 := by
    have h := depth_all (plcs qs)
    simp only [PyData.depth]
    omega
  unfold SeqAt.shaped
  rw [h1, Bool.true_and]
  exact decide_eq_true (by omega)
theorem inV_pl (p : List Nat) : ∀ qs : List (List Nat), inV (.str (pl p)) (plcs qs) = decide (p ∈ qs)
  | [] => by simp [inV]
  | q :: qs => by
    have ih := inV_pl p qs
    unfold inV at ih ⊢
    have e : eqV (.str (pl q)) (.str (pl p)) = decide (p = q) := by
      show (pl q == pl p) = _
      by_cases h : p = q
      · subst h; simp
      · rw [decide_eq_false h]
        exact beq_eq_false_iff_ne.mpr fun e => h (pl_inj e).symm
    show (eqV (.str (pl q)) (.str (pl p)) || (plcs qs).any fun y => eqV y (.str (pl p))) = _
    rw [ih, e]
    simp
theorem flat_pl (qs : List (List Nat)) : (plcs qs).all flatV = true := by
  simp [flatV]
theorem w_inS {K : PySem.W.Frag} {H : Hp} {Q : VK} {p : Addr} {r : List Nat} {qs : List (List Nat)} (h : H p = some (.lst (plcs qs))) (q : Q (.bl (decide (r ∈ qs))) H) : rIn K false (.str (pl r)) (.ref p) H Q :=
  ⟨p, _, rfl, .inl (SqL.of h), rfl, flat_pl qs, by rw [inV_pl]; exact q⟩
theorem cutS_hi (p : List Nat) (i : Nat) : cutS (pl p) (some (i : Int)) none = pl (p.drop i) := by
  unfold cutS
  rw [HT.sIx_nat, HT.sIx_none, pl_len]
  show pl ((p.drop (min i p.length)).take (p.length - min i p.length)) = pl (p.drop i)
  congr 1
  rw [List.take_of_length_le (by simp)]
  by_cases h : i ≤ p.length
  · rw [Nat.min_eq_left h]
  · rw [Nat.min_eq_right (by omega), List.drop_length, List.drop_of_length_le (by omega)]
theorem w_slS {p : List Nat} {lo hi : Option Int} {H : Hp} {Q : VK} (z : p.length ≤ 1000000) (q : Q (.str (cutS (pl p) lo hi)) H) : rSlS (.str (pl p)) lo hi H Q := ⟨pl p, rfl, by rw [pl_len]; exact ly_sz (by omega), q⟩
theorem w_slHi {p : List Nat} {i : Nat} {H : Hp} {Q : VK} (z : p.length ≤ 1000000) (q : Q (.str (pl (p.drop i))) H) : rSlS (.str (pl p)) (some (i : Int)) none H Q := w_slS z (by rw [cutS_hi]; exact q)
end Ly
set_option Elab.async false
set_option linter.all false
set_option maxRecDepth 100000
set_option maxHeartbeats 2000000
namespace Ly
open PySem PySem.Spec PyProof.Rows L2 Evl
/-- the term with v in place of the part at p -/
def Tm.rep (v : Tm) : Tm → List Nat → Tm
  | _, [] => v
  | .lam b, c :: p => if c = 98 then .lam (Tm.rep v b p) else .lam b
  | .app f a, c :: p => if c = 102 then .app (Tm.rep v f p) a else if c = 97 then .app f (Tm.rep v a p) else .app f a
  | .var n, _ :: _ => .var n
def Tm.isLam : Tm → Bool
  | .lam _ => true
  | _ => false
/-- the redexes, in order; p: the place of the term itself -/
def Tm.reds : List Nat → Tm → List (List Nat)
  | _, .var _ => []
  | p, .lam b => b.reds (p ++ [98])
  | p, .app f a => (if f.isLam then [p] else []) ++ (f.reds (p ++ [102]) ++ a.reds (p ++ [97]))
/-- the step at p (the term itself where p is no redex) -/
def Tm.step (t : Tm) (p : List Nat) : Tm := match t.sub p with
  | some (_, .app (.lam b) u) => Tm.rep (Tm.put u 0 b) t p
  | _ => t
theorem w_eqP {K : PySem.W.Frag} {H : Hp} {Q : VK} {a b : Addr} {qs : List (List Nat)} (h : H a = some (.lst (plcs qs))) (k : H b = some (.lst (plcs qs))) (o : Small qs) (q : Q (.bl true) H) : rEqD K (.ref a) (.ref b) H Q :=
  ⟨_, _, .lst (SqL.of h) (dp_pl qs), .lst (SqL.of k) (dp_pl qs), shaped_pl o, shaped_pl o, by rw [PyData.eqv, eqv_pl]; exact q⟩
theorem w_ixSt {H : Hp} {Q : VK} {p : List Nat} {i : Int} {c : Nat} (z : p.length ≤ 1000000) (h : atI p i = some c) (q : Q (.str (pl [c])) H) : rIxS (.str (pl p)) (.int i) H Q :=
  ⟨pl p, i, c, rfl, rfl, by rw [pl_len]; exact ly_sz (by omega), h, q⟩
end Ly
set_option Elab.async false
set_option linter.all false
set_option maxRecDepth 100000
set_option maxHeartbeats 2000000
namespace Ly
open PySem PySem.Spec PyProof.Rows L2 Evl
/-- what a road passes: the terms, or which error comes first -/
inductive Res where
  | ok (ts : List Tm)
  | none
  | large
def Res.cons (t : Tm) : Res → Res
  | .ok ts => .ok (t :: ts)
  | r => r
def Tm.isRed (t : Tm) (p : List Nat) : Bool := decide (p ∈ t.reds [])
def Tm.pass : Tm → List (List Nat) → Res
  | t, [] => .ok [t]
  | t, p :: r => if t.isRed p = false then .none else if fitsV (t.step p).enc = false then .large else Res.cons t (Tm.pass (t.step p) r)
/-- a road of redexes -/
inductive Road : Tm → List (List Nat) → Prop
  | nil {t : Tm} : Road t []
  | cons {t : Tm} {p : List Nat} {r : List (List Nat)} (h : t.isRed p = true) (hr : Road (t.step p) r) : Road t (p :: r)
/-- where a road leads (its places taken for redexes) -/
def Tm.along : Tm → List (List Nat) → Tm
  | t, [] => t
  | t, p :: r => (t.step p).along r
theorem Road.snoc {t : Tm} {r : List (List Nat)} {p : List Nat} (h : Road t r) (hp : (t.along r).isRed p = true) : Road t (r ++ [p]) := by
  induction h with
  | nil => exact .cons hp .nil
  | cons h _ ih => exact .cons h (ih hp)
inductive Pass (t : Tm) : List (List Nat) → List Tm → Tm → Prop
  | nil : Pass t [] [t] t
  | snoc {r : List (List Nat)} {ts : List Tm} {u : Tm} {p : List Nat} (h : Pass t r ts u) (hp : u.isRed p = true) (hf : fitsV (u.step p).enc = true) : Pass t (r ++ [p]) (ts ++ [u.step p]) (u.step p)
theorem pass_app {t u : Tm} {r : List (List Nat)} {ts : List Tm} (h : Pass t r ts u) : ∀ s, Tm.pass t (r ++ s) = match Tm.pass u s with
    | .ok us => .ok (ts.dropLast ++ us)
    | e => e := by
  induction h with
  | nil =>
    intro s
    show Tm.pass t s = _
    cases Tm.pass t s <;> rfl
  | @snoc r ts u p h hp hf ih =>
    intro s
    rw [List.append_assoc, List.singleton_append, ih]
    have e : Tm.pass u (p :: s) = Res.cons u (Tm.pass (u.step p) s) := by
      show (if u.isRed p = false then Res.none else if fitsV (u.step p).enc = false then Res.large else _) = _
      rw [if_neg (by rw [hp]; simp), if_neg (by rw [hf]; simp)]
    rw [e]
    have hl : ∃ ts0, ts = ts0 ++ [u] := by
      cases h with
      | nil => exact ⟨[], rfl⟩
      | snoc _ _ _ => exact ⟨_, rfl⟩
    obtain ⟨ts0, rfl⟩ := hl
    cases Tm.pass (u.step p) s <;> simp [Res.cons]
theorem Pass.done {t u : Tm} {r : List (List Nat)} {ts : List Tm} (h : Pass t r ts u) : Tm.pass t r = .ok ts := by
  have e := pass_app h []
  rw [List.append_nil] at e
  rw [e]
  have hl : ∃ ts0, ts = ts0 ++ [u] := by
    cases h with
    | nil => exact ⟨[], rfl⟩
    | snoc _ _ _ => exact ⟨_, rfl⟩
  obtain ⟨ts0, rfl⟩ := hl
  simp [Tm.pass]
theorem Pass.last {t u : Tm} {r : List (List Nat)} {ts : List Tm} (h : Pass t r ts u) : ∃ ts0, ts = ts0 ++ [u] := by
  cases h with
  | nil => exact ⟨[], rfl⟩
  | snoc _ _ _ => exact ⟨_, rfl⟩
theorem Pass.none {t u : Tm} {r s : List (List Nat)} {ts : List Tm} {p : List Nat} (h : Pass t r ts u) (hp : u.isRed p = false) : Tm.pass t (r ++ p :: s) = .none := by
  rw [pass_app h]
  have e : Tm.pass u (p :: s) = Res.none := if_pos hp
  rw [e]
theorem Pass.large {t u : Tm} {r s : List (List Nat)} {ts : List Tm} {p : List Nat} (h : Pass t r ts u) (hp : u.isRed p = true) (hf : fitsV (u.step p).enc = false) : Tm.pass t (r ++ p :: s) = .large := by
  rw [pass_app h]
  have e : Tm.pass u (p :: s) = Res.large := by
    show (if u.isRed p = false then Res.none else if fitsV (u.step p).enc = false then Res.large else _) = _
    rw [if_neg (by rw [hp]; simp), if_pos hf]
  rw [e]
theorem Pass.len {t u : Tm} {r : List (List Nat)} {ts : List Tm} (h : Pass t r ts u) : ts.length = r.length + 1 := by
  induction h with
  | nil => rfl
  | snoc _ _ _ ih => simp [ih]
inductive Ts (K : PySem.W.Frag) (H : Hp) : List Addr → List Tm → Prop
  | nil : Ts K H [] []
  | cons {a : Addr} {as : List Addr} {t : Tm} {ts : List Tm} (h : SqT K H a t.enc) (r : Ts K H as ts) : Ts K H (a :: as) (t :: ts)
section
variable {K : PySem.W.Frag} {H H' : Hp} {Q : VK}
theorem Ts.mono {as : List Addr} {ts : List Tm} (h : Ts K H as ts) (e : ∀ a xs, SqT K H a xs → SqT K H' a xs) : Ts K H' as ts := by
  induction h with
  | nil => exact .nil
  | cons h _ ih => exact .cons (e _ _ h) ih
theorem Ts.ex {as : List Addr} {ts : List Tm} (h : Ts K H as ts) (e : Ex H H') : Ts K H' as ts := h.mono fun a xs z => ex_t e z
theorem Ts.snoc {as : List Addr} {ts : List Tm} {a : Addr} {t : Tm} (h : Ts K H as ts) (ha : SqT K H a t.enc) : Ts K H (as ++ [a]) (ts ++ [t]) := by
  induction h with
  | nil => exact .cons ha .nil
  | cons h _ ih => exact .cons h ih
theorem Ts.len {as : List Addr} {ts : List Tm} (h : Ts K H as ts) : as.length = ts.length := by
  induction h with
  | nil => rfl
  | cons _ _ ih => simp [ih]
theorem Ts.at {as : List Addr} {ts : List Tm} (h : Ts K H as ts) {i : Nat} {a : Addr} (ha : as[i]? = some a) : ∃ t, ts[i]? = some t ∧ SqT K H a t.enc := by
  induction h generalizing i with
  | nil => simp at ha
  | cons h _ ih =>
    cases i with
    | zero =>
      simp at ha
      subst ha
      exact ⟨_, rfl, h⟩
    | succ i => exact ih (by simpa using ha)
abbrev refs (as : List Addr) : List V := as.map V.ref
def tmd (t : Tm) : PyData := .tuple (t.enc.map dv)
theorem Ts.dp {as : List Addr} {ts : List Tm} (h : Ts K H as ts) : DpAll K H (refs as) (ts.map tmd) := by
  induction h with
  | nil => exact .nil
  | cons h _ ih => exact .cons (.tup h (dp_nodes (Tm.nds _))) ih
theorem w_slL {a : Addr} {xs : List V} {lo hi : Option Int} (h : SqL K H a xs) (q : ∀ p, H p = none → Q (.ref p) (upd H p (.lst (cutV xs lo hi)))) : rSlL K (.ref a) lo hi H Q := ⟨a, xs, rfl, h, q⟩
end
theorem Small.app {qs rs : List (List Nat)} (h : Small qs) (k : Small rs) : Small (qs ++ rs) := fun q hq => (List.mem_append.mp hq).elim (h q) (k q)
theorem Small.take {qs : List (List Nat)} (h : Small qs) (i : Nat) : Small (qs.take i) := fun q hq => h q (List.mem_of_mem_take hq)
theorem Small.drop {qs : List (List Nat)} (h : Small qs) (i : Nat) : Small (qs.drop i) := fun q hq => h q (List.mem_of_mem_drop hq)
theorem w_ninS {K : PySem.W.Frag} {H : Hp} {Q : VK} {p : Addr} {r : List Nat} {qs : List (List Nat)} (h : H p = some (.lst (plcs qs))) (q : Q (.bl (!decide (r ∈ qs))) H) : rIn K true (.str (pl r)) (.ref p) H Q :=
  ⟨p, _, rfl, .inl (SqL.of h), rfl, flat_pl qs, by rw [inV_pl]; exact q⟩
end Ly
set_option Elab.async false
set_option linter.all false
set_option maxRecDepth 100000
set_option maxHeartbeats 2000000
namespace Ly
open PySem PySem.Spec PyProof.Rows L2 Evl
/-- what steps at the first redex come to -/
inductive Wk where
  | done (u : Tm)
  | out
  | large
section
variable {K : PySem.W.Frag} {H : Hp} {Q : VK}
theorem w_nnI {i : Int} {A B : Prop} (h : A) : if (!decide (V.int i = V.non)) = true then A else B := iteT h
theorem w_max {i j : Int} {A : Int → Prop} (q : A (if j > i then j else i)) : ∃ a b, [V.int i, V.int j] = [V.int a, V.int b] ∧ A (if b > a then b else a) := ⟨i, j, rfl, q⟩
theorem w_iR2 {σ : L2.St} {R : It → Hp → Prop} {tA : TA} (h : tA σ H fun vs H1 => ∃ i j : Int, vs = [.int i, .int j] ∧ (-(2 ^ 62) ≤ i ∧ i < 2 ^ 62 ∧ -(2 ^ 62) ≤ j ∧ j < 2 ^ 62) ∧ R (Itr i (j - i).toNat) H1) : iRng2 tA σ H R := h
theorem w_iR21 {i j : Int} {B : Int → Int → Prop} (h1 : -(2 ^ 62) ≤ i) (h2 : i < 2 ^ 62) (h3 : -(2 ^ 62) ≤ j) (h4 : j < 2 ^ 62) (q : B i j) : ∃ a b : Int, [V.int i, V.int j] = [V.int a, V.int b] ∧ (-(2 ^ 62) ≤ a ∧ a < 2 ^ 62 ∧ -(2 ^ 62) ≤ b ∧ b < 2 ^ 62) ∧ B a b := ⟨i, j, rfl, ⟨h1, h2, h3, h4⟩, q⟩
theorem w_break {D : Ends} {σ : L2.St} (h : D.bk σ H) : tBreak D σ H := h
theorem w_cont {D : Ends} {σ : L2.St} (h : D.ct σ H) : tCont D σ H := h
end
end Ly
set_option Elab.async false
set_option linter.all false
set_option maxRecDepth 100000
set_option maxHeartbeats 2000000
namespace Ly
open PySem PySem.Spec PyProof.Rows L2
/-- one clause: its class, the slot of its name if it has one, its suite -/
structure Cls1 where
  c : Value
  i : Option Nat
  ts : Addr → Value → Option Addr → TS
inductive HdsA (X : Cx) : List ExceptHandler → List Cls1 → Prop
  | nil : HdsA X [] []
  | bare {x : Str} {c : Value} {ts : Addr → Value → Option Addr → TS} {st : Stmt} {su : List Stmt} {np p2 : Pos} {hs : List ExceptHandler} {l : List Cls1} (hc : Names X x c)
      (hsu : ∀ (a : Addr) (oe : Obj) (cls : Value) (d : Option Addr) (pn : List (Addr × Obj)), Zc cls d oe → (∃ vs, oe.data = .fields vs) → PSs (X.suite a ((a, oe) :: pn)) (st :: su) (ts a cls d)) (r : HdsA X hs l) :
      HdsA X (.ExceptHandler (some (.Name x np)) none (st :: su) p2 :: hs) (⟨c, none, ts⟩ :: l)
  | named {x n : Str} {i : Nat} {c : Value} {ts : Addr → Value → Option Addr → TS} {st : Stmt} {su : List Stmt} {np p2 : Pos} {hs : List ExceptHandler} {l : List Cls1} (hi : X.N[i]? = some n) (hln : X.env.kindOf n = some .local) (hc : Names X x c)
      (hsu : ∀ (a : Addr) (oe : Obj) (cls : Value) (d : Option Addr) (pn : List (Addr × Obj)), Zc cls d oe → (∃ vs, oe.data = .fields vs) → PSs (X.suite a ((a, oe) :: pn)) (st :: su) (ts a cls d)) (r : HdsA X hs l) :
      HdsA X (.ExceptHandler (some (.Name x np)) (some n) (st :: su) p2 :: hs) (⟨c, some i, ts⟩ :: l)
section
variable {X : Cx}
end
end Ly
set_option Elab.async false
set_option linter.all false
set_option maxRecDepth 100000
set_option maxHeartbeats 2000000
namespace Ly
open PySem PySem.Spec PyProof.Rows L2 Evl
section
variable {X : Cx}
def rExtT (K : PySem.W.Frag) : V → List V → Hp → VK → Prop := fun x vs H Q => ∃ l b xs zs, x = .ref l ∧ vs = [.ref b] ∧ H l = some (.lst xs) ∧ SqT K H b zs ∧ xs.length + zs.length ≤ sizeLine ∧ Q .non (upd H l (.lst (xs ++ zs)))
end
theorem w_extT {K : PySem.W.Frag} {H : Hp} {Q : VK} {l b : Addr} {xs zs : List V} (h : H l = some (.lst xs)) (h2 : SqT K H b zs) (z : xs.length + zs.length ≤ sizeLine) (q : Q .non (upd H l (.lst (xs ++ zs)))) : rExtT K (.ref l) [.ref b] H Q := ⟨l, b, xs, zs, rfl, rfl, h, h2, z, q⟩
end Ly
set_option Elab.async false
set_option linter.all false
set_option maxRecDepth 100000
set_option maxHeartbeats 2000000
namespace Ly
open PySem PySem.Spec PyProof.Rows L2 Evl
def EntsAre : List DictEntry → List (Str × V) → Prop
  | [], [] => True
  | e :: r, (k, v) :: s => (∃ t, e.key = .str k t) ∧ RelV v e.val ∧ EntsAre r s
  | _, _ => False
/-- at d: a dict of the module with these pairs -/
def KD (K : PySem.W.Frag) (w : World) (d : Addr) (kvs : List (Str × V)) : Prop :=
  ∃ es n, K.lookup d = some ⟨.type "dict", none, .dict es n, #[]⟩ ∧ PySem.W.KeysLit w.params es.toList ∧ (d == sysModules) = false ∧ EntsAre es.toList kvs
theorem KD.mk {K : PySem.W.Frag} {w : World} {d : Addr} {kvs : List (Str × V)} {es : Array DictEntry} {n : Nat} (l : K.lookup d = some ⟨.type "dict", none, .dict es n, #[]⟩) (k : PySem.W.KeysLit w.params es.toList) (s : (d == sysModules) = false) (e : EntsAre es.toList kvs) : KD K w d kvs := ⟨es, n, l, k, s, e⟩
def getS (kvs : List (Str × V)) (y : V) : Option V := match y with
  | .str k => (kvs.find? fun kv => decide (kv.1 = k)).map (·.2)
  | _ => none
def OptR : Option V → Option Value → Prop
  | some v, some u => RelV v u
  | none, none => True
  | _, _ => False
theorem OptR.getD {o : Option V} {r : Option Value} (h : OptR o r) {z : V} {u : Value} (hz : RelV z u) : RelV (o.getD z) (r.getD u) := by
  cases o with
  | none =>
    cases r with
    | none => exact hz
    | some u => exact h.elim
  | some v =>
    cases r with
    | none => exact h.elim
    | some u => exact h
theorem OptR.isSome {o : Option V} {r : Option Value} (h : OptR o r) : r.isSome = o.isSome := by
  cases o with
  | none =>
    cases r with
    | none => rfl
    | some u => exact h.elim
  | some v =>
    cases r with
    | none => exact h.elim
    | some u => rfl
/-- at a: a tuple of the module with these items -/
def KT (K : PySem.W.Frag) (a : Addr) (xs : List V) : Prop := ∃ (o : Obj) (its : Array Value) (n : Nat), K.lookup a = some o ∧ o.cls = .type "tuple" ∧ o.data = .seq its n ∧ its.size ≤ sizeLine ∧ Vals xs its.toList
theorem KT.mk {K : PySem.W.Frag} {a : Addr} {xs : List V} {o : Obj} {its : Array Value} {n : Nat} (l : K.lookup a = some o) (c : o.cls = .type "tuple") (d : o.data = .seq its n) (z : its.size ≤ sizeLine) (v : Vals xs its.toList) : KT K a xs := ⟨o, its, n, l, c, d, z, v⟩
def tKGet2 (K : PySem.W.Frag) (w : World) (td ty tx : TE) : TE := fun σ H Q => td σ H fun x H1 => ∃ a kvs, x = .ref a ∧ KD K w a kvs ∧ ty σ H1 fun y H2 => tx σ H2 fun z H3 => (∃ k, y = kV k) ∧ Q ((getS kvs y).getD z) H3
section
variable {X : Cx} {o e f : Expr} {apos cpos : Pos} {td ty tx : TE}
end
section
variable {K : PySem.W.Frag} {w : World} {σ : L2.St} {H : Hp} {Q : VK} {td ty tx : TE}
theorem w_kget2 (h : td σ H fun x H1 => ∃ a kvs, x = .ref a ∧ KD K w a kvs ∧ ty σ H1 fun y H2 => tx σ H2 fun z H3 => (∃ k, y = kV k) ∧ Q ((getS kvs y).getD z) H3) : tKGet2 K w td ty tx σ H Q := h
theorem w_kg {a : Addr} {kvs : List (Str × V)} {B : List (Str × V) → Prop} (D : KD K w a kvs) (q : B kvs) : ∃ a' kvs', V.ref a = .ref a' ∧ KD K w a' kvs' ∧ B kvs' := ⟨a, kvs, rfl, D, q⟩
end
theorem w_isRN {a : Addr} {A B : Prop} (h : B) : if decide (V.ref a = V.non) = true then A else B := iteF h
theorem w_isNN {A B : Prop} (h : A) : if decide (V.non = V.non) = true then A else B := iteT h
theorem w_isIN {i : Int} {A B : Prop} (h : B) : if decide (V.int i = V.non) = true then A else B := iteF h
end Ly
set_option Elab.async false
set_option linter.all false
set_option maxRecDepth 100000
set_option maxHeartbeats 2000000
namespace Ly
open PySem PySem.Spec PyProof.Rows L2 Evl
/-- a class that is made by calling it -/
def DefC (P : Program) (w : World) (K : PySem.W.Frag) (mg : Str → Option Value) (base : Heap) (CX : CXT) (k : Nat) (C : Addr) (ps : List Str) (sp : Sp) : Prop :=
  ∃ (f : Addr) (fd : FuncData), Mk K C f ∧ Binds K fd ps [] ∧ FnOk P w K mg base CX k f fd ps sp
theorem DefC.of {P : Program} {w : World} {K : PySem.W.Frag} {mg : Str → Option Value} {base : Heap} {CX : CXT} {k : Nat} {C : Addr} {ps : List Str} {sp : Sp} {f : Addr} {fd : FuncData} (M : Mk K C f) (b : Binds K fd ps []) (G : FnOk P w K mg base CX k f fd ps sp) : DefC P w K mg base CX k C ps sp := ⟨f, fd, M, b, G⟩
section
variable {K : PySem.W.Frag} {σ : L2.St} {H : Hp} {Q : VK} {D : Ends} {ta tb : TE} {tA : TA} {g : TG} {s1 : TS} {R : It → Hp → Prop}
end
end Ly
set_option Elab.async false
set_option linter.all false
set_option maxRecDepth 100000
namespace Ly
open PySem PySem.Spec PyProof.Rows L2 Evl
def rDGet (x y : V) (H : Hp) (Q : VK) : Prop := ∃ a v, x = .ref a ∧ DGet H a y (some v) ∧ Q v H
def rDIn (x y : V) (H : Hp) (Q : VK) : Prop := ∃ a o, x = .ref a ∧ DGet H a y o ∧ Q (.bl o.isSome) H
def rDNotIn (x y : V) (H : Hp) (Q : VK) : Prop := ∃ a o, x = .ref a ∧ DGet H a y o ∧ Q (.bl (!o.isSome)) H
def rDPut (x y v : V) (H : Hp) (N : Hp → Prop) : Prop := ∃ a H4, x = .ref a ∧ DPut H a y v H4 ∧ N H4
section
variable {σ : L2.St} {H : Hp} {Q : VK} {D : Ends} {td ty tx tv : TE} {a : Addr} {kvs : List (L2.Key × V)} {i : Int} {v : V}
theorem w_tdget (h : td σ H fun x H1 => ty σ H1 fun y H2 => rDGet x y H2 Q) : tDGet td ty σ H Q := h
theorem w_tdin (h : ty σ H fun y H1 => td σ H1 fun x H2 => rDIn x y H2 Q) : tDIn ty td σ H Q := h
theorem w_tdnotin (h : ty σ H fun y H1 => td σ H1 fun x H2 => rDNotIn x y H2 Q) : tDNotIn ty td σ H Q := h
theorem w_sdput (h : tv σ H fun v H1 => td σ H1 fun x H2 => ty σ H2 fun y H3 => rDPut x y v H3 fun H4 => D.nx σ H4) : sDPut td ty tv D σ H := h
theorem w_dnew (h : ∀ p, H p = none → Q (.ref p) (upd H p (.dK []))) : tDNewK σ H Q := h
theorem w_tdsetd (h : td σ H fun x H1 => ∃ a, x = .ref a ∧ IsD H1 a ∧ ty σ H1 fun y H2 => tx σ H2 fun z H3 => ∃ (kvs : List (L2.Key × V)) (k : L2.Key), H3 a = some (.dK kvs) ∧ y = kV k ∧ kvs.length < sizeLine ∧
  (∀ v, valV kvs k = some v → Q v H3) ∧ (valV kvs k = none → Q z (upd H3 a (.dK (putK kvs k z))))) : tDSetd td ty tx σ H Q := h
end
/-- the dict that numbers vs -/
def NumD (vs : List Nat) (kvs : List (L2.Key × V)) : Prop := kvs.length = vs.length ∧ ∀ n : Nat, valV kvs (.inl (n : Int)) = if n ∈ vs then some (.int (vs.idxOf n : Nat)) else none
theorem NumD.nil : NumD [] [] := ⟨rfl, fun n => rfl⟩
theorem NumD.put {vs : List Nat} {kvs : List (L2.Key × V)} {n : Nat} (h : NumD vs kvs) (hn : n ∉ vs) : NumD (vs ++ [n]) (putK kvs (.inl (n : Int)) (.int (vs.length : Nat))) := by
  have h0 : valV kvs (.inl (n : Int)) = none := by rw [h.2 n, if_neg hn]
  refine ⟨?_, fun m => ?_⟩
  · rw [putK_new _ h0, List.length_append, List.length_append, h.1]
    rfl
  · rw [valV_put, h.2 m]
    by_cases e : m = n
    · subst e
      rw [if_pos rfl, if_pos (by simp), List.idxOf_append, if_neg hn]
      simp
    · have e2 : ¬ ((.inl (m : Int) : L2.Key) = .inl (n : Int)) := fun z => e (by have := Sum.inl.inj z; omega)
      rw [if_neg e2]
      by_cases hm : m ∈ vs
      · rw [if_pos hm, if_pos (by simp [hm]), List.idxOf_append, if_pos hm]
      · rw [if_neg hm, if_neg (by simp [hm, e])]
end Ly
set_option Elab.async false
set_option linter.all false
set_option maxRecDepth 100000
namespace Ly
open PySem PySem.Spec PyProof.Rows L2 Evl
abbrev Fp := List (Addr × HO)
structure Own (H0 H : Hp) (F : Fp) : Prop where
  ex : Ex H0 H
  nd : (F.map (·.1)).Nodup
  on : ∀ p ∈ F, H p.1 = some p.2
  nw : ∀ p ∈ F, H0 p.1 = none
section
variable {H0 H H' : Hp} {F G F1 F2 : Fp} {a b : Addr} {o u : HO}
theorem Own.nil (e : Ex H0 H) : Own H0 H [] := ⟨e, List.nodup_nil, fun p h => (nomatch h), fun p h => (nomatch h)⟩
theorem Own.sub (h : Own H0 H F) (s : G.Sublist F) : Own H0 H G :=
  ⟨h.ex, (s.map _).nodup h.nd, fun q m => h.on q (s.subset m), fun q m => h.nw q (s.subset m)⟩
theorem Own.at (h : Own H0 H F) (m : (a, o) ∈ F) : H a = some o := h.on _ m
theorem Own.mono (h : Own H0 H F) (e : Ex H H') : Own H0 H' F := ⟨h.ex.trans e, h.nd, fun p m => e _ _ (h.on p m), h.nw⟩
theorem Own.new (h : Own H0 H F) (hp : H a = none) : Own H0 (upd H a u) ((a, u) :: F) := by
  have h0 : H0 a = none := fresh_back h.ex hp
  have na : ∀ p ∈ F, p.1 ≠ a := fun p m z => by
    have := h.on p m
    rw [z, hp] at this
    cases this
  refine ⟨ex_new h.ex hp, ?_, fun p m => ?_, fun p m => ?_⟩
  · rw [List.map_cons, List.nodup_cons]
    refine ⟨fun m => ?_, h.nd⟩
    obtain ⟨p, mp, e⟩ := List.mem_map.mp m
    exact na p mp e
  · rcases List.mem_cons.mp m with rfl | m
    · exact upd_same
    · rw [upd_ne (na p m)]
      exact h.on p m
  · rcases List.mem_cons.mp m with rfl | m
    · exact h0
    · exact h.nw p m
theorem Own.mid (h : Own H0 H (F1 ++ (a, o) :: F2)) : Own H0 (upd H a u) (F1 ++ (a, u) :: F2) := by
  have nd := h.nd
  rw [List.map_append, List.map_cons] at nd
  have h0 : H0 a = none := h.nw (a, o) (by simp)
  have nd2 := (List.perm_middle.nodup_iff).mp nd
  rw [List.nodup_cons] at nd2
  have na : ∀ p, p ∈ F1 ∨ p ∈ F2 → p.1 ≠ a := fun p m z => nd2.1 (by
    rw [List.mem_append]
    rcases m with m | m
    · exact .inl (z ▸ List.mem_map.mpr ⟨p, m, rfl⟩)
    · exact .inr (z ▸ List.mem_map.mpr ⟨p, m, rfl⟩))
  refine ⟨ex_upd h.ex h0, by rw [List.map_append, List.map_cons]; exact nd, fun p m => ?_, fun p m => ?_⟩
  · rcases List.mem_append.mp m with m | m
    · rw [upd_ne (na p (.inl m))]
      exact h.on p (by simp [m])
    · rcases List.mem_cons.mp m with rfl | m
      · exact upd_same
      · rw [upd_ne (na p (.inr m))]
        exact h.on p (by simp [m])
  · rcases List.mem_append.mp m with m | m
    · exact h.nw p (by simp [m])
    · rcases List.mem_cons.mp m with rfl | m
      · exact h0
      · exact h.nw p (by simp [m])
theorem Own.put (h : Own H0 H ((a, o) :: F)) : Own H0 (upd H a u) ((a, u) :: F) := Own.mid (F1 := []) h
theorem Own.set (i : Nat) (h : Own H0 H F) (e : F[i]? = some (a, o)) : Own H0 (upd H a u) (F.set i (a, u)) := by
  obtain ⟨hi, e⟩ := List.getElem?_eq_some_iff.mp e
  have e1 : F = F.take i ++ (a, o) :: F.drop (i + 1) := by
    rw [← e, List.getElem_cons_drop, List.take_append_drop]
  have e2 : F.set i (a, u) = F.take i ++ (a, u) :: F.drop (i + 1) := List.set_eq_take_append_cons_drop .. |>.trans (if_pos hi)
  rw [e2]
  rw [e1] at h
  exact h.mid
theorem Own.keys (h : Own H0 H F) {i j : Nat} {p q : Addr × HO} (hi : F[i]? = some p) (hj : F[j]? = some q) (n : i ≠ j) : p.1 ≠ q.1 := fun z => by
  have nd := h.nd
  obtain ⟨li, ei⟩ := List.getElem?_eq_some_iff.mp hi
  obtain ⟨lj, ej⟩ := List.getElem?_eq_some_iff.mp hj
  have h1 : i < (F.map fun p => p.1).length := by simpa using li
  have h2 : j < (F.map fun p => p.1).length := by simpa using lj
  have e : (F.map fun p => p.1)[i] = (F.map fun p => p.1)[j] := by
    rw [List.getElem_map, List.getElem_map, ei, ej]
    exact z
  exact n ((List.getElem_inj nd).mp e)
theorem Own.pickN (h : Own H0 H F) : ∀ (I : List Nat) (G : Fp), I.Nodup → I.map (fun i => F[i]?) = G.map some → (G.map (·.1)).Nodup ∧ ∀ p ∈ G, ∃ i ∈ I, F[i]? = some p
  | [], G, _, e => by
    have : G = [] := by simpa using e.symm
    subst this
    exact ⟨List.nodup_nil, fun p m => (nomatch m)⟩
  | i :: I, [], _, e => by simp at e
  | i :: I, p :: G, n, e => by
    rw [List.map_cons, List.map_cons, List.cons.injEq] at e
    rw [List.nodup_cons] at n
    obtain ⟨h1, h2⟩ := Own.pickN h I G n.2 e.2
    refine ⟨?_, fun q m => ?_⟩
    · rw [List.map_cons, List.nodup_cons]
      refine ⟨fun m => ?_, h1⟩
      obtain ⟨q, mq, eq⟩ := List.mem_map.mp m
      obtain ⟨j, mj, ej⟩ := h2 q mq
      exact h.keys ej e.1 (fun z => n.1 (z ▸ mj)) eq
    · rcases List.mem_cons.mp m with rfl | m
      · exact ⟨i, List.mem_cons_self, e.1⟩
      · obtain ⟨j, mj, ej⟩ := h2 q m
        exact ⟨j, List.mem_cons_of_mem _ mj, ej⟩
/-- some of what one owns, in any order -/
theorem Own.pick (I : List Nat) (h : Own H0 H F) (n : I.Nodup) (e : I.map (fun i => F[i]?) = G.map some) : Own H0 H G := by
  obtain ⟨h1, h2⟩ := Own.pickN h I G n e
  refine ⟨h.ex, h1, fun p m => ?_, fun p m => ?_⟩
  · obtain ⟨i, _, ei⟩ := h2 p m
    exact h.on p (List.mem_of_getElem? ei)
  · obtain ⟨i, _, ei⟩ := h2 p m
    exact h.nw p (List.mem_of_getElem? ei)
theorem Own.ne (h : Own H0 H F) (m1 : (a, o) ∈ F) (m2 : (b, u) ∈ F) (n : o ≠ u) : a ≠ b := fun z => by
  have e1 := h.on _ m1
  have e2 := h.on _ m2
  rw [z] at e1
  exact n (Option.some.inj (e1.symm.trans e2))
end
end Ly
set_option Elab.async false
set_option linter.all false
set_option maxRecDepth 100000
namespace Ly
open PySem PySem.Spec PyProof.Rows L2 Evl
structure Lv where
  op : Str
  nm : Bool
  ns : List Str
  pt : Nat
  nd : List V
def Lv.new (o : Str) : Lv := ⟨o, decide (o = "\\"), [], 0, []⟩
def Lv.whole (l : Lv) : Bool := !l.nm && decide (0 < l.pt)
def Lv.add (l : Lv) (xs : List V) : Lv := { l with pt := l.pt + 1, nd := l.nd ++ xs }
def Lv.all (l : Lv) : List V := List.replicate l.ns.length (V.str "lam") ++ List.replicate (l.pt - 1) (V.str "app") ++ l.nd
def Lv.size (l : Lv) : Nat := l.ns.length + l.pt + l.nd.length
def scp : List Lv → List Str
  | [] => []
  | l :: r => scp r ++ l.ns
def sizes : List Lv → Nat
  | [] => 0
  | l :: r => l.size + sizes r
/-- the number that a name stands for -/
def numOf (fs sc : List Str) (n : Str) : Option Nat := if n ∈ sc then some (sc.reverse.idxOf n) else if n ∈ fs then some (sc.length + fs.idxOf n) else none
def closeAbs : Lv → List Lv → Lv × List Lv
  | l, [] => (l, [])
  | l, p :: r => if l.op = "\\" then closeAbs (p.add l.all) r else (l, p :: r)
def stepT (fs : List Str) (l : Lv) (r : List Lv) (tok : Str) : Option (Lv × List Lv) :=
  if tok = "(" ∨ tok = "\\" then (if l.nm = true ∨ 60 < r.length + 1 then none else some (Lv.new tok, l :: r))
  else if tok = "." then (if l.nm = false ∨ l.ns = [] then none else some ({ l with nm := false }, r))
  else if tok = ")" then (if l.whole = false then none else if (closeAbs l r).1.op = "(" then match (closeAbs l r).2 with
      | [] => none
      | p :: r2 => some (p.add (closeAbs l r).1.all, r2) else none)
  else if l.nm = true then some ({ l with ns := l.ns ++ [tok] }, r)
  else match numOf fs (scp (l :: r)) tok with
    | none => none
    | some k => some (l.add [V.int (k : Int)], r)
def finT (l : Lv) (r : List Lv) : Option (List V) := if l.whole = false then none else match (closeAbs l r).2 with
  | [] => some (closeAbs l r).1.all
  | _ :: _ => none
/-- the last level is the text's -/
def Bot : Lv → List Lv → Prop
  | l, [] => l.op = ""
  | _, p :: r => Bot p r
def isLow (c : Nat) : Bool := decide (97 ≤ c ∧ c ≤ 122)
def isDig (c : Nat) : Bool := decide (48 ≤ c ∧ c ≤ 57)
def posL (n : Str) : Nat → List Str → List Nat
  | _, [] => []
  | i, m :: r => if m = n then i :: posL n (i + 1) r else posL n (i + 1) r
end Ly
set_option Elab.async false
set_option linter.all false
set_option maxRecDepth 100000
namespace Ly
open PySem PySem.Spec PyProof.Rows L2 Evl
abbrev LA := Addr × Addr × Addr × Addr
def lvFs (l : Lv) (nl dl : Addr) : List (Str × V) := [("opener", .str l.op), ("naming", .bl l.nm), ("names", .ref nl), ("parts", .int (l.pt : Int)), ("nodes", .ref dl)]
def rdFs (dn db ll : Addr) (d : Nat) : List (Str × V) := [("numbers", .ref dn), ("bound", .ref db), ("depth", .int (d : Int)), ("levels", .ref ll)]
abbrev txts (ns : List Str) : List V := ns.map V.str
def lvFp (CL : Addr) (a : LA) (l : Lv) : Fp := [(a.1, .ins CL a.2.1 (lvFs l a.2.2.1 a.2.2.2)), (a.2.2.1, .lst (txts l.ns)), (a.2.2.2, .lst l.nd)]
def lvsFp (CL : Addr) : List LA → List Lv → Fp
  | a :: as, l :: ls => lvFp CL a l ++ lvsFp CL as ls
  | _, _ => []
def bdFp (g : Str → List V) (BA : List (Str × Addr)) : Fp := BA.map fun p => (p.2, .lst (g p.1))
abbrev pos0 (sc : List Str) (n : Str) : List V := nums (posL n 0 sc)
abbrev headFp (CR : Addr) (x dx dn db ll : Addr) (kn kb : List (L2.Key × V)) (d : Nat) (xs : List V) : Fp := [(x, .ins CR dx (rdFs dn db ll d)), (dn, .dK kn), (db, .dK kb), (ll, .lst xs)]
def NumS (fs : List Str) (kn : List (L2.Key × V)) : Prop := ∀ n, valV kn (.inr n) = if n ∈ fs then some (.int (fs.idxOf n : Nat)) else none
structure Bnd (BA : List (Str × Addr)) (kb : List (L2.Key × V)) (sc : List Str) (N : Nat) : Prop where
  nd : (BA.map (·.1)).Nodup
  val : ∀ n, valV kb (.inr n) = (BA.lookup n).map V.ref
  cov : ∀ n ∈ sc, (BA.lookup n).isSome = true
  len : kb.length ≤ N
def lls (as : List LA) : List V := (as.map fun a => V.ref a.1).reverse
theorem lls_cons (a : LA) (as : List LA) : lls (a :: as) = lls as ++ [V.ref a.1] := by simp [lls]
structure RdF (CR CL : Addr) (H0 H : Hp) (x dx dn db ll : Addr) (kn kb : List (L2.Key × V)) (BA : List (Str × Addr)) (a : LA) (as : List LA) (fs : List Str) (N : Nat) (l : Lv) (r : List Lv) : Prop where
  own : Own H0 H (headFp CR x dx dn db ll kn kb (scp (l :: r)).length (lls (a :: as)) ++ (lvFp CL a l ++ (lvsFp CL as r ++ bdFp (pos0 (scp (l :: r))) BA)))
  len : as.length = r.length
  num : NumS fs kn
  bd : Bnd BA kb (scp (l :: r)) N
  sz : sizes (l :: r) ≤ 2 * N
  bot : Bot l r
/-- the reader at x has read so far -/
def RdAt (CR CL : Addr) (H0 H : Hp) (x : Addr) (fs : List Str) (N : Nat) (l : Lv) (r : List Lv) : Prop := ∃ dx dn db ll kn kb BA a as, RdF CR CL H0 H x dx dn db ll kn kb BA a as fs N l r
section
variable {CR CL : Addr} {H0 H H' : Hp} {x : Addr} {fs : List Str} {N M : Nat} {l : Lv} {r : List Lv}
theorem RdAt.mono (h : RdAt CR CL H0 H x fs N l r) (e : Ex H H') : RdAt CR CL H0 H' x fs N l r := by
  obtain ⟨dx, dn, db, ll, kn, kb, BA, a, as, h⟩ := h
  exact ⟨dx, dn, db, ll, kn, kb, BA, a, as, h.own.mono e, h.len, h.num, h.bd, h.sz, h.bot⟩
theorem RdAt.more (h : RdAt CR CL H0 H x fs N l r) (e : N ≤ M) : RdAt CR CL H0 H x fs M l r := by
  obtain ⟨dx, dn, db, ll, kn, kb, BA, a, as, h⟩ := h
  exact ⟨dx, dn, db, ll, kn, kb, BA, a, as, h.own, h.len, h.num, ⟨h.bd.nd, h.bd.val, h.bd.cov, Nat.le_trans h.bd.len e⟩, by have := h.sz; omega, h.bot⟩
end
theorem RdAt.top {CR CL : Addr} {H0 H : Hp} {x : Addr} {fs : List Str} {N : Nat} {l : Lv} {r : List Lv} (h : RdAt CR CL H0 H x fs N l r) : ∃ (dx dn db ll ax adx nl dl : Addr) (d : Nat) (ys : List V), H x = some (.ins CR dx (rdFs dn db ll d)) ∧ H ll = some (.lst (ys ++ [V.ref ax])) ∧
    H ax = some (.ins CL adx (lvFs l nl dl)) ∧ H nl = some (.lst (txts l.ns)) ∧ H dl = some (.lst l.nd) ∧ ys.length = r.length := by
  obtain ⟨dx, dn, db, ll, kn, kb, BA, a, as, h⟩ := h
  have ow := h.own
  rw [lls_cons] at ow
  exact ⟨dx, dn, db, ll, a.1, a.2.1, a.2.2.1, a.2.2.2, (scp (l :: r)).length, lls as, ow.at (by simp), ow.at (by simp), ow.at (by simp [lvFp]), ow.at (by simp [lvFp]), ow.at (by simp [lvFp]), by simp [lls, h.len]⟩
theorem RdAt.ex {CR CL : Addr} {H0 H : Hp} {x : Addr} {fs : List Str} {N : Nat} {l : Lv} {r : List Lv} (h : RdAt CR CL H0 H x fs N l r) : Ex H0 H := by
  obtain ⟨_, _, _, _, _, _, _, _, _, h⟩ := h
  exact h.own.ex
theorem RdAt.bot {CR CL : Addr} {H0 H : Hp} {x : Addr} {fs : List Str} {N : Nat} {l : Lv} {r : List Lv} (h : RdAt CR CL H0 H x fs N l r) : Bot l r := by
  obtain ⟨_, _, _, _, _, _, _, _, _, h⟩ := h
  exact h.bot
theorem RdAt.size {CR CL : Addr} {H0 H : Hp} {x : Addr} {fs : List Str} {N : Nat} {l : Lv} {r : List Lv} (h : RdAt CR CL H0 H x fs N l r) : sizes (l :: r) ≤ 2 * N := by
  obtain ⟨_, _, _, _, _, _, _, _, _, h⟩ := h
  exact h.sz
section
variable {σ : L2.St} {H : Hp} {Q : VK} {D : Ends} {td ty tx tv ta : TE} {a : Addr} {kvs : List (L2.Key × V)} {n : Str} {v : V} {K : PySem.W.Frag}
theorem w_dinS (e : H a = some (.dK kvs)) (q : Q (.bl (valV kvs (.inr n)).isSome) H) : rDIn (.ref a) (.str n) H Q :=
  ⟨a, _, rfl, DGet.k (k := .inr n) e, q⟩
theorem w_dnotinS (e : H a = some (.dK kvs)) (q : Q (.bl (!(valV kvs (.inr n)).isSome)) H) : rDNotIn (.ref a) (.str n) H Q :=
  ⟨a, _, rfl, DGet.k (k := .inr n) e, q⟩
theorem w_dputS {N : Hp → Prop} (e : H a = some (.dK kvs)) (z : kvs.length < sizeLine) (q : N (upd H a (.dK (putK kvs (.inr n) v)))) : rDPut (.ref a) (.str n) v H N :=
  ⟨a, _, rfl, DPut.k (k := .inr n) e z, q⟩
end
end Ly
set_option Elab.async false
set_option linter.all false
set_option maxRecDepth 100000
namespace Ly
open PySem PySem.Spec PyProof.Rows L2 Evl
structure IsNm (w : List Nat) : Prop where
  ex : ∃ c ds, w = c :: ds ∧ isLow c = true ∧ ds.all isDig = true ∧ ds.length ≤ 8
inductive Kd4 | part | row | abs | opn
def wrapW (ws : List (List Nat)) : List (List Nat) := [40] :: ws ++ [[41]]
def nmOf (fs sc : List (List Nat)) (w : List Nat) : Option Nat := numOf (fs.map pl) (sc.map pl) (pl w)
inductive Mk (fs : List (List Nat)) : List (List Nat) → Nat → List (List Nat) → Tm → Kd4 → Prop
  | name {sc D w k} : IsNm w → nmOf fs sc w = some k → Mk fs sc D [w] (.var k) .part
  | abs {sc D own ws t kd} : own ≠ [] → own.length ≤ 3 → (∀ w ∈ own, IsNm w) → Mk fs (sc ++ own) D ws t kd → Mk fs sc (D + 1) ([92] :: (own ++ [46] :: ws)) (Tm.lamN own.length t) .abs
  | app {sc D l r L R f a k1 k2 kd} : Mk fs sc D l f k1 → Mk fs sc D r a k2 → (L = wrapW l ∨ (L = l ∧ (k1 = .part ∨ k1 = .row))) → ((R = wrapW r ∧ kd = .row) ∨ (R = r ∧ k2 = .part ∧ kd = .row) ∨ (R = r ∧ k2 = .abs ∧ kd = .opn)) → Mk fs sc (D + 1) (L ++ R) (.app f a) kd
theorem Mk.mono {fs sc D ws t kd} (h : Mk fs sc D ws t kd) : ∀ {D'}, D ≤ D' → Mk fs sc D' ws t kd := by
  induction h with
  | name h1 h2 => exact fun _ => .name h1 h2
  | abs h1 h2 h3 h4 ih =>
    intro D' hD
    obtain ⟨D2, rfl⟩ : ∃ k, D' = k + 1 := ⟨D' - 1, by omega⟩
    exact .abs h1 h2 h3 (ih (by omega))
  | app h1 h2 hl hr ih1 ih2 =>
    intro D' hD
    obtain ⟨D2, rfl⟩ : ∃ k, D' = k + 1 := ⟨D' - 1, by omega⟩
    exact .app (ih1 (by omega)) (ih2 (by omega)) hl hr
theorem Mk.head {fs sc D ws t kd} (h : Mk fs sc D ws t kd) : ∃ w r, ws = w :: r ∧ (kd ≠ .abs → w ≠ [92]) := by
  induction h with
  | name hn _ =>
    obtain ⟨c, ds, rfl, hc, _⟩ := hn.ex
    refine ⟨_, _, rfl, fun _ z => ?_⟩
    cases z
    exact absurd hc (by decide)
  | abs => exact ⟨_, _, rfl, fun z => absurd rfl z⟩
  | app h1 h2 hl hr ih1 ih2 =>
    obtain ⟨w, r, rfl, hw⟩ := ih1
    rcases hl with rfl | ⟨rfl, hk⟩
    · exact ⟨[40], _, rfl, fun _ z => by cases z⟩
    · refine ⟨w, _, rfl, fun _ => hw ?_⟩
      rcases hk with rfl | rfl <;> exact fun z => nomatch z
theorem Mk.size {fs sc D ws t kd} (h : Mk fs sc D ws t kd) : ws.length + 5 ≤ 6 * 2 ^ D ∧ t.enc.length + 3 ≤ 4 * 2 ^ D := by
  induction h with
  | @name sc D w k _ _ =>
    have := Nat.one_le_two_pow (n := D)
    simp only [Tm.enc, List.length_singleton]
    omega
  | abs h1 h2 h3 h4 ih =>
    rw [Nat.pow_succ]
    simp only [List.length_cons, List.length_append, Tm.enc_lamN, List.length_flatten, List.map_replicate, List.sum_replicate_nat]
    simp only [List.length_nil]
    omega
  | app h1 h2 hl hr ih1 ih2 =>
    have e1 : ∀ ws : List (List Nat), (wrapW ws).length = ws.length + 2 := fun ws => by simp [wrapW]
    rw [Nat.pow_succ]
    simp only [List.length_cons, List.length_append, Tm.enc]
    have l1 : ∀ {L l : List (List Nat)} {k1 : Kd4}, (L = wrapW l ∨ (L = l ∧ (k1 = .part ∨ k1 = .row))) → L.length ≤ l.length + 2 := by
      rintro L l k1 (rfl | ⟨rfl, _⟩)
      · exact Nat.le_of_eq (e1 l)
      · omega
    have l2 := l1 hl
    rcases hr with ⟨rfl, _⟩ | ⟨rfl, _⟩ | ⟨rfl, _⟩
    · rw [e1]
      omega
    · omega
    · omega
/-- words one after the other -/
def runW (fs : List Str) : Lv → List Lv → List (List Nat) → Option (Lv × List Lv)
  | l, r, [] => some (l, r)
  | l, r, w :: ws => match stepT fs l r (pl w) with
    | none => none
    | some x => runW fs x.1 x.2 ws
theorem runW_cons {fs : List Str} {l l' : Lv} {r r' : List Lv} {w : List Nat} {ws : List (List Nat)} (h : stepT fs l r (pl w) = some (l', r')) : runW fs l r (w :: ws) = runW fs l' r' ws := by
  rw [runW, h]
theorem runW_app {fs : List Str} : ∀ {a b : List (List Nat)} {l l' : Lv} {r r' : List Lv}, runW fs l r a = some (l', r') → runW fs l r (a ++ b) = runW fs l' r' b
  | [], b, l, l', r, r', h => by
    cases h
    rfl
  | w :: a, b, l, l', r, r', h => by
    rw [runW] at h
    rw [List.cons_append, runW]
    cases e : stepT fs l r (pl w) with
    | none => rw [e] at h; cases h
    | some x =>
      rw [e] at h
      exact runW_app h
theorem nm_ne {w : List Nat} (h : IsNm w) : pl w ≠ "(" ∧ pl w ≠ "\\" ∧ pl w ≠ "." ∧ pl w ≠ ")" := by
  obtain ⟨c, ds, rfl, hc, _⟩ := h.ex
  have e1 : ("(" : Str) = pl [40] := by decide +kernel
  have e2 : ("\\" : Str) = pl [92] := by decide +kernel
  have e3 : ("." : Str) = pl [46] := by decide +kernel
  have e4 : (")" : Str) = pl [41] := by decide +kernel
  have key : ∀ d, isLow d = false → pl (c :: ds) ≠ pl [d] := fun d hd z => by
    have := pl_inj z
    cases this
    rw [hc] at hd
    cases hd
  rw [e1, e2, e3, e4]
  exact ⟨key 40 (by decide), key 92 (by decide), key 46 (by decide), key 41 (by decide)⟩
theorem step_nm {fs : List Str} {l : Lv} {r : List Lv} {w : List Nat} (h : IsNm w) (hl : l.nm = true) : stepT fs l r (pl w) = some ({ l with ns := l.ns ++ [pl w] }, r) := by
  obtain ⟨a, b, c, d⟩ := nm_ne h
  unfold stepT
  rw [if_neg (by simp [a, b]), if_neg c, if_neg d, if_pos hl]
theorem step_use {fs : List Str} {l : Lv} {r : List Lv} {w : List Nat} {k : Nat} (h : IsNm w) (hl : l.nm = false) (hk : numOf fs (scp (l :: r)) (pl w) = some k) : stepT fs l r (pl w) = some (l.add [V.int (k : Int)], r) := by
  obtain ⟨a, b, c, d⟩ := nm_ne h
  unfold stepT
  rw [if_neg (by simp [a, b]), if_neg c, if_neg d, if_neg (by rw [hl]; exact Bool.false_ne_true), hk]
theorem pl_lp : pl [40] = ("(" : Str) := by decide +kernel
theorem pl_bs : pl [92] = ("\\" : Str) := by decide +kernel
theorem pl_pd : pl [46] = ("." : Str) := by decide +kernel
theorem pl_rp : pl [41] = (")" : Str) := by decide +kernel
theorem step_lp {fs : List Str} {l : Lv} {r : List Lv} (hl : l.nm = false) (hr : r.length + 1 ≤ 60) : stepT fs l r (pl [40]) = some (Lv.new "(", l :: r) := by
  rw [pl_lp]
  unfold stepT
  rw [if_pos (.inl rfl), if_neg (by rw [hl]; simp; omega)]
theorem step_bs {fs : List Str} {l : Lv} {r : List Lv} (hl : l.nm = false) (hr : r.length + 1 ≤ 60) : stepT fs l r (pl [92]) = some (Lv.new "\\", l :: r) := by
  rw [pl_bs]
  unfold stepT
  rw [if_pos (.inr rfl), if_neg (by rw [hl]; simp; omega)]
theorem step_pd {fs : List Str} {l : Lv} {r : List Lv} (hl : l.nm = true) (hn : l.ns ≠ []) : stepT fs l r (pl [46]) = some ({ l with nm := false }, r) := by
  rw [pl_pd]
  unfold stepT
  rw [if_neg (by decide +kernel), if_pos rfl, if_neg (by rw [hl]; simp [hn])]
theorem step_rp {fs : List Str} {l p : Lv} {r r2 : List Lv} {c : Lv} (hl : l.whole = true) (hc : closeAbs l r = (c, p :: r2)) (ho : c.op = "(") : stepT fs l r (pl [41]) = some (p.add c.all, r2) := by
  rw [pl_rp]
  unfold stepT
  rw [if_neg (by decide +kernel), if_neg (by decide +kernel), if_pos rfl, if_neg (by rw [hl]; simp), hc, if_pos ho]
theorem run_names {fs : List Str} : ∀ {own : List (List Nat)} {l : Lv} {r : List Lv}, (∀ w ∈ own, IsNm w) → l.nm = true → runW fs l r own = some ({ l with ns := l.ns ++ own.map pl }, r)
  | [], l, r, _, _ => by simp [runW]
  | w :: own, l, r, h, hl => by
    rw [runW_cons (step_nm (h w List.mem_cons_self) hl), run_names (fun v hv => h v (List.mem_cons_of_mem _ hv)) (by exact hl)]
    simp
/-- what stands on a level, read: the nodes xs of n parts -/
def Ful (n : Nat) (xs : List V) (t : Tm) : Prop := 1 ≤ n ∧ List.replicate (n - 1) (V.str "app") ++ xs = t.enc
def Fresh (fs : List Str) (l : Lv) (r : List Lv) (ws : List (List Nat)) (t : Tm) : Prop := ∃ l' r' n xs, runW fs l r ws = some (l', r') ∧ l'.whole = true ∧ closeAbs l' r' = closeAbs { l with pt := n, nd := xs } r ∧ Ful n xs t
def Left (fs : List Str) (l : Lv) (r : List Lv) (ws : List (List Nat)) (t : Tm) : Prop := ∃ n xs, runW fs l r ws = some ({ l with pt := n, nd := xs }, r) ∧ Ful n xs t
def Add (fs : List Str) (l : Lv) (r : List Lv) (ws : List (List Nat)) (t : Tm) : Prop := runW fs l r ws = some (l.add t.enc, r)
def AddO (fs : List Str) (l : Lv) (r : List Lv) (ws : List (List Nat)) (t : Tm) : Prop := ∃ l' r', runW fs l r ws = some (l', r') ∧ l'.whole = true ∧ closeAbs l' r' = closeAbs (l.add t.enc) r
theorem whole_of {l : Lv} {n : Nat} {xs : List V} (hl : l.nm = false) (hn : 1 ≤ n) : ({ l with pt := n, nd := xs } : Lv).whole = true := by
  unfold Lv.whole
  simp only [hl, Bool.not_false, Bool.true_and]
  exact decide_eq_true hn
theorem wrapped {fs : List Str} {l : Lv} {r : List Lv} {ws : List (List Nat)} {t : Tm} (hl : l.nm = false) (hr : r.length + 1 ≤ 60) (h : Fresh fs (Lv.new "(") (l :: r) ws t) : Add fs l r (wrapW ws) t := by
  obtain ⟨l', r', n, xs, h1, h2, h3, h4, h5⟩ := h
  unfold Add wrapW
  rw [List.cons_append, runW_cons (step_lp hl hr), runW_app h1]
  have e : closeAbs { Lv.new "(" with pt := n, nd := xs } (l :: r) = ({ Lv.new "(" with pt := n, nd := xs }, l :: r) := by
    rw [closeAbs]
    exact if_neg (show ¬ ("(" : Str) = "\\" by decide +kernel)
  rw [e] at h3
  rw [runW_cons (step_rp h2 h3 rfl), runW]
  have ea : ({ Lv.new "(" with pt := n, nd := xs } : Lv).all = t.enc := by
    show List.replicate 0 (V.str "lam") ++ List.replicate (n - 1) (V.str "app") ++ xs = _
    rw [← h5]
    rfl
  rw [ea]
theorem add_left {fs : List Str} {l : Lv} {r : List Lv} {ws : List (List Nat)} {t : Tm} (hp : l.pt = 0) (hn : l.nd = []) (h : Add fs l r ws t) : Left fs l r ws t := by
  refine ⟨1, t.enc, ?_, Nat.le_refl 1, rfl⟩
  rw [h]
  unfold Lv.add
  rw [hp, hn]
  rfl
theorem left_fresh {fs : List Str} {l : Lv} {r : List Lv} {ws : List (List Nat)} {t : Tm} (hl : l.nm = false) (h : Left fs l r ws t) : Fresh fs l r ws t := by
  obtain ⟨n, xs, h1, h2⟩ := h
  exact ⟨_, _, n, xs, h1, whole_of hl h2.1, rfl, h2⟩
theorem addo_fresh {fs : List Str} {l : Lv} {r : List Lv} {ws : List (List Nat)} {t : Tm} (hp : l.pt = 0) (hn : l.nd = []) (h : AddO fs l r ws t) : Fresh fs l r ws t := by
  obtain ⟨l', r', h1, h2, h3⟩ := h
  refine ⟨l', r', 1, t.enc, h1, h2, ?_, Nat.le_refl 1, rfl⟩
  rw [h3]
  unfold Lv.add
  rw [hp, hn]
  rfl
theorem ful_app {n : Nat} {xs : List V} {f a : Tm} (h : Ful n xs f) : Ful (n + 1) (xs ++ a.enc) (.app f a) := by
  obtain ⟨h1, h2⟩ := h
  refine ⟨by omega, ?_⟩
  rw [Tm.enc, ← h2, show n + 1 - 1 = (n - 1) + 1 by omega, List.replicate_succ]
  simp
theorem Mk.read {fs sc D ws t kd} (h : Mk fs sc D ws t kd) : ∀ (l : Lv) (r : List Lv), l.nm = false → scp (l :: r) = sc.map pl → r.length + 1 + 2 * D ≤ 59 →
    (kd = .part → Add (fs.map pl) l r ws t) ∧ (kd = .abs → AddO (fs.map pl) l r ws t) ∧ (l.pt = 0 → l.nd = [] → (kd = .part ∨ kd = .row → Left (fs.map pl) l r ws t) ∧ Fresh (fs.map pl) l r ws t) := by
  induction h with
  | @name sc D w k hw hk =>
    intro l r hl hs hr
    have hA : Add (fs.map pl) l r [w] (.var k) := by
      unfold Add
      rw [runW_cons (step_use hw hl (by rw [hs]; exact hk)), runW]
      rfl
    refine ⟨fun _ => hA, (fun z => nomatch z), fun hp hn => ⟨fun _ => add_left hp hn hA, left_fresh hl (add_left hp hn hA)⟩⟩
  | @abs sc D own ws t kd h1 h2 h3 h4 ih =>
    intro l r hl hs hr
    have hO : AddO (fs.map pl) l r ([92] :: (own ++ [46] :: ws)) (Tm.lamN own.length t) := by
      obtain ⟨_, _, hf⟩ := ih ⟨"\\", false, own.map pl, 0, []⟩ (l :: r) rfl (by
        show scp (l :: r) ++ own.map pl = _
        rw [hs, List.map_append]) (by simp only [List.length_cons]; omega)
      obtain ⟨_, l', r', n, xs, g1, g2, g3, g4, g5⟩ := hf rfl rfl
      refine ⟨l', r', ?_, g2, ?_⟩
      · rw [runW_cons (step_bs hl (by omega)), runW_app (run_names h3 (by show decide (("\\" : Str) = "\\") = true; exact decide_eq_true rfl)), runW_cons (step_pd (by show decide (("\\" : Str) = "\\") = true; exact decide_eq_true rfl) (by
          show [] ++ own.map pl ≠ []
          simpa using h1))]
        exact g1
      · rw [g3, closeAbs, if_pos rfl]
        have ea : ({ op := "\\", nm := false, ns := own.map pl, pt := n, nd := xs } : Lv).all = (Tm.lamN own.length t).enc := by
          show List.replicate (own.map pl).length (V.str "lam") ++ List.replicate (n - 1) (V.str "app") ++ xs = _
          rw [Tm.enc_lamN, ← g5, List.length_map, List.flatten_replicate_singleton, List.append_assoc]
        rw [ea]
    exact ⟨(fun z => nomatch z), fun _ => hO, fun hp hn => ⟨fun z => (by rcases z with z | z <;> cases z), addo_fresh hp hn hO⟩⟩
  | @app sc D l0 r0 L R f a k1 k2 kd h1 h2 hL hR ih1 ih2 =>
    intro l r hl hs hr
    have hlen : ∀ x : Lv, (x :: r).length + 1 + 2 * D ≤ 59 := fun x => by simp only [List.length_cons]; omega
    have hleft : l.pt = 0 → l.nd = [] → Left (fs.map pl) l r L f := by
      intro hp hn
      rcases hL with rfl | ⟨rfl, hk⟩
      · refine add_left hp hn (wrapped hl (by omega) ?_)
        have hs2 : scp (Lv.new "(" :: l :: r) = sc.map pl := by
          show scp (l :: r) ++ [] = _
          rw [List.append_nil, hs]
        exact ((ih1 (Lv.new "(") (l :: r) (by decide +kernel) hs2 (hlen l)).2.2 rfl rfl).2
      · exact ((ih1 l r hl hs (by omega)).2.2 hp hn).1 hk
    have hrest : ∀ n xs, (kd = .row → Add (fs.map pl) { l with pt := n, nd := xs } r R a) ∧ (kd = .opn → AddO (fs.map pl) { l with pt := n, nd := xs } r R a) := by
      intro n xs
      have hs3 : scp ({ l with pt := n, nd := xs } :: r) = sc.map pl := hs
      rcases hR with ⟨rfl, rfl⟩ | ⟨rfl, rfl, rfl⟩ | ⟨rfl, rfl, rfl⟩
      · refine ⟨fun _ => wrapped hl (by omega) ?_, (fun z => nomatch z)⟩
        have hs2 : scp (Lv.new "(" :: { l with pt := n, nd := xs } :: r) = sc.map pl := by
          show scp ({ l with pt := n, nd := xs } :: r) ++ [] = _
          rw [List.append_nil, hs3]
        exact ((ih2 (Lv.new "(") ({ l with pt := n, nd := xs } :: r) (by decide +kernel) hs2 (hlen _)).2.2 rfl rfl).2
      · exact ⟨fun _ => (ih2 { l with pt := n, nd := xs } r hl hs3 (by omega)).1 rfl, (fun z => nomatch z)⟩
      · exact ⟨(fun z => nomatch z), fun _ => (ih2 { l with pt := n, nd := xs } r hl hs3 (by omega)).2.1 rfl⟩
    have hkd : kd = .row ∨ kd = .opn := by
      rcases hR with ⟨_, rfl⟩ | ⟨_, _, rfl⟩ | ⟨_, _, rfl⟩
      · exact .inl rfl
      · exact .inl rfl
      · exact .inr rfl
    refine ⟨fun z => ?_, fun z => ?_, fun hp hn => ?_⟩
    · rcases hkd with e | e <;> rw [e] at z <;> cases z
    · rcases hkd with e | e <;> rw [e] at z <;> cases z
    · obtain ⟨n, xs, g1, g2⟩ := hleft hp hn
      obtain ⟨q1, q2⟩ := hrest n xs
      rcases hkd with rfl | rfl
      · have hq := q1 rfl
        have hLf : Left (fs.map pl) l r (L ++ R) (.app f a) := by
          refine ⟨n + 1, xs ++ a.enc, ?_, ful_app g2⟩
          rw [runW_app g1]
          exact hq
        exact ⟨fun _ => hLf, left_fresh hl hLf⟩
      · obtain ⟨l', r', p1, p2, p3⟩ := q2 rfl
        refine ⟨fun z => (by rcases z with z | z <;> cases z), l', r', n + 1, xs ++ a.enc, ?_, p2, p3, ful_app g2⟩
        rw [runW_app g1]
        exact p1
/-- the whole, with parentheses around it or without -/
theorem Mk.whole {fs D ws t kd} (h : Mk fs [] D ws t kd) (hD : D ≤ 20) : (∃ l r, runW (fs.map pl) (Lv.new "") [] ws = some (l, r) ∧ finT l r = some t.enc) ∧ (∃ l r, runW (fs.map pl) (Lv.new "") [] (wrapW ws) = some (l, r) ∧ finT l r = some t.enc) := by
  have e0 : (Lv.new "").nm = false := by decide +kernel
  constructor
  · obtain ⟨l', r', n, xs, g1, g2, g3, g4, g5⟩ := ((h.read (Lv.new "") [] e0 rfl (by simp only [List.length_nil]; omega)).2.2 rfl rfl).2
    refine ⟨l', r', g1, ?_⟩
    unfold finT
    rw [if_neg (by rw [g2]; simp), g3]
    show some ({ Lv.new "" with pt := n, nd := xs } : Lv).all = _
    have ea : ({ Lv.new "" with pt := n, nd := xs } : Lv).all = t.enc := by
      show List.replicate 0 (V.str "lam") ++ List.replicate (n - 1) (V.str "app") ++ xs = _
      rw [← g5]
      rfl
    rw [ea]
  · have hf := ((h.read (Lv.new "(") [Lv.new ""] (by decide +kernel) rfl (by simp only [List.length_cons, List.length_nil]; omega)).2.2 rfl rfl).2
    have ha := wrapped e0 (by simp) hf
    refine ⟨_, _, ha, ?_⟩
    unfold finT
    rw [if_neg (by
      show ¬ (({ Lv.new "" with pt := 1, nd := t.enc } : Lv).whole = false)
      rw [whole_of e0 (Nat.le_refl 1)]
      simp)]
    show some ((Lv.new "").add t.enc).all = _
    rfl
def IsTok (w : List Nat) : Prop := IsNm w ∨ w = [40] ∨ w = [41] ∨ w = [92] ∨ w = [46]
theorem Mk.toks {fs sc D ws t kd} (h : Mk fs sc D ws t kd) : ∀ w ∈ ws, IsTok w := by
  have wr : ∀ {l : List (List Nat)}, (∀ w ∈ l, IsTok w) → ∀ w ∈ wrapW l, IsTok w := by
    intro l hl w hw
    simp only [wrapW, List.cons_append, List.mem_cons, List.mem_append, List.not_mem_nil, or_false] at hw
    rcases hw with rfl | hw | rfl
    · exact .inr (.inl rfl)
    · exact hl w hw
    · exact .inr (.inr (.inl rfl))
  induction h with
  | name hn _ =>
    intro w hw
    rw [List.mem_singleton.mp hw]
    exact .inl hn
  | abs h1 h2 h3 h4 ih =>
    intro w hw
    simp only [List.mem_cons, List.mem_append] at hw
    rcases hw with rfl | hw | rfl | hw
    · exact .inr (.inr (.inr (.inl rfl)))
    · exact .inl (h3 w hw)
    · exact .inr (.inr (.inr (.inr rfl)))
    · exact ih w hw
  | app h1 h2 hl hr ih1 ih2 =>
    intro w hw
    rcases List.mem_append.mp hw with hw | hw
    · rcases hl with rfl | ⟨rfl, _⟩
      · exact wr ih1 w hw
      · exact ih1 w hw
    · rcases hr with ⟨rfl, _⟩ | ⟨rfl, _⟩ | ⟨rfl, _⟩
      · exact wr ih2 w hw
      · exact ih2 w hw
      · exact ih2 w hw
end Ly
set_option Elab.async false
set_option linter.all false
set_option maxRecDepth 100000
namespace Ly
open PySem PySem.Spec PyProof.Rows L2 Evl
def Tm.apps : Tm → List Tm → Tm
  | h, [] => h
  | h, t :: ts => Tm.apps (.app h t) ts
theorem rep_snoc {α : Type} (n : Nat) (x : α) (r : List α) : List.replicate n x ++ x :: r = List.replicate (n + 1) x ++ r := by
  induction n with
  | zero => rfl
  | succ n ih =>
    rw [List.replicate_succ, List.cons_append, ih]
    simp [List.replicate_succ]
theorem Tm.apps_enc : ∀ (ts : List Tm) (h : Tm), (Tm.apps h ts).enc = List.replicate ts.length (V.str "app") ++ (h.enc ++ encs ts)
  | [], h => by simp [Tm.apps, encs]
  | t :: ts, h => by
    show (Tm.apps (.app h t) ts).enc = _
    rw [Tm.apps_enc ts, encs_cons]
    show List.replicate ts.length (V.str "app") ++ (V.str "app" :: (h.enc ++ t.enc) ++ encs ts) = _
    rw [List.cons_append, rep_snoc]
    simp
theorem rep_flat {x : V} : ∀ n : Nat, (List.replicate n [x]).flatten = List.replicate n x
  | 0 => rfl
  | n + 1 => by rw [List.replicate_succ, List.flatten_cons, rep_flat n, List.replicate_succ]; rfl
theorem Tm.lam_enc (n : Nat) (t : Tm) : (Tm.lamN n t).enc = List.replicate n (V.str "lam") ++ t.enc := by rw [Tm.enc_lamN, rep_flat]
section
variable {K : PySem.W.Frag} {H : Hp} {Q : VK} {l : Addr} {xs : List V}
end
end Ly
set_option Elab.async false
set_option linter.all false
set_option maxRecDepth 100000
namespace Ly
open PySem PySem.Spec PyProof.Rows L2 Evl
/-- n abstractions around the head h applied to the terms as -/
def SpineOf (t : Tm) (n : Nat) (h : Tm) (as : List Tm) : Prop := t = Tm.lamN n (Tm.apps h as) ∧ (∀ f a, h ≠ .app f a) ∧ (as = [] → ∀ b, h ≠ .lam b)
section
variable {t h : Tm} {n : Nat} {as : List Tm}
theorem SpineOf.enc (s : SpineOf t n h as) : t.enc = List.replicate n (V.str "lam") ++ (List.replicate as.length (V.str "app") ++ (h.enc ++ encs as)) := by
  rw [s.1, Tm.lam_enc, Tm.apps_enc]
theorem SpineOf.len (s : SpineOf t n h as) : t.enc.length = n + as.length + h.enc.length + (encs as).length := by
  rw [s.enc]
  simp
  omega
theorem SpineOf.drop (s : SpineOf t n h as) : t.enc.drop (n + as.length) = h.enc ++ encs as := by
  rw [s.enc, ← List.append_assoc]
  have e : n + as.length = (List.replicate n (V.str "lam") ++ List.replicate as.length (V.str "app")).length := by simp
  rw [e, List.drop_left]
end
section
variable {K : PySem.W.Frag} {H : Hp} {Q : VK} {p q l m : Addr} {n v : Int} {bs cs : List Addr} {as : List Tm}
end
end Ly
set_option Elab.async false
set_option linter.all false
set_option maxRecDepth 100000
set_option maxHeartbeats 2000000
namespace Ly
open PySem PySem.Spec PyProof.Rows L2 Evl
/-- the place of the head redex -/
def Tm.hd : Tm → Option (List Nat)
  | .var _ => none
  | .lam b => (Tm.hd b).map (98 :: ·)
  | .app f _ => if f.isLam = true then some [] else (Tm.hd f).map (102 :: ·)
section
variable {t h : Tm} {n : Nat} {as : List Tm}
end
/-- what steps at the head redex come to -/
def Tm.hf : Nat → Tm → Nat × Wk
  | 0, t => (0, match t.hd with | none => .done t | _ => .out)
  | k + 1, t => match t.hd with
    | none => (0, .done t)
    | some p => if fitsV (t.step p).enc = false then (1, .large) else ((Tm.hf k (t.step p)).1 + 1, (Tm.hf k (t.step p)).2)
end Ly
set_option Elab.async false
set_option linter.all false
namespace Ly
open PySem PySem.Spec PyProof.Rows L2 Evl
section
variable {X : Cx} {K : PySem.W.Frag}
end
end Ly
set_option Elab.async false
set_option linter.all false
set_option maxRecDepth 100000
set_option maxHeartbeats 2000000
namespace Ly
open PySem PySem.Spec PyProof.Rows L2 Evl
/-- a tuple that stands frozen: its object bears no dict -/
def SqX (H : Hp) (a : Addr) (xs : List V) : Prop := ∃ ob : Obj, H a = some (.frz ob (.tup xs)) ∧ ob.cls = .type "tuple" ∧ ob.dict = none
section
variable {K : PySem.W.Frag} {H H' : Hp} {a b s p : Addr} {xs ys : List V}
theorem SqX.t (h : SqX H a xs) : SqT K H a xs := by
  obtain ⟨ob, h, _⟩ := h
  exact .inl (.inr ⟨ob, h⟩)
theorem SqX.ex (h : SqX H a xs) (e : Ex H H') : SqX H' a xs := by
  obtain ⟨ob, h, c⟩ := h
  exact ⟨ob, e a _ h, c⟩
theorem SqX.fr (h : SqX H a xs) (e : Fr s H H') (hs : H s = some (.lst ys)) : SqX H' a xs := by
  obtain ⟨ob, h, c⟩ := h
  exact ⟨ob, e a _ (fun z => by rw [z, hs] at h; cases h) h, c⟩
theorem SqX.new {o : HO} (h : SqX H a xs) (hp : H p = none) : SqX (upd H p o) a xs := h.ex (Ex.new hp)
end
section
variable {X : Cx}
/-- t + u, the new tuple frozen -/
def rCatF (K : PySem.W.Frag) : R2 := fun x y H Q => ∃ a b xs ys, x = .ref a ∧ y = .ref b ∧ SqT K H a xs ∧ SqT K H b ys ∧ xs.length + ys.length ≤ sizeLine ∧
  (xs = [] → Q (.ref b) H) ∧ (xs ≠ [] → ys = [] → Q (.ref a) H) ∧ (xs ≠ [] → ys ≠ [] → ∀ p ob, H p = none → ob.cls = .type "tuple" → ob.dict = none → Q (.ref p) (upd H p (.frz ob (.tup (xs ++ ys)))))
theorem op_catF : OpR X (binaryOp .Add) (rCatF X.K) := by
  intro pins s σ H x y v u Q I rx ry h
  obtain ⟨a, b, xs, ys, rfl, rfl, ha, hb, hz, q0, q1, q2⟩ := h
  by_cases hx : xs = []
  · subst hx
    cases rx
    cases ry
    obtain ⟨its, r1, p1, _⟩ := I.tuple ha
    obtain ⟨its2, r2, p2, _⟩ := I.tuple hb
    cases r1
    exact cat_tup0 p1 p2 ⟨.ref b, H, I, rfl, q0 rfl⟩
  · cases rx
    cases ry
    obtain ⟨its, r1, p1, _⟩ := I.tuple ha
    obtain ⟨its2, r2, p2, _⟩ := I.tuple hb
    refine HT.cat_tup p1 p2 (fun z => hx (r1.nil_iff.mp z)) (fun z => ⟨.ref a, H, I, rfl, q1 hx (r2.nil_iff.mp z)⟩) (fun z => ?_) (by rw [← r1.length, ← r2.length]; exact hz)
    refine ⟨.ref s.heap.objs.size, _, I.laid (t' := s.toks) (o := .frz { cls := .type "tuple", data := .seq (its ++ its2).toArray } (.tup (xs ++ ys))) (fun b ob q => Heap.get?_push_of_some _ q) (Nat.le_refl _) ?_, rfl, q2 hx (fun w => z (r2.nil_iff.mpr w)) _ _ (I.hok.fresh (Nat.le_refl _)) rfl rfl⟩
    exact ⟨Heap.get?_push_at rfl rfl, by rw [List.length_append]; exact hz, _, r1.append r2, IsTup.new _ _⟩
/-- tuple(xs), frozen -/
def rTupF (K : PySem.W.Frag) : List V → Hp → VK → Prop := fun xs H Q => ∃ p ys, xs = [.ref p] ∧ SqL K H p ys ∧ ∀ l ob, H l = none → ob.cls = .type "tuple" → ob.dict = none → Q (.ref l) (upd H l (.frz ob (.tup ys)))
theorem call_tupleF : CallR X (.type "tuple") (rTupF X.K) := by
  intro pins s σ H xs us Q I r h
  obtain ⟨p, ys, rfl, hq, q⟩ := h
  obtain ⟨u, rfl, rx⟩ := vals1 r
  cases rx
  obtain ⟨its, r', pl, hz⟩ := I.list hq
  have hlen := r'.length
  refine call_tuple_list pl.isList (fun h' kp => ?_) (by simp only [List.size_toArray] <;> omega)
  have I1 : Inv X pins σ H { s with heap := h' } := I.kept (t' := s.toks) kp
  have I2 : Inv X pins σ (upd H h'.objs.size (.frz { cls := .type "tuple", data := .seq its.toArray } (.tup ys))) { s with heap := h'.push { cls := .type "tuple", data := .seq its.toArray } } :=
    I1.laid (t' := s.toks) (fun b o e => Heap.get?_push_of_some _ e) (Nat.le_refl _) ⟨Heap.get?_push_at rfl rfl, hz, its, r', IsTup.new _ _⟩
  exact ⟨.ref h'.objs.size, _, I2, rfl, q _ _ (I1.hok.fresh (Nat.le_refl _)) rfl rfl⟩
/-- t.count(k), a text, among numbers and texts -/
def rTCnt (K : PySem.W.Frag) : V → List V → Hp → VK → Prop := fun x xs H Q => ∃ (p : Addr) (ys : List V) (k : Str), x = .ref p ∧ xs = [.str k] ∧ SqT K H p ys ∧ (∀ y ∈ ys, (∃ i, y = .int i) ∨ ∃ z, y = .str z) ∧ Q (.int ((ys.countP (fun y => decide (y = .str k)) : Nat) : Int)) H
def eqS (k : Str) (v : Value) : Bool := match v with
  | .str n _ => n == k
  | _ => false
theorem eqS_count {k : Str} : ∀ {ys : List V} {us : List Value}, Vals ys us → (∀ y ∈ ys, (∃ i, y = .int i) ∨ ∃ z, y = .str z) → us.countP (eqS k) = ys.countP (fun y => decide (y = .str k))
  | _, _, .nil, _ => rfl
  | y :: ys, u :: us, .cons r t, h => by
    have ih := eqS_count (k := k) t fun y hy => h y (List.mem_cons_of_mem _ hy)
    rw [List.countP_cons, List.countP_cons, ih]
    rcases h y List.mem_cons_self with ⟨i, rfl⟩ | ⟨z, rfl⟩
    · obtain ⟨tk, rfl⟩ := r
      rfl
    · obtain ⟨tk, rfl⟩ := r
      by_cases e : z = k
      · subst e
        simp [eqS]
      · have e1 : (z == k) = false := beq_eq_false_iff_ne.mpr e
        simp [eqS, e]
theorem eqS_at {k : Str} {tk : Tok} {A : Around} {s : Shared} : ∀ {ys : List V} {us : List Value}, Vals ys us → (∀ y ∈ ys, (∃ i, y = .int i) ∨ ∃ z, y = .str z) → ∀ u ∈ us, SeqAt.EqAt A s u (.str k tk) (eqS k u)
  | _, _, .nil, _ => fun u hu => by cases hu
  | y :: ys, u :: us, .cons r t, h => fun v hv => by
    rcases List.mem_cons.mp hv with e | e
    · rw [e]
      rcases h y List.mem_cons_self with ⟨i, rfl⟩ | ⟨z, rfl⟩
      · obtain ⟨tk, rfl⟩ := r
        exact SeqAt.EqAt.int_str _ _ _ _
      · obtain ⟨tk, rfl⟩ := r
        exact SeqAt.EqAt.str_str _ _ _ _
    · exact eqS_at t (fun y hy => h y (List.mem_cons_of_mem _ hy)) v e
theorem mt_tcount : MtR X "tuple.count" (rTCnt X.K) := by
  intro pins s σ H x xs v us Q I rx rxs h
  obtain ⟨p, ys, k, rfl, rfl, hs, hn, q⟩ := h
  cases rx
  obtain ⟨u, rfl, ru⟩ := rxs.one
  obtain ⟨t, rfl⟩ := ru
  obtain ⟨its, rv, ⟨⟨cls, dd, data, sl⟩, ho, hc, n, hd⟩, hlen⟩ := I.tuple hs
  simp only at hc hd
  subst hc hd
  refine call_meets PySem.F.slot_tuple_count ⟨_, ho, rfl⟩ PySem.F.entry_tuple_count (PySem.F.args_tuple_count_2 _ _)
    (SeqAt.tuple_countAt p its.toArray n dd sl (.str k t) (eqS k)) ⟨ho, fun y hy => eqS_at rv hn y (by simpa using hy), ?_⟩
  have ec := eqS_count (k := k) rv hn
  refine ⟨.int ((ys.countP (fun y => decide (y = .str k)) : Nat) : Int), H, I.tok _, ⟨s.toks, ?_⟩, q⟩
  show Value.int ((its.toArray.toList.countP (eqS k) : Nat) : Int) s.toks = Value.int _ s.toks
  rw [show its.toArray.toList = its from rfl, ec]
/-- o.m(e ..), o a frozen tuple -/
def tBMX (r : V → List V → Hp → VK → Prop) (to : TE) (t : TA) : TE := fun σ H Q => to σ H fun x H1 => (∃ p xs, x = .ref p ∧ SqX H1 p xs) ∧ t σ H1 fun xs H2 => r x xs H2 Q
variable {o e : Expr} {es : List Expr} {to : TE} {t : TA} {name : Str} {apos cpos : Pos} {id : String} {r : V → List V → Hp → VK → Prop}
theorem pe_bmX (pa : PlainAttrs "tuple") (slot : Slot "tuple" name id) (hty : typeOf (.builtin id) = pure (.type "method_descriptor")) (hm : MtR X id r) (ho : PE X o to) (ha : PA X (e :: es) t)
    (hbase : attributeBase o name X.env (eval o X.env) = eval o X.env := by rfl)
    (hfew : ((backTo cpos (starEach (e :: es) X.env)).all (fun x => !x.1) && (backToKw cpos (keywordEach [] X.env)).all (fun x => x.1.isSome)
      && decide ((e :: es).length + ([] : List Keyword).length + (if ([] : List Keyword).isEmpty then 0 else 1) < 30)) = true := by rfl)
    (hline : (apos.endLine == cpos.line) = true := by rfl) (hs : starEach (e :: es) X.env = (false, eval e X.env) :: starEach es X.env := by rfl) (hplain : (backTo cpos (starEach es X.env)).any (·.1) = false := by rfl) :
    PE X (.Call (.Attribute o name apos) (e :: es) [] cpos) (tBMX r to t) := by
  refine ⟨fun pins s σ H Q I h => ?_⟩
  refine wpAny_Call_method_late hbase hfew hline rfl (thn (ho.run pins s σ H _ I h) fun v s1 ⟨x, H1, I1, r1, ⟨p, xs, ex, ob, hp, hc, hd⟩, q1⟩ => ?_)
  subst ex
  obtain rfl : v = Value.ref p := r1
  have hob : s1.heap.get? p = some ob := (I1.hok p _ hp).1
  refine ⟨"tuple", id, pa, slot, hty, ⟨ob, hob, hc⟩, fun a e => ?_, ?_⟩
  · cases e
    exact ⟨ob, hob, hd⟩
  have hA := ha.run cpos pins s1 σ H1 _ I1 q1
  rw [hs] at hA ⊢
  refine Calls.callWith_builtin (by show (false || (backTo cpos (starEach es X.env)).any (·.1)) = false; rw [hplain] <;> rfl) (Calls.evalArgs_plain ?_)
  exact thn hA fun us s2 ⟨vs, H2, I2, r2, q2⟩ => hm pins s2 σ H2 (.ref p) vs (.ref p) us Q I2 rfl r2 q2
end
section
variable {K : PySem.W.Frag} {σ : L2.St} {H : Hp} {Q : VK} {to : TE} {tA : TA} {a b : Addr} {xs ys : List V}
theorem w_bmX {r : V → List V → Hp → VK → Prop} (h : to σ H fun x H1 => (∃ p xs, x = .ref p ∧ SqX H1 p xs) ∧ tA σ H1 fun xs H2 => r x xs H2 Q) : tBMX r to tA σ H Q := h
theorem w_bmX1 {B : Prop} (h : SqX H a xs) (q : B) : (∃ p ys, V.ref a = .ref p ∧ SqX H p ys) ∧ B := ⟨⟨a, xs, rfl, h⟩, q⟩
theorem w_tcnt {k : Str} (h : SqT K H a xs) (n : Nds xs) (q : Q (.int ((xs.countP (fun y => decide (y = .str k)) : Nat) : Int)) H) : rTCnt K (.ref a) [.str k] H Q :=
  ⟨a, xs, k, rfl, rfl, h, fun y hy => by
    rcases n y hy with h | h | h
    · exact .inl h
    · exact .inr ⟨_, h⟩
    · exact .inr ⟨_, h⟩, q⟩
theorem w_catF (h : SqT K H a xs) (h2 : SqT K H b ys) (nx : xs ≠ []) (ny : ys ≠ []) (z : xs.length + ys.length ≤ sizeLine) (q : ∀ p H', Ex H H' → SqX H' p (xs ++ ys) → Q (.ref p) H') : rCatF K (.ref a) (.ref b) H Q :=
  ⟨a, b, xs, ys, rfl, rfl, h, h2, z, fun e => (nx e).elim, fun _ e => (ny e).elim, fun _ _ p ob hp c d => q p _ (Ex.new hp) ⟨ob, upd_same, c, d⟩⟩
theorem w_tupF (h : SqL K H a xs) (q : ∀ p H', Ex H H' → H p = none → SqX H' p xs → Q (.ref p) H') : rTupF K [.ref a] H Q := ⟨a, xs, rfl, h, fun l ob hl c d => q l _ (Ex.new hl) hl ⟨ob, upd_same, c, d⟩⟩
end
end Ly
set_option Elab.async false
set_option linter.all false
set_option maxRecDepth 100000
set_option maxHeartbeats 2000000
namespace Ly
open PySem PySem.Spec PyProof.Rows L2 Evl
/-- what the element says of a sign c, while the module's names are as mg has them -/
def EltM (pr : Program) (w : World) (sc : Scope) (x : Str) (el : Expr) (mg : Str → Option Value) (pb : Nat → Bool) : Prop :=
  ∀ (e : Env) (A : Around) (X : Value → Shared → Prop) (c : Nat) (t : Tok) (z : Shared) (m : Str → Option Value), e.scope = sc → e.globals = mainGlobals →
    z.heap.Ns mainGlobals mg → z.heap.Ns e.locals m → m x = some (.str ⟨#[c]⟩ t) → wpAny (model pr w) A (eval el e) (fun y z' => y = .bool (pb c) ∧ Keeps z z') X z
theorem eltM_in {pr : Program} {w : World} {sc : Scope} {x nm : Str} {mg : Str → Option Value} {d : Str} {u : Tok} {q1 q2 q3 : Pos} (kd : sc.kind = .function) (lx : sc.names.lookup x = some .local)
    (ln : sc.names.lookup nm = some .globalImplicit) (hm : mg nm = some (.str d u)) (d1 : (x == ("__debug__" : Str)) = false := by decide) (d2 : (nm == ("__debug__" : Str)) = false := by decide) :
    EltM pr w sc x (.Compare (.Name x q1) [.In] [.Name nm q2] q3) mg (fun c => decide (c ∈ d.cps.toList)) := by
  intro e A X c t z m es eg hG hL hx
  apply wpAny_Compare1 (hm := by rfl)
  apply wpAny_Name _ d1
  apply wpAny_loadName_local (by rw [es]; exact kd) (show e.scope.names.lookup x = some .local by rw [es]; exact lx) hL hx
  apply Calls.Name_function_global (by rw [es]; exact kd) (show e.scope.names.lookup nm = _ by rw [es]; exact ln) _ d2
  apply Calls.loadGlobal_global (by rw [eg]; exact hG) hm
  apply PyProof.Rows.in_str
  exact ⟨congrArg Value.bool (PySem.StrLaws.found_one d c), ⟨z.heap, _, rfl, fun _ _ h => h⟩⟩
section
open GxR
variable {X : Cx} {pins : List (Addr × Obj)} {σ : L2.St} {H : Hp} {s : Shared}
/-- behind the walk: the def's table may have grown -/
def GoneBy (X : Cx) (pins : List (Addr × Obj)) (σ : L2.St) (H1 : Hp) (P : Addr) (a : Str) (pb : Nat → Bool) (g : Addr) (z : Shared) : Prop := Ready X pins σ H1 P a pb g z
theorem gen_textM {c P : Addr} {el it : Expr} {x : Str} {px gp : Pos} {sc : Scope} {pb : Nat → Bool} {te : TE} {k : Nat} {Fin : Value → Shared → Prop} {R : Str → Hp → Prop}
    (room : Room k X.A) (TB : TabB X.base X.mg c P) (hc : X.env.code = .ref c) (S : GenS X.env sc x) (hi : PE X it te) (hel : EltM X.prog X.w sc x el X.mg pb) (fold : ∀ v, genFold it X.env v = pure v)
    (I : Inv X pins σ H s) (walk : te σ H fun v H1 => ∃ a : Str, v = .str a ∧ TabG H1 P ∧ R a H1) (fin : ∀ a H1 g z, R a H1 → GoneBy X pins σ H1 P a pb g z → Fin (.ref g) z) :
    wpAny (model X.prog X.w) X.A (eval (.GeneratorExp el [⟨.Name x px, it, [], 0⟩] sc gp) X.env) Fin X.xe s := by
  have dp : X.A.depth < recursionLimit := by have := room.dp; omega
  apply wpAny_GeneratorExp_walksQ room.hd S.co (closure_ok S.free) S.cell S.dot S.loc S.kind dp _ fold
  refine thn (hi.run pins s σ H _ I walk) ?_
  rintro v zA ⟨_, HA, IA, rel, a, rfl, ⟨ps, tabH, trip⟩, hR⟩
  obtain ⟨tok, rfl⟩ : ∃ tok, v = Value.str a tok := rel
  apply wpAny_pyIter_str
  intro ob Sg walks start
  have tabA : zA.heap.get? P = some { cls := .none, data := .fields ps } := IA.hok P _ tabH
  have ltP : P < zA.heap.objs.size := Heap.lt_size tabA
  have keepB : ∀ {b : Addr} {u : Obj}, zA.heap.get? b = some u → (zA.heap.push ob).get? b = some u := fun e => Heap.get?_push_of_some _ e
  have szB : (zA.heap.push ob).objs.size = zA.heap.objs.size + 1 := Heap.size_push ..
  have head : PySem.W.CodeHd (zA.heap.push ob) c P := TB.code.keeps fun b u e => keepB (IA.bk b u e)
  have nol := IA.nolimit.push ob
  obtain ⟨mcs, nsS, _⟩ := IA.nolimit
  have csP : cStatics ≠ P := fun z => by
    obtain ⟨oS, eS, pS, atS, dS, _⟩ := nsS
    rw [z, tabA] at atS
    cases atS
    cases dS
  have csLt : cStatics < zA.heap.objs.size := nsS.lt
  have nsG : zA.heap.Ns mainGlobals X.mg := IA.mod.glob.keeps IA.bk
  have mgLt : mainGlobals < zA.heap.objs.size := nsG.lt
  obtain ⟨bm, bo, b1, b2, b3, b4, b5, b6, b7, b8⟩ := TB.bm
  -- whatever code object it gets: the table at P may grow, nothing else changes
  suffices rest : ∀ (code : Value) (hC : Heap) (tk : Nat) (qs : Array Value), Heap.ExtBut P (zA.heap.push ob) hC → (zA.heap.push ob).objs.size ≤ hC.objs.size →
      hC.get? P = some { cls := .none, data := .fields (ps ++ qs) } → TriplesOk (ps ++ qs).toList →
      wpAny (model X.prog X.w) X.A (builtinsFor X.env.globals X.env.builtins) _ X.xe { zA with heap := hC, toks := tk } by
    refine ⟨nol, ?_⟩
    have tabB := keepB tabA
    cases found : codeAmong gp ps.toList with
    | some cv =>
      apply wpAny_genexprCode_hit hc (head.code tabB trip) found
      have := rest cv (zA.heap.push ob) zA.toks #[] (Heap.ExtBut.refl _ _) (Nat.le_refl _) (by simpa using tabB) (by simpa using trip)
      exact this
    | none =>
      apply wpAny_genexprCodeX hc (head.code tabB trip) (head.tab tabB) found
      intro c9 hC tk ext ge lt co _ tab _
      obtain ⟨_, _, _, _, _, _, _, _, _, _, _, _, _, _, _, _, _, _, _, tr, _⟩ := co
      exact rest _ hC tk _ ext (Nat.le_trans ge (Nat.le_of_lt lt)) tab.2 tr
  intro code hC tk qs ext szC tabC tripC
  have keepC : ∀ {b : Addr} {u : Obj}, b ≠ P → zA.heap.get? b = some u → hC.get? b = some u := fun n e => ext _ _ n (keepB e)
  have nsC : hC.Ns mainGlobals X.mg := (nsG.push ob).extBut ext TB.gP
  apply wpAny_builtinsFor (m := X.mg) (by rw [IA.ok.glob]; exact nsC) b1 b2 (keepC b4 (IA.bk _ _ b5)) b6 b7 b8
  have only : ∀ {b : Addr}, b ∈ [zA.heap.objs.size] → b = zA.heap.objs.size := fun hb => List.mem_singleton.mp hb
  refine ⟨zA.heap.objs.size, [zA.heap.objs.size], [zA.heap.objs.size], a.cps.size, SignAt a, Sg, fun _ => true, fun j y => ∃ n, a.cps[j]? = some n ∧ y = .bool (pb n), rfl, walks, ?_, ?_, nol.extBut ext csP, fun hb => ?_, ?_, ?_⟩
  · apply (walks X.A room.hd).frame _ _ _ start
    intro b hb u e
    exact ext b u (by rw [only hb]; exact (Nat.ne_of_lt ltP).symm) e
  · intro b hb
    rw [only hb]
    show zA.heap.objs.size < hC.objs.size
    omega
  · rw [only hb] at csLt
    exact Nat.lt_irrefl _ csLt
  · intro hr keepR
    constructor
    · intro A' E' i v z m _ _ _ _ _
      rw [List.forIn_nil]
      exact wpAny_pure ⟨rfl, ⟨z.heap, z.toks, rfl, fun _ _ h => h⟩⟩
    · intro A' E' i v z m _ at_ _ hL hx same
      obtain ⟨n, u, hn, rfl⟩ := at_
      have nsZ : z.heap.Ns mainGlobals X.mg := by
        obtain ⟨og, es, ep, eg, dg, rg⟩ := nsC
        refine ⟨og, es, ep, same mainGlobals (List.mem_range.mpr (Nat.lt_of_lt_of_le (show mainGlobals < (zA.heap.push ob).objs.size by rw [szB]; exact Nat.lt_succ_of_lt mgLt) szC)) (fun hb => ?_) og (keepR _ _ eg), dg, rg⟩
        rw [only hb] at mgLt
        exact Nat.lt_irrefl _ mgLt
      refine wpAny_mono (hel _ A' E' n u z m rfl IA.ok.glob nsZ hL hx) ?_ fun _ _ e => e
      rintro y z' ⟨e1, e2⟩
      exact ⟨⟨n, hn, e1⟩, e2⟩
  · intro g h5 tk5 gs bare lt5 sz5 keep5 W5 at5
    rw [GxR.passing_true, List.length_range] at W5
    apply fin a HA g _ hR
    refine ⟨_, _, _, _, _, W5.in4_1, at5, ?_, ?_⟩
    · rintro j y zj Qj Ej ⟨i, hi, n, hn, rfl⟩ hQ
      obtain ⟨_, ei⟩ := List.getElem?_eq_some_iff.mp hi
      rw [List.getElem_range] at ei
      subst ei
      have hn' : a.cps.toList[j]? = some n := by rw [Array.getElem?_toList]; exact hn
      have hQ' : Qj (trF pb a.cps.toList j) zj := hQ
      rw [trF_some hn'] at hQ'
      exact wpAny_truthy_bool hQ'
    · intro z mv
      have out : ∀ {b : Addr} {u : Obj}, zA.heap.get? b = some u → b ∉ hC.objs.size :: [zA.heap.objs.size] := fun e hb => by
        have lb := Heap.lt_size e
        rcases List.mem_cons.mp hb with e1 | e1
        · rw [e1] at lb
          have : (hC.objs.size : Nat) < zA.heap.objs.size := lb
          omega
        · rw [only e1] at lb
          exact Nat.lt_irrefl _ lb
      have J := inv_tab (more := qs) (h' := z.heap) (g' := z.gens) (d' := z.drawn) (t' := z.toks) IA tabH
        (fun b u nb e => mv.heap b u (out e) (keep5 b u (keepC nb e))) (mv.heap P _ (out tabA) (keep5 P _ tabC)) (AllBare.movedS (IA.bare.push bare) mv)
      rw [sh_eta zA z mv.os] at J
      exact ⟨upd HA P (.tbl (ps ++ qs)), ⟨⟨ps ++ qs, upd_same, tripC⟩, fun b nb => upd_ne nb⟩, J⟩
theorem pe_allM {c P : Addr} {el it : Expr} {x : Str} {px p pos gp : Pos} {sc : Scope} {pb : Nat → Bool} {te : TE} {k : Nat}
    (room : Room k X.A) (hg : Gl X "all") (hm : X.mg "all" = none) (hb : bootBuiltins "all" = some (.builtin "all")) (TB : TabB X.base X.mg c P) (hc : X.env.code = .ref c) (S : GenS X.env sc x) (hi : PE X it te)
    (hel : EltM X.prog X.w sc x el X.mg pb) (fold : ∀ v, genFold it X.env v = pure v)
    (one : starEach [.GeneratorExp el [⟨.Name x px, it, [], 0⟩] sc gp] X.env = (false, eval (.GeneratorExp el [⟨.Name x px, it, [], 0⟩] sc gp) X.env) :: starEach [] X.env := by rfl) :
    PE X (.Call (.Name "all" p) [.GeneratorExp el [⟨.Name x px, it, [], 0⟩] sc gp] [] pos) (tAllS P pb te) := by
  constructor
  intro pins z σ H Q I h
  apply wpAny_Call_Name_kw
  apply ld_blt I hg hm hb
  apply PyProof.Rows.callWith_builtin1 _ one (by rfl)
  rw [one]
  change wpAny _ _ (spliced ((false, eval (.GeneratorExp el [⟨.Name x px, it, [], 0⟩] sc gp) X.env) :: backTo pos (starEach [] X.env))) _ _ z
  apply Calls.spliced_cons
  refine gen_textM (R := fun a H1 => ∀ H2, Tabbed P H1 H2 → Q (.bl (a.cps.toList.all pb)) H2) room TB hc S hi hel fold I h ?_
  rintro a H1 g s5 go ⟨fp, wr, G, F, St, W, st, tr, after⟩
  apply Calls.spliced_nil
  apply call_all_walkS
  apply W.self 0 _ _ _ st
  refine ⟨g, fp, wr, G, _, F, St, _, rfl, W, st, tr, fun s' mv => ?_⟩
  obtain ⟨H2, T2, J⟩ := after s' mv
  refine ⟨.bl _, H2, J, rfl, ?_⟩
  rw [all_signs a pb]
  exact go H2 T2
end
end Ly
namespace Ly
open PySem PySem.Spec PyProof.Rows L2 Evl
section
variable {P : Program} {w : World} {K : PySem.W.Frag} {mg : Str → Option Value} {base : Heap}
/-- a def whose code object is known to its body -/
theorem okC {x qual : Str} {st : Stmt} {f : Addr} {fd : FuncData} {N ps : List Str} {k : Nat} {sp : Sp} (F : Fun K x qual st f fd) (S : FnScope N ps (defScope st)) (len : ∀ vs H Q E, sp vs H Q E → vs.length = ps.length)
    (body : ∀ (cdv : Value) (A : Around) (outer : List Env) (s : Shared) (H : Hp) (vs : List V) (Q : VK) (E : XK), fd.code = cdv → Room k (A.deeper (envOfC qual (defScope st) s.heap.objs.size f cdv)) → sp vs H Q E →
      ∃ t, PSs (cxOf CX0 P w K mg base N qual (defScope st) f cdv A outer s H E).nox (defBody st) t ∧ t { nx := fun _ H' => Q .non H', rt := Q } (start N vs) H) : FnOk P w K mg base CX0 (k + 1) f fd ps sp := by
  obtain ⟨oc, od, kV, doc, pm, an, cdv, ct, osl, rfl, lk, hcd⟩ := F.ex
  apply fn_of lk hcd S len
  intro A outer s H vs Q E hr hsp
  obtain ⟨t, h, q⟩ := body cdv A outer s H vs Q E rfl hr hsp
  exact ⟨t, h.nox, q⟩
end
theorem gen_s {env : Env} {sc : Scope} {x : Str} (h1 : sc.kind = .function) (h2 : sc.isCoroutine = false) (h3 : ∀ y ∈ sc.names, y.2 ≠ .cell) (h4 : sc.names.lookup (".0" : Str) = some NameKind.local) (h5 : sc.names.lookup x = some .local)
    (h6 : ∀ y ∈ sc.names, y.2 ≠ .free) : GxR.GenS env sc x := ⟨h1, h2, h3, h4, h5, fun y hy e => absurd e (h6 y hy)⟩
/-- the table at P stands, what else is known is kept -/
def Tb (P : Addr) (H H' : Hp) : Prop := GxR.TabG H' P ∧ Fr P H H'
theorem Tb.refl {P : Addr} {H : Hp} (h : GxR.TabG H P) : Tb P H H := ⟨h, Fr.refl P H⟩
theorem Tb.trans {P : Addr} {H H1 H2 : Hp} (a : Tb P H H1) (b : Tb P H1 H2) : Tb P H H2 := ⟨b.1, a.2.trans b.2⟩
theorem Tb.of {P : Addr} {H H' : Hp} (h : GxR.Tabbed P H H') : Tb P H H' := ⟨h.1, fun a o n e => by rw [h.2 a n]; exact e⟩
theorem Tb.ex {P : Addr} {H H' : Hp} (h : GxR.TabG H P) (e : Ex H H') : Tb P H H' := by
  obtain ⟨ps, h1, h2⟩ := h
  exact ⟨⟨ps, e _ _ h1, h2⟩, Fr.ex e⟩
theorem Tb.mut {P p : Addr} {H H' : Hp} {o : HO} (t : GxR.TabG H P) (b : Tb P H H') (h : H p = none) : Tb P H (upd H' p o) := by
  obtain ⟨⟨ps, h1, h2⟩, fr⟩ := b
  have ne : P ≠ p := fun z => by
    obtain ⟨qs, e, _⟩ := t
    rw [z, h] at e
    cases e
  refine ⟨⟨ps, by rw [upd_ne ne]; exact h1, h2⟩, fun x u n e => ?_⟩
  have nx : x ≠ p := fun z => by rw [z, h] at e; cases e
  rw [upd_ne nx]
  exact fr x u n e
theorem Tb.free {P p : Addr} {H H' : Hp} (b : Tb P H H') (h : H' p = none) : H p = none := by
  cases e : H p with
  | none => rfl
  | some o =>
    by_cases ne : p = P
    · obtain ⟨ps, h1, _⟩ := b.1
      rw [ne, h1] at h
      cases h
    · rw [b.2 p o ne e] at h
      cases h
theorem Tb.own {P s : Addr} {H H1 H2 : Hp} {xs : List V} (b : Tb P H H1) (f : Fr s H1 H2) (hs : H s = none) (hl : H1 s = some (.lst xs)) : Tb P H H2 := by
  obtain ⟨⟨ps, h1, h2⟩, fr⟩ := b
  have ne : P ≠ s := fun z => by rw [z, hl] at h1; cases h1
  refine ⟨⟨ps, f P _ ne h1, h2⟩, fun a o n e => ?_⟩
  have na : a ≠ s := fun z => by rw [z, hs] at e; cases e
  exact f a o na (fr a o n e)
theorem tab_fr {P s : Addr} {H H' : Hp} {xs : List V} (t : GxR.TabG H P) (f : Fr s H H') (hl : H s = some (.lst xs)) : GxR.TabG H' P := by
  obtain ⟨ps, h1, h2⟩ := t
  have ne : P ≠ s := fun z => by rw [z, hl] at h1; cases h1
  exact ⟨ps, f P _ ne h1, h2⟩
theorem tab_ex {P : Addr} {H H' : Hp} (t : GxR.TabG H P) (e : Ex H H') : GxR.TabG H' P := (Tb.ex t e).1
theorem tab_up {P p : Addr} {H : Hp} {xs : List V} {o : HO} (t : GxR.TabG H P) (hl : H p = some (.lst xs)) : GxR.TabG (upd H p o) P := by
  obtain ⟨ps, h1, h2⟩ := t
  have ne : P ≠ p := fun z => by rw [z, hl] at h1; cases h1
  exact ⟨ps, by rw [upd_ne ne]; exact h1, h2⟩
theorem tab_ne {P a : Addr} {H : Hp} {o : HO} (h : GxR.TabG H P) (e : H a = some o) (n : ∀ q, o ≠ .tbl q) : a ≠ P := fun z => by
  obtain ⟨ps, h1, _⟩ := h
  rw [z, h1] at e
  exact n ps (Option.some.inj e).symm
theorem Tb.at {P a : Addr} {H H' : Hp} {o : HO} (b : Tb P H H') (t : GxR.TabG H P) (e : H a = some o) (n : ∀ q, o ≠ .tbl q) : H' a = some o := b.2 a o (tab_ne t e n) e
theorem Tb.lst {P a : Addr} {H H' : Hp} {xs : List V} (b : Tb P H H') (t : GxR.TabG H P) (e : H a = some (.lst xs)) : H' a = some (.lst xs) := b.at t e fun q z => nomatch z
theorem Tb.dk {P a : Addr} {H H' : Hp} {kvs : List (L2.Key × V)} (b : Tb P H H') (t : GxR.TabG H P) (e : H a = some (.dK kvs)) : H' a = some (.dK kvs) := b.at t e fun q z => nomatch z
theorem Tb.sl {K : PySem.W.Frag} {P a : Addr} {H H' : Hp} {xs : List V} (b : Tb P H H') (t : GxR.TabG H P) (h : SqL K H a xs) : SqL K H' a xs := by
  rcases h with (h | ⟨ob, h⟩) | h
  · exact .inl (.inl (b.at t h fun q z => nomatch z))
  · exact .inl (.inr ⟨ob, b.at t h fun q z => nomatch z⟩)
  · exact .inr h
theorem w_allS {P : Addr} {pb : Nat → Bool} {te : TE} {σ : L2.St} {H : Hp} {Q : VK} (h : te σ H fun v H1 => ∃ a : Str, v = .str a ∧ GxR.TabG H1 P ∧ ∀ H2, GxR.Tabbed P H1 H2 → Q (.bl (a.cps.toList.all pb)) H2) : GxR.tAllS P pb te σ H Q := h
/-- the end of a law in whose program a def holds a generator expression -/
theorem walk_tab {l : PySem.W.OpenLaw} {n k : Nat} {q : Program} {loose : List Str} {XP : (Str → Option Value) → Heap → Prop} {YP : World → Heap → Prop} {d : DefRec} {K : Params → PySem.W.Frag} {CX : World → CXT} {x : Str}
    (most : l.most = some n) (fits : n ≤ sizeLine) (nodef : d.params.defaults = []) (room : Room k callerA) (inK : ∀ (w : World) (h : Heap), YP w h → (K w.params).In h)
    (F : ∀ (w : World) (mg : Str → Option Value) (fa : Addr) (h : Heap), (K w.params).In h → h.Ns mainGlobals mg → mg d.name = some (.ref fa) →
      (∀ (y : Str) (c P : Addr) (r : DefRec), (recsOf q).find? (fun e => e.name == y) = some r → PySem.W.tabIn (K w.params) y = some (c, P) → PySem.W.CodeHd h c P ∧ h.get? P = some { cls := .none, data := .fields #[] }) →
      LamX.LawAtS l w (K w.params) (CX w) k n x mg fa h)
    (ends : ∀ (w : World) (H : Hp) (s : Shared) (e : Value) (s' : Shared), CX w [] H s (fun _ _ _ => False) e s' → False) :
    PySem.W.WalkO q loose XP YP l.row.toRowW d [] (fun f vs => PySem.call f vs) := by
  apply Att.attach_callB most nodef
  intro w s0 s1 mg mb fa o pm cd doc a vs ns G Y ho hd hcd hmg hobj hints hlen hbits hg
  have ik := inK w _ Y
  have at_ := F w mg fa _ ik G.T.g hmg fun y c P r e1 e2 => PySem.W.tab_of G.T ik e1 e2
  obtain ⟨fd, cs, sp, t1, t2, t3, bind, pre, run⟩ := at_
  apply LamX.law_callTs ik G.T.g G.T.b G.T.builtins G.T.nolimit hg t1 t2 t3 G.T.bmain hobj hints _ room run bind
  · intro H tH sH
    exact pre H a ns hlen hbits tH sH
  · intro H e s'
    exact ends w H s1 e s'
  · exact Nat.le_trans hlen fits
end Ly
set_option Elab.async false
set_option linter.all false
set_option maxRecDepth 100000
set_option maxHeartbeats 2000000
namespace PySem
open W
section
variable {prog : Program} {w : World} {A : Around} {E : Value → Shared → Prop} {s : Shared} {z TI TO i1 i2 : Addr} {fp1 fp2 : List Addr} {n1 n2 i : Nat} {P1 P2 : Nat → Value → Prop} {St1 St2 : Nat → Heap → Prop}
theorem zipD2_held_item {T : Addr} {f : Bool} {oT : Obj} {Q : Value → Shared → Prop} (S : ZipSep2 z TI TO i1 i2 fp1 fp2) (D1 : Draws prog w A i1 fp1 n1 P1 St1) (D2 : Draws prog w A i2 fp2 n2 P2 St2)
    (hz : IsZipHeld s.heap z TI TO T f) (hT : s.heap.get? T = some oT) (hTI : IsTupOf2 s.heap TI (.ref i1) (.ref i2)) (st1 : St1 i s.heap) (st2 : St2 i s.heap) (hlt1 : i < n1) (hlt2 : i < n2)
    (hQ : ∀ x1 x2 h' tk, P1 i x1 → P2 i x2 → IsZipHeld h' z TI TO T true → St1 (i + 1) h' → St2 (i + 1) h' → IsTupOf2 h' s.heap.objs.size x1 x2 → h'.objs.size = s.heap.objs.size + 1 →
      (∀ c o, c ≠ z → c ≠ i1 → c ≠ i2 → s.heap.get? c = some o → h'.get? c = some o) → Q (.ref s.heap.objs.size) { s with heap := h', toks := tk }) :
    wpAny (model prog w) A (Builtin.«zip.__next__» ⟨[.ref z], []⟩) (fun fin s' => ∃ v, fin = .done (.ret v) ∧ Q v s') E s := by
  obtain ⟨hp, g, d, tk0, os⟩ := s
  show wpAny _ _ (field (.ref z) 2 >>= _) _ _ _
  refine wpAny_bind (wpAny_field hz rfl (x := .bool false) rfl ?_)
  show wpAny _ _ (field (.ref z) 3 >>= _) _ _ _
  refine wpAny_bind (wpAny_field hz rfl (x := .ref TI) rfl ?_)
  refine wpAny_bind (wpAny_seqItems hTI rfl ?_)
  show wpAny _ _ (Builtin.SmallTypes.ownedTupleIsFree (.ref z) >>= _) _ _ _
  refine wpAny_bind (wpAny_tupleHeld_zip hz hT fun g0 hz0 hs0 => ?_)
  replace hs0 : Heap.SameBut z hp g0 := hs0
  simp only [Bool.false_eq_true, if_false]
  refine wpAny_bind ?_
  rw [← Array.forIn_toList]
  simp only [List.forIn_cons, List.forIn_nil]
  refine wpAny_bind (wpAny_bind (wpAny_holding ?_))
  show wpAny _ _ (Builtin.SmallTypes.nextOf (.ref i1) >>= _) _ _ ⟨g0, g, d, tk0, os⟩
  refine wpAny_bind (D1.item i _ _ _ hlt1 (D1.over st1 hs0 S.zf1) fun x1 p1 tk1 hx1 sn1 hp1 => wpAny_pure ?_)
  replace hp1 : Heap.SameBut i1 g0 p1 := hp1
  refine wpAny_pure ?_
  refine wpAny_bind (wpAny_bind (wpAny_holding ?_))
  show wpAny _ _ (Builtin.SmallTypes.nextOf (.ref i2) >>= _) _ _ ⟨p1, g, d, tk1, os⟩
  refine wpAny_bind (D2.item i _ _ _ hlt2 (D2.over (D2.over st2 hs0 S.zf2) hp1 S.sep1_2) fun x2 p2 tk2 hx2 sn2 hp2 => wpAny_pure ?_)
  replace hp2 : Heap.SameBut i2 p1 p2 := hp2
  refine wpAny_pure (wpAny_pure ?_)
  show wpAny _ _ (newTuple [x1, x2] >>= _) _ _ ⟨p2, g, d, tk2, os⟩
  refine wpAny_bind (wpAny_newTuple ?_)
  have hsz : p2.objs.size = hp.objs.size := by rw [hp2.1, hp1.1, hs0.1]
  have hz3 : IsZipHeld p2 z TI TO T true := hp2.extBut _ _ S.zi2 (hp1.extBut _ _ S.zi1 hz0)
  have hk : ∀ c o, c ≠ z → c ≠ i1 → c ≠ i2 → hp.get? c = some o → p2.get? c = some o := fun c o c1 c2 c3 e => hp2.extBut _ _ c3 (hp1.extBut _ _ c2 (hs0.extBut _ _ c1 e))
  have hj1 : St1 (i + 1) p2 := D1.over sn1 hp2 S.sep2_1
  refine wpAny_pure ⟨_, rfl, ?_⟩
  show Q (.ref p2.objs.size) _
  have hp3 : IsTupOf2 (p2.push { cls := .type "tuple", data := .seq #[x1, x2] }) p2.objs.size x1 x2 := Heap.get?_push_size _ rfl
  have hz4 : (p2.push { cls := .type "tuple", data := .seq #[x1, x2] }).objs.size = p2.objs.size + 1 := Heap.size_push ..
  rw [hsz] at hp3 hz4 ⊢
  exact hQ x1 x2 _ tk2 hx1 hx2 (Heap.get?_push_of_some _ hz3) (D1.frame _ _ _ hj1 fun b _ o e => Heap.get?_push_of_some _ e) (D2.frame _ _ _ sn2 fun b _ o e => Heap.get?_push_of_some _ e) hp3 hz4 fun c o c1 c2 c3 e => Heap.get?_push_of_some _ (hk c o c1 c2 c3 e)
theorem zipD2_held_end {T : Addr} {f : Bool} {oT : Obj} {Q : Fin → Shared → Prop} (S : ZipSep2 z TI TO i1 i2 fp1 fp2) (D1 : Draws prog w A i1 fp1 n1 P1 St1)
    (hz : IsZipHeld s.heap z TI TO T f) (hT : s.heap.get? T = some oT) (hTI : IsTupOf2 s.heap TI (.ref i1) (.ref i2)) (st1 : St1 n1 s.heap)
    (hE : ∀ h' e, (∀ c o, c ≠ z → c ≠ i1 → s.heap.get? c = some o → h'.get? c = some o) → (∃ o, h'.get? e = some o ∧ o.cls = .type "StopIteration") → E (.ref e) { s with heap := h' }) :
    wpAny (model prog w) A (Builtin.«zip.__next__» ⟨[.ref z], []⟩) Q E s := by
  obtain ⟨hp, g, d, tk0, os⟩ := s
  show wpAny _ _ (field (.ref z) 2 >>= _) _ _ _
  refine wpAny_bind (wpAny_field hz rfl (x := .bool false) rfl ?_)
  show wpAny _ _ (field (.ref z) 3 >>= _) _ _ _
  refine wpAny_bind (wpAny_field hz rfl (x := .ref TI) rfl ?_)
  refine wpAny_bind (wpAny_seqItems hTI rfl ?_)
  show wpAny _ _ (Builtin.SmallTypes.ownedTupleIsFree (.ref z) >>= _) _ _ _
  refine wpAny_bind (wpAny_tupleHeld_zip hz hT fun g0 hz0 hs0 => ?_)
  replace hs0 : Heap.SameBut z hp g0 := hs0
  simp only [Bool.false_eq_true, if_false]
  refine wpAny_bind ?_
  rw [← Array.forIn_toList]
  simp only [List.forIn_cons, List.forIn_nil]
  refine wpAny_bind (wpAny_bind (wpAny_holding ?_))
  show wpAny _ _ (Builtin.SmallTypes.nextOf (.ref i1) >>= _) _ _ ⟨g0, g, d, tk0, os⟩
  refine wpAny_bind (D1.done ⟨g0, g, d, tk0, os⟩ _ _ (D1.over st1 hs0 S.zf1) fun q e hq he => ?_)
  replace hq : Heap.ExtBut i1 g0 q := hq
  exact hE q e (fun c o cz c1 x => hq _ _ c1 (hs0.extBut _ _ cz x)) he
theorem pyNext_zipD2_held_item {T : Addr} {f : Bool} {oT : Obj} {Q : Option Value → Shared → Prop} (S : ZipSep2 z TI TO i1 i2 fp1 fp2) (D1 : Draws prog w A.in1 i1 fp1 n1 P1 St1) (D2 : Draws prog w A.in1 i2 fp2 n2 P2 St2)
    (hz : IsZipHeld s.heap z TI TO T f) (hT : s.heap.get? T = some oT) (hTI : IsTupOf2 s.heap TI (.ref i1) (.ref i2)) (st1 : St1 i s.heap) (st2 : St2 i s.heap) (hlt1 : i < n1) (hlt2 : i < n2)
    (hQ : ∀ x1 x2 h' tk, P1 i x1 → P2 i x2 → IsZipHeld h' z TI TO T true → St1 (i + 1) h' → St2 (i + 1) h' → IsTupOf2 h' s.heap.objs.size x1 x2 → h'.objs.size = s.heap.objs.size + 1 →
      (∀ c o, c ≠ z → c ≠ i1 → c ≠ i2 → s.heap.get? c = some o → h'.get? c = some o) → Q (some (.ref s.heap.objs.size)) { s with heap := h', toks := tk }) :
    wpAny (model prog w) A (pyNext (.ref z)) Q E s := by
  have hTy : s.TypeIs (.ref z) "zip" := ⟨_, hz, rfl⟩
  unfold pyNext
  exact wpAny_bind (wpAny_attempt (wpAny_callSpecial?_slot (name := Str.ofString "__next__") hTy F.slot_zip_next
    (wpAny_call_entry F.slot_zip_next hTy F.entry_zip_next
      (zipD2_held_item S D1 D2 hz hT hTI st1 st2 hlt1 hlt2 fun x1 x2 h' tk a1 a2 a3 a4 a5 a6 a7 a8 => wpAny_pure (hQ x1 x2 h' tk a1 a2 a3 a4 a5 a6 a7 a8)) (F.args_zip_next_1 _))))
theorem pyNext_zipD2_held_end {T : Addr} {f : Bool} {oT : Obj} {Q : Option Value → Shared → Prop} (S : ZipSep2 z TI TO i1 i2 fp1 fp2) (D1 : Draws prog w A.in1 i1 fp1 n1 P1 St1)
    (hz : IsZipHeld s.heap z TI TO T f) (hT : s.heap.get? T = some oT) (hTI : IsTupOf2 s.heap TI (.ref i1) (.ref i2)) (st1 : St1 n1 s.heap)
    (hQ : ∀ h', (∀ c o, c ≠ z → c ≠ i1 → s.heap.get? c = some o → h'.get? c = some o) → Q none { s with heap := h' }) :
    wpAny (model prog w) A (pyNext (.ref z)) Q E s := by
  have hTy : s.TypeIs (.ref z) "zip" := ⟨_, hz, rfl⟩
  unfold pyNext
  refine wpAny_bind (wpAny_attempt (wpAny_callSpecial?_slot (name := Str.ofString "__next__") hTy F.slot_zip_next
    (wpAny_call_entry F.slot_zip_next hTy F.entry_zip_next (zipD2_held_end S D1 hz hT hTI st1 fun h' e hk he => ?_) (F.args_zip_next_1 _))))
  obtain ⟨o, ho, hc⟩ := he
  refine wpAny_bind (wpAny_isInstance (T := "StopIteration") (b := true) ⟨o, ho, hc⟩ isSubtype_stop ?_)
  exact wpAny_pure (hQ _ hk)
end
/-- a zip over two iterators, i drawn, the tuples kept -/
def ZlSt (St1 St2 : Nat → Heap → Prop) (z TI TO i1 i2 S : Addr) (i : Nat) (h : Heap) : Prop :=
  IsTupOf2 h TI (.ref i1) (.ref i2) ∧ St1 i h ∧ St2 i h ∧ ((i = 0 ∧ IsZip h z TI TO .none ∧ ∃ a1 a2, IsTupOf2 h TO a1 a2) ∨ ∃ T f oT, IsZipHeld h z TI TO T f ∧ h.get? T = some oT ∧ S < T)
structure ZlG (P1 P2 : Nat → Value → Prop) (lo : Addr) (h : Heap) (as : List Addr) : Prop where
  rise : as.Pairwise (· < ·)
  above : ∀ a ∈ as, lo < a
  pairs : ∀ (j : Nat) (a : Addr), as[j]? = some a → ∃ x1 x2, P1 j x1 ∧ P2 j x2 ∧ IsTupOf2 h a x1 x2
theorem ZlG.there {P1 P2 : Nat → Value → Prop} {lo : Addr} {h : Heap} {as : List Addr} (g : ZlG P1 P2 lo h as) {a : Addr} (ha : a ∈ as) : a < h.objs.size := by
  obtain ⟨j, hj⟩ := List.mem_iff_getElem?.mp ha
  obtain ⟨_, _, _, _, e⟩ := g.pairs j a hj
  exact Heap.lt_size e
section
variable {prog : Program} {w : World} {A : Around} {E : Value → Shared → Prop} {s : Shared} {z TI TO i1 i2 : Addr} {fp1 fp2 : List Addr} {n : Nat} {P1 P2 : Nat → Value → Prop} {St1 St2 : Nat → Heap → Prop} {R : Result → Shared → Prop}
theorem zl_loop {L : Addr} (S : ZipSep2 z TI TO i1 i2 fp1 fp2) (D1 : Draws prog w A.in1.in1 i1 fp1 n P1 St1) (D2 : Draws prog w A.in1.in1 i2 fp2 n P2 St2) (lt : z < L ∧ TI < L ∧ TO < L ∧ (∀ b ∈ fp1, b < L) ∧ ∀ b ∈ fp2, b < L) (hn : n ≤ sizeLine) (res : Value) {h₁ : Heap}
    (hR : ∀ h' tk acc c as, (∀ b o, b ≠ L → b ≠ z → b ≠ TO → b ≠ i1 → b ≠ i2 → h₁.get? b = some o → h'.get? b = some o) → h'.get? L = some { cls := .type "list", dict := none, data := .seq acc c, slots := #[] } → as.length = n → ZlG P1 P2 L h' as →
      acc.toList = as.map Value.ref → R (.ok (.ret res)) { s with heap := h', toks := tk }) :
    ∀ (k i : Nat) (h : Heap) (tk c : Nat) (acc : Array Value) (as : List Addr), n - i = k → i ≤ n → ZlSt St1 St2 z TI TO i1 i2 L i h → (∀ b o, b ≠ L → b ≠ z → b ≠ TO → b ≠ i1 → b ≠ i2 → h₁.get? b = some o → h.get? b = some o) →
      h.get? L = some { cls := .type "list", dict := none, data := .seq acc c, slots := #[] } → acc.toList = as.map Value.ref → as.length = i → ZlG P1 P2 L h as →
      codeAny (model prog w) A (.builtin "list.extend.loop" ⟨[.ref L, .ref z, res], []⟩) R { s with heap := h, toks := tk } := by
  obtain ⟨lz, lTI, lTO, lf1, lf2⟩ := lt
  have l1 := lf1 _ S.mem1
  have l2 := lf2 _ S.mem2
  have nz : L ≠ z := Nat.ne_of_gt lz
  have nTO : L ≠ TO := Nat.ne_of_gt lTO
  have n1 : L ≠ i1 := Nat.ne_of_gt l1
  have n2 : L ≠ i2 := Nat.ne_of_gt l2
  intro k
  induction k with
  | zero =>
    intro i h tk c acc as hk hi hst hkeep hS hacc hal hG
    have hin : i = n := by omega
    subst hin
    obtain ⟨hTI, st1, st2, hz⟩ := hst
    refine codeAny_builtin PySem.F.entry_extend_loop ?_
    rw [Around.under_plainId PySem.F.plain_extend_loop _]
    show wpAny _ A.in1 (pyNext (.ref z) >>= _) _ _ _
    have fin : ∀ h' tk', (∀ c o, c ≠ z → c ≠ TO → c ≠ i1 → c ≠ i2 → h.get? c = some o → h'.get? c = some o) → R (.ok (.ret res)) { s with heap := h', toks := tk' } := fun h' tk' hk' => by
      refine hR h' tk' acc c as (fun b o h1 h2 h3 h4 h5 e => hk' b o h2 h3 h4 h5 (hkeep b o h1 h2 h3 h4 h5 e)) (hk' L _ nz nTO n1 n2 hS) hal ⟨hG.rise, hG.above, fun j a hj => ?_⟩ hacc
      obtain ⟨x1, x2, e1, e2, e3⟩ := hG.pairs j a hj
      have ha := hG.above a (List.mem_of_getElem? hj)
      exact ⟨x1, x2, e1, e2, hk' a _ (Nat.ne_of_gt (Nat.lt_trans lz ha)) (Nat.ne_of_gt (Nat.lt_trans lTO ha)) (Nat.ne_of_gt (Nat.lt_trans l1 ha)) (Nat.ne_of_gt (Nat.lt_trans l2 ha)) e3⟩
    rcases hz with ⟨h0, hz, a1, a2, hTO⟩ | ⟨T, f, oT, hz, hT, _⟩
    · exact wpAny_bind (wpAny_pyNext_zipD2_end (A := A.in1) (s := { s with heap := h, toks := tk }) S D1 D2 hz hTI hTO st1 st2 (Nat.le_refl _) (Nat.le_refl _) (.inl rfl) fun h' tk' hk' => wpAny_pure (fin h' tk' hk'))
    · exact wpAny_bind (pyNext_zipD2_held_end (A := A.in1) (s := { s with heap := h, toks := tk }) S D1 hz hT hTI st1 fun h' hk' => wpAny_pure (fin h' tk fun c o c1 c2 c3 c4 e => hk' c o c1 c3 e))
  | succ k ih =>
    intro i h tk c acc as hk hi hst hkeep hS hacc hal hG
    have hlt : i < n := by omega
    have hsz : acc.size = i := by rw [← Array.length_toList, hacc, List.length_map, hal]
    obtain ⟨hTI, st1, st2, hz⟩ := hst
    have hSl : L < h.objs.size := Heap.lt_size hS
    refine codeAny_builtin PySem.F.entry_extend_loop ?_
    rw [Around.under_plainId PySem.F.plain_extend_loop _]
    show wpAny _ A.in1 (pyNext (.ref z) >>= _) _ _ _
    have go : ∀ x1 x2 h' tk', P1 i x1 → P2 i x2 → St1 (i + 1) h' → St2 (i + 1) h' → IsTupOf2 h' h.objs.size x1 x2 → h'.objs.size = h.objs.size + 1 → (∃ T f oT, IsZipHeld h' z TI TO T f ∧ h'.get? T = some oT ∧ L < T) →
        (∀ c o, c ≠ z → c ≠ TO → c ≠ i1 → c ≠ i2 → h.get? c = some o → h'.get? c = some o) →
        wpAny (model prog w) A.in1 (updateSeq L (·.push (Value.ref h.objs.size)) >>= fun _ => again (.builtin "list.extend.loop" ⟨[.ref L, .ref z, res], []⟩))
          (fun fin s' => match fin with | .done f => R (.ok f) s' | .again c' => c'.quiet = true ∧ codeAny (model prog w) A c' R s') (fun e s' => R (.error e) s') { s with heap := h', toks := tk' } := by
      intro x1 x2 h' tk' p1 p2 sn1 sn2 ht hz' hheld hkp
      have hS' := hkp L _ nz nTO n1 n2 hS
      have up : ∀ b o, b ≠ L → h'.get? b = some o → (h'.update L (Obj.mapSeq (·.push (Value.ref h.objs.size)))).get? b = some o := fun b o hb e => (Heap.get?_update_other _ _ (Ne.symm hb)).trans e
      refine wpAny_bind ?_
      refine wpAny_updateSeq hS' rfl (wpAny_pure ⟨plainId_quiet PySem.F.plain_extend_loop _, ih (i + 1) _ tk' _ (acc.push (Value.ref h.objs.size)) (as ++ [h.objs.size]) (by omega) hlt ⟨?_, ?_, ?_, ?_⟩
        (fun b o h1 h2 h3 h4 h5 e => up b o h1 (hkp b o h2 h3 h4 h5 (hkeep b o h1 h2 h3 h4 h5 e))) (Heap.get?_update_self _ hS' rfl) (by rw [Array.toList_push, hacc, List.map_append]; rfl) (by rw [List.length_append, hal]; rfl) ⟨?_, ?_, ?_⟩⟩) (by rw [hsz]; omega) (by show (acc.push (Value.ref h.objs.size)).size ≤ sizeLine + 1; rw [Array.size_push, hsz]; omega)
      · exact up _ _ (Nat.ne_of_lt lTI) (hkp TI _ S.TIz S.TITO S.TIi1 S.TIi2 hTI)
      · exact D1.frame _ _ _ sn1 fun b hb o e => up b o (Nat.ne_of_lt (lf1 b hb)) e
      · exact D2.frame _ _ _ sn2 fun b hb o e => up b o (Nat.ne_of_lt (lf2 b hb)) e
      · obtain ⟨T, f, oT, h1, h2, h3⟩ := hheld
        exact .inr ⟨T, f, oT, up _ _ nz.symm h1, up _ _ (Nat.ne_of_gt h3) h2, h3⟩
      · refine List.pairwise_append.mpr ⟨hG.rise, List.pairwise_singleton _ _, fun a ha b hb => ?_⟩
        rw [List.mem_singleton.mp hb]
        exact hG.there ha
      · intro a ha
        rcases List.mem_append.mp ha with ha | ha
        · exact hG.above a ha
        · rw [List.mem_singleton.mp ha]; exact hSl
      · intro j b hj
        rcases Nat.lt_trichotomy j as.length with h1 | h1 | h1
        · rw [List.getElem?_append_left h1] at hj
          obtain ⟨y1, y2, e1, e2, e3⟩ := hG.pairs j b hj
          have hb := hG.above b (List.mem_of_getElem? hj)
          exact ⟨y1, y2, e1, e2, up b _ (Nat.ne_of_gt hb) (hkp b _ (Nat.ne_of_gt (Nat.lt_trans lz hb)) (Nat.ne_of_gt (Nat.lt_trans lTO hb)) (Nat.ne_of_gt (Nat.lt_trans l1 hb)) (Nat.ne_of_gt (Nat.lt_trans l2 hb)) e3)⟩
        · subst h1
          have hb : h.objs.size = b := by simpa using hj
          subst hb
          exact ⟨x1, x2, by rw [hal]; exact p1, by rw [hal]; exact p2, up _ _ (Nat.ne_of_gt hSl) ht⟩
        · have hnone : (as ++ [h.objs.size])[j]? = none := List.getElem?_eq_none (by rw [List.length_append, List.length_singleton]; omega)
          rw [hnone] at hj; cases hj
    rcases hz with ⟨h0, hz, a1, a2, hTO⟩ | ⟨T, f, oT, hz, hT, hLT⟩
    · exact wpAny_bind (wpAny_pyNext_zipD2_item (A := A.in1) (s := { s with heap := h, toks := tk }) S D1 D2 hz hTI hTO st1 st2 hlt hlt fun x1 x2 h' tk' p1 p2 b1 b2 sn1 sn2 b5 b6 hkp =>
        go x1 x2 h' tk' p1 p2 sn1 sn2 b5 b6 ⟨h.objs.size, false, _, b1, b5, hSl⟩ hkp)
    · exact wpAny_bind (pyNext_zipD2_held_item (A := A.in1) (s := { s with heap := h, toks := tk }) S D1 D2 hz hT hTI st1 st2 hlt hlt fun x1 x2 h' tk' p1 p2 b1 sn1 sn2 b5 b6 hkp =>
        go x1 x2 h' tk' p1 p2 sn1 sn2 b5 b6 ⟨T, true, oT, b1, hkp T oT (Nat.ne_of_gt (Nat.lt_trans lz hLT)) (Nat.ne_of_gt (Nat.lt_trans l1 hLT)) (Nat.ne_of_gt (Nat.lt_trans l2 hLT)) hT, hLT⟩ fun c o c1 c2 c3 c4 e => hkp c o c1 c3 c4 e)
end
theorem zip_no_len : typeLookup (.type "zip") "__len__" = pure none := am_miss_of_fast (by decide +kernel)
theorem zip_no_hint : typeLookup (.type "zip") "__length_hint__" = pure none := am_miss_of_fast (by decide +kernel)
section
variable {prog : Program} {w : World} {A : Around} {E : Value → Shared → Prop} {s : Shared} {z TI TO i1 i2 : Addr} {fp1 fp2 : List Addr} {n : Nat} {P1 P2 : Nat → Value → Prop} {St1 St2 : Nat → Heap → Prop}
theorem zl_call {a1 a2 : Value} {Q : Value → Shared → Prop} (hh : A.handled = none) (S : ZipSep2 z TI TO i1 i2 fp1 fp2) (D1 : ∀ A' : Around, A'.handled = none → Draws prog w A' i1 fp1 n P1 St1) (D2 : ∀ A' : Around, A'.handled = none → Draws prog w A' i2 fp2 n P2 St2)
    (hz : IsZip s.heap z TI TO .none) (hTI : IsTupOf2 s.heap TI (.ref i1) (.ref i2)) (hTO : IsTupOf2 s.heap TO a1 a2) (st1 : St1 0 s.heap) (st2 : St2 0 s.heap) (lf1 : ∀ b ∈ fp1, b < s.heap.objs.size) (lf2 : ∀ b ∈ fp2, b < s.heap.objs.size) (hn : n ≤ sizeLine)
    (hQ : ∀ h' tk acc c as, (∀ b o, b ≠ z → b ≠ TO → b ≠ i1 → b ≠ i2 → s.heap.get? b = some o → h'.get? b = some o) → h'.get? s.heap.objs.size = some { cls := .type "list", dict := none, data := .seq acc c, slots := #[] } → as.length = n → ZlG P1 P2 s.heap.objs.size h' as →
      acc.toList = as.map Value.ref → Q (.ref s.heap.objs.size) { s with heap := h', toks := tk }) :
    wpAny (model prog w) A (call (.type "list") [.ref z]) Q E s := by
  have lz : z < s.heap.objs.size := Heap.lt_size hz
  have hSz : s.heap.objs.size ≠ z := Nat.ne_of_gt lz
  refine callType_codes (Q₁ := fun obj s₁ => obj = .ref s.heap.objs.size ∧ s₁ = { s with heap := s.heap.push { cls := .type "list", data := .seq #[] } }) F.called_list (F.typeCall_list_1 _) F.entry_list_init
    (code_list_new _ ⟨rfl, rfl⟩) fun obj s₁ h₁ => ?_
  obtain ⟨rfl, rfl⟩ := h₁
  have hS : (s.heap.push { cls := .type "list", data := .seq #[] }).get? s.heap.objs.size = some { cls := .type "list", data := .seq #[] } := Heap.get?_push_size _ rfl
  refine ⟨⟨_, hS, rfl⟩, F.args_list_init_2 _ _, ?_⟩
  show wpAny _ A.in1.in1 (do let old ← Builtin.List.listItems (.ref s.heap.objs.size); Builtin.List.listUpdate (.ref s.heap.objs.size) (fun _ => #[]); letGo old.toList.reverse; Builtin.List.listExtendWith (.ref s.heap.objs.size) (.ref z) .none) _ _ _
  refine wpAny_bind ?_
  unfold Builtin.List.listItems
  refine wpAny_bind (wpAny_seqItems hS rfl (wpAny_pure ?_))
  show wpAny _ A.in1.in1 (updateSeq s.heap.objs.size (fun _ => #[]) >>= fun _ => letGo (#[] : Array Value).toList.reverse >>= fun _ => Builtin.List.listExtendWith (.ref s.heap.objs.size) (.ref z) .none) _ _ _
  refine wpAny_bind (wpAny_updateSeq hS rfl ?_)
  have hS2 := Heap.get?_update_self (Obj.mapSeq (fun _ => (#[] : Array Value))) hS rfl
  refine wpAny_bind (wpAny_letGo ?_)
  unfold Builtin.List.listExtendWith
  have up : ∀ (h : Heap) (f : Obj → Obj), (∀ b o, s.heap.get? b = some o → h.get? b = some o) → ∀ b o, s.heap.get? b = some o → (h.update s.heap.objs.size f).get? b = some o := fun h f q b o e =>
    (Heap.get?_update_other _ _ (Ne.symm (Nat.ne_of_lt (Heap.lt_size e)))).trans (q b o e)
  have k1 : ∀ b o, s.heap.get? b = some o → (s.heap.push { cls := .type "list", data := .seq #[] }).get? b = some o := fun b o e => Heap.get?_push_of_some _ e
  have k2 := up _ (Obj.mapSeq (fun _ => (#[] : Array Value))) k1
  have zty : ∀ {h : Heap}, (∀ b o, s.heap.get? b = some o → h.get? b = some o) → Shared.TypeIs { s with heap := h } (.ref z) "zip" := fun {h} q => ⟨_, q _ _ hz, rfl⟩
  refine wpAny_bind (wpAny_typeOf (zty k2) ?_)
  have h1 : Builtin.List.listSameRef (.ref s.heap.objs.size) (.ref z) = false := by simp [Builtin.List.listSameRef, hSz]
  have h2 : (Value.type "zip" == Value.type "list") = false := by decide
  have h3 : (Value.type "zip" == Value.type "tuple") = false := by decide
  simp only [h1, h2, h3, Bool.or_false, Bool.false_eq_true, if_false]
  refine wpAny_bind (wpAny_pyIter_zip (s := { s with heap := _ }) (k2 _ _ hz) ?_)
  refine wpAny_bind (wpAny_holding ?_)
  unfold Builtin.List.listLengthHint
  refine wpAny_bind (wpAny_specialOf (zty k2) zip_no_len ?_)
  show wpAny _ A.in1.in1 (specialOf (Value.ref z) (Str.ofString "__length_hint__") >>= _) _ _ _
  refine wpAny_bind (wpAny_specialOf (zty k2) zip_no_hint ?_)
  refine wpAny_pure ?_
  show wpAny _ A.in1.in1 (rule "list.extend.makes-room" >>= fun _ => Builtin.List.listTouch (.ref s.heap.objs.size) >>= fun _ =>
    again (.builtin "list.extend.loop" ⟨[.ref s.heap.objs.size, .ref z, .none], []⟩)) _ _ _
  refine wpAny_bind (wpAny_rule ?_)
  refine wpAny_bind ?_
  show wpAny _ A.in1.in1 (updateSeq s.heap.objs.size (·.push .none) >>= fun _ => updateSeq s.heap.objs.size (·.pop)) _ _ _
  refine wpAny_bind (wpAny_updateSeq hS2 rfl ?_)
  have hS3 := Heap.get?_update_self (Obj.mapSeq (·.push Value.none)) hS2 rfl
  refine wpAny_updateSeq (hz := by seq_fits) hS3 rfl ?_
  have hS4 := Heap.get?_update_self (Obj.mapSeq (·.pop)) hS3 rfl
  have k4 := up _ (Obj.mapSeq (·.pop)) (up _ (Obj.mapSeq (·.push Value.none)) k2)
  refine wpAny_pure ⟨plainId_quiet F.plain_extend_loop _, ?_⟩
  refine zl_loop (A := A.in1) (s := s) (h₁ := s.heap) S (D1 _ hh) (D2 _ hh) ⟨lz, Heap.lt_size hTI, Heap.lt_size hTO, lf1, lf2⟩ hn .none
    (fun h' tk acc c as q1 q2 q3 q4 q5 => ⟨rfl, hQ h' tk acc c as (fun b o c1 c2 c3 c4 e => q1 b o (Nat.ne_of_lt (Heap.lt_size e)) c1 c2 c3 c4 e) q2 q3 q4 q5⟩)
    n 0 _ s.toks _ #[] [] (Nat.sub_zero _) (Nat.zero_le _) ⟨k4 _ _ hTI, (D1 A hh).frame _ _ _ st1 fun b _ o e => k4 b o e, (D2 A hh).frame _ _ _ st2 fun b _ o e => k4 b o e, .inl ⟨rfl, k4 _ _ hz, a1, a2, k4 _ _ hTO⟩⟩
    (fun b o _ _ _ _ _ e => k4 b o e) hS4 rfl rfl ⟨List.Pairwise.nil, (fun _ ha => nomatch ha), fun j a hj => by simp at hj⟩
end
end PySem
namespace Ly
open PySem PySem.Spec PyProof.Rows L2 Evl
section
variable {X : Cx} {pins : List (Addr × Obj)} {σ : L2.St} {H H' : Hp} {s : Shared} {h' : Heap}
theorem _root_.PySem.L2.Inv.more {t' : Nat} (I : Inv X pins σ H s) (k : ∀ b u, s.heap.get? b = some u → h'.get? b = some u) (up : ∀ b u, H b = some u → H' b = some u)
    (new : ∀ b u, H' b = some u → H b = some u ∨ (s.heap.objs.size ≤ b ∧ ObjOk X.prog X.w H' h' b u)) : Inv X pins σ H' { s with heap := h', toks := t' } := by
  refine I.un ⟨fun b u q _ _ _ => k b u q, fun b u q _ _ _ => ⟨u.slots, k b u q⟩, fun b u q n _ => ?_, fun b u q _ => ⟨u, k b u q⟩, fun b xs q => up b _ q, fun b o u q => up b _ q, fun b ps q => ⟨#[], by rw [up b _ q]; simp⟩⟩ fun b u e => ?_
  · cases e : H' b with
    | none => rfl
    | some v =>
      rcases new b v e with z | ⟨z, _⟩
      · rw [n] at z; cases z
      · exact absurd (Nat.lt_of_lt_of_le (Heap.lt_size q) z) (Nat.lt_irrefl _)
  · rcases new b u e with z | ⟨_, z⟩
    · exact (I.hok b u z).stay (fun c v _ q => k c v q) (fun c q => up c _ q) fun c xs q => up c _ q
    · exact z
end
theorem lookup_zip {β : Type} : ∀ (as : List Addr) (ps : List β), as.Nodup → ∀ (j : Nat) (a : Addr) (p : β), as[j]? = some a → ps[j]? = some p → (as.zip ps).lookup a = some p
  | [], _, _, _, _, _, h, _ => by simp at h
  | _ :: _, [], _, _, _, _, _, h => by simp at h
  | b :: as, q :: ps, nd, 0, a, p, h1, h2 => by
    have h1 : b = a := by simpa using h1
    have h2 : q = p := by simpa using h2
    subst h1 h2
    simp [List.lookup]
  | b :: as, q :: ps, nd, j + 1, a, p, h1, h2 => by
    have h1 : as[j]? = some a := by simpa using h1
    have h2 : ps[j]? = some p := by simpa using h2
    have nd := List.nodup_cons.mp nd
    have ne : a ≠ b := fun z => nd.1 (z ▸ List.mem_of_getElem? h1)
    rw [List.zip_cons_cons, List.lookup_cons, beq_eq_false_iff_ne.mpr ne]
    exact lookup_zip as ps nd.2 j a p h1 h2
theorem lookup_got {β : Type} : ∀ (as : List Addr) (ps : List β) (a : Addr) (p : β), (as.zip ps).lookup a = some p → ∃ j : Nat, as[j]? = some a ∧ ps[j]? = some p
  | [], _, _, _, h => by simp [List.lookup] at h
  | _ :: _, [], _, _, h => by simp [List.lookup] at h
  | b :: as, q :: ps, a, p, h => by
    rw [List.zip_cons_cons, List.lookup_cons] at h
    by_cases e : a = b
    · subst e
      rw [beq_self_eq_true] at h
      exact ⟨0, rfl, h⟩
    · rw [beq_eq_false_iff_ne.mpr e] at h
      obtain ⟨j, h1, h2⟩ := lookup_got as ps a p h
      exact ⟨j + 1, h1, h2⟩
/-- the heap with the list of the pairs -/
def putZ (H : Hp) (L : Addr) (as : List Addr) (ps : List (V × V)) : Hp := fun b => if b = L then some (.lst (as.map V.ref)) else match (as.zip ps).lookup b with
  | some p => some (.tup [p.1, p.2])
  | none => H b
def Sq (K : PySem.W.Frag) (H : Hp) (a : Addr) (xs : List V) : Prop := SqL K H a xs ∨ SqT K H a xs
theorem sq_begins {X : Cx} {pins : List (Addr × Obj)} {σ : L2.St} {H : Hp} {s : Shared} {a : Addr} {xs : List V} (I : Inv X pins σ H s) (h : Sq X.K H a xs) :
    ∃ (its : List Value) (o : Obj) (C : Heap → Prop), Begins (.ref a) o C ∧ C s.heap ∧ Vals xs its ∧ xs.length ≤ sizeLine ∧ a < s.heap.objs.size ∧
      ∀ it, a ≠ it → ∃ St : Nat → Heap → Prop, (∀ A' : Around, A'.handled = none → Draws X.prog X.w A' it [it, a] its.length (fun i v => its[i]? = some v) St) ∧ ∀ h' : Heap, h'.get? it = some o → C h' → St 0 h' := by
  rcases h with h | h
  · obtain ⟨its, rv, p, z⟩ := I.list h
    refine ⟨its, _, _, begins_list a its.toArray, p.isList, rv, z, (let ⟨_, e, _⟩ := p.isList; Heap.lt_size e), fun it hne => ⟨fun i h => h.IsListIter it a i ∧ h.IsList a its.toArray, fun A' hA => ?_, fun h' e c => ⟨⟨_, e, rfl, rfl⟩, c⟩⟩⟩
    have D := Draws.list (prog := X.prog) (w := X.w) (A := A') hA it a hne its.toArray
    simpa using D
  · obtain ⟨its, rv, p, z⟩ := I.tuple h
    refine ⟨its, _, _, begins_tuple a its.toArray, p, rv, z, ?_, fun it hne => ⟨fun i h => h.IsTupleIter it a i ∧ h.IsTuple a its.toArray, fun A' hA => ?_, fun h' e c => ⟨⟨_, e, rfl, rfl⟩, c⟩⟩⟩
    · obtain ⟨_, e, _⟩ := id p
      exact Heap.lt_size e
    · have D := Draws.tuple (prog := X.prog) (w := X.w) (A := A') hA it a hne its.toArray
      simpa using D
/-- the list and the tuples of the pairs are there -/
structure Zipped (H H' : Hp) (p : Addr) (ts : List Addr) (xs ys : List V) : Prop where
  ex : Ex H H'
  new : H p = none
  lst : H' p = some (.lst (ts.map V.ref))
  len : ts.length = xs.length
  tup : ∀ (i : Nat) (t : Addr) (x y : V), ts[i]? = some t → xs[i]? = some x → ys[i]? = some y → H' t = some (.tup [x, y])
def tListZip (K : PySem.W.Frag) (ta : TA) : TE := fun σ H Q => ta σ H fun vs H1 => ∃ a b xs ys, vs = [.ref a, .ref b] ∧ Sq K H1 a xs ∧ Sq K H1 b ys ∧ xs.length = ys.length ∧ ∀ H2 p ts, Zipped H1 H2 p ts xs ys → Q (.ref p) H2
theorem pe_listZip {X : Cx} {e e2 : Expr} {ta : TA} {p pos p2 pos2 : Pos} (hc : X.calm = true) (hg : Gl X "list") (hm : X.mg "list" = none) (hg2 : Gl X "zip") (hm2 : X.mg "zip" = none) (ha : PA X [e, e2] ta)
    (hs : starEach [e, e2] X.env = (false, eval e X.env) :: starEach [e2] X.env := by rfl) (hpl : (backTo pos2 (starEach [e2] X.env)).any (·.1) = false := by rfl)
    (na : starEach [.Call (.Name "zip" p2) [e, e2] [] pos2] X.env = (false, eval (.Call (.Name "zip" p2) [e, e2] [] pos2) X.env) :: starEach [] X.env := by rfl) :
    PE X (.Call (.Name "list" p) [.Call (.Name "zip" p2) [e, e2] [] pos2] [] pos) (tListZip X.K ta) := by
  refine ⟨fun pins s σ H Q I h => ?_⟩
  refine Call_ (ld_blt I hg hm boot_list (PyProof.Rows.callWith_type1 (args_cons ?_ na) na))
  refine Call_ (ld_blt I hg2 hm2 PyProof.Rows.boot_zip (PyProof.Rows.callWith_type1 (thn (ha.run pos2 pins s σ H _ I h) fun us s1 ⟨vs, H1, J, rv, q⟩ => ?_) hs hpl))
  obtain ⟨a, b, xs, ys, ev, hx, hy, hl, q⟩ := q
  subst ev
  obtain ⟨u1, us1, e1, r1, rv1⟩ : ∃ u1 us1, us = u1 :: us1 ∧ RelV (.ref a) u1 ∧ Vals [.ref b] us1 := by
    cases rv with
    | cons r rr => exact ⟨_, _, rfl, r, rr⟩
  obtain ⟨u2, e2', r2⟩ := vals1 rv1
  subst e1 e2'
  cases r1
  cases r2
  obtain ⟨its1, o1, C1, B1, c1, v1, z1, l1, D1⟩ := sq_begins J hx
  obtain ⟨its2, o2, C2, B2, c2, v2, z2, l2, D2⟩ := sq_begins J hy
  have n1 := v1.length
  have n2 := v2.length
  refine zip_begins2 B1 B2 c1 c2 fun h' hz hI hO g1 g2 hsz hk => args_nil ?_
  obtain ⟨St1, D1, S1⟩ := D1 s1.heap.objs.size (Nat.ne_of_lt l1)
  obtain ⟨St2, D2, S2⟩ := D2 (s1.heap.objs.size + 1) (Nat.ne_of_lt (Nat.lt_succ_of_lt l2))
  have el : its2.length = its1.length := by omega
  rw [el] at D2
  have J' : Inv X pins σ H1 { s1 with heap := h', toks := s1.toks } := J.kept hk
  have f1 : ∀ c ∈ [a], c < s1.heap.objs.size := fun c hc => by rw [List.mem_singleton.mp hc]; exact l1
  have f2 : ∀ c ∈ [b], c < s1.heap.objs.size := fun c hc => by rw [List.mem_singleton.mp hc]; exact l2
  refine zl_call (s := { s1 with heap := h' }) (J.ok.hd hc) (zip_sep2 f1 f2) D1 D2 hz hI hO (S1 _ g1 (B1.keeps _ _ c1 hk)) (S2 _ g2 (B2.keeps _ _ c2 hk)) ?_ ?_ (by omega) fun h2 tk acc c as kp hL hal hG hacc => ?_
  · intro c hc
    show c < h'.objs.size
    rw [hsz]
    rcases List.mem_cons.mp hc with rfl | hc
    · first | exact Nat.lt_add_of_pos_right (by decide) | exact Nat.add_lt_add_left (by decide : 1 < 5) _
    · exact Nat.lt_of_lt_of_le (f1 c hc) (Nat.le_add_right _ _)
  · intro c hc
    show c < h'.objs.size
    rw [hsz]
    rcases List.mem_cons.mp hc with rfl | hc
    · first | exact Nat.lt_add_of_pos_right (by decide) | exact Nat.add_lt_add_left (by decide : 1 < 5) _
    · exact Nat.lt_of_lt_of_le (f2 c hc) (Nat.le_add_right _ _)
  have kp2 : ∀ b o, s1.heap.get? b = some o → h2.get? b = some o := fun b o e => by
    have lb := Heap.lt_size e
    have ne : ∀ k : Nat, b ≠ s1.heap.objs.size + k := fun k => Nat.ne_of_lt (Nat.lt_of_lt_of_le lb (Nat.le_add_right _ _))
    exact kp b o (ne 4) (ne 3) (ne 0) (ne 1) (hk b o e)
  have hLs : h'.objs.size = s1.heap.objs.size + 5 := hsz
  have nd : as.Nodup := hG.rise.imp fun h => Nat.ne_of_lt h
  have lps : as.length = (xs.zip ys).length := by rw [List.length_zip]; omega
  have gz : ∀ (j : Nat) (a : Addr) (p : V × V), as[j]? = some a → (xs.zip ys)[j]? = some p → ∃ u1 u2, RelV p.1 u1 ∧ RelV p.2 u2 ∧ IsTupOf2 h2 a u1 u2 := fun j a p ea ep => by
    obtain ⟨u1, u2, e1, e2, e3⟩ := hG.pairs j a ea
    have ep := List.getElem?_zip_eq_some.mp ep
    obtain ⟨w1, g1, r1⟩ := v1.get ep.1
    obtain ⟨w2, g2, r2⟩ := v2.get ep.2
    rw [e1] at g1
    rw [e2] at g2
    cases g1
    cases g2
    exact ⟨u1, u2, r1, r2, e3⟩
  have up : ∀ b u, H1 b = some u → putZ H1 h'.objs.size as (xs.zip ys) b = some u := fun b u e => by
    have lb : b < s1.heap.objs.size := J.hok.lt e
    have lbL : b < h'.objs.size := by rw [hLs]; exact Nat.lt_of_lt_of_le lb (Nat.le_add_right _ _)
    unfold putZ
    rw [if_neg (Nat.ne_of_lt lbL)]
    cases hlk : (as.zip (xs.zip ys)).lookup b with
    | none => exact e
    | some p =>
      obtain ⟨j, ea, _⟩ := lookup_got _ _ _ _ hlk
      have := hG.above b (List.mem_of_getElem? ea)
      exact absurd (Nat.lt_trans lbL this) (Nat.lt_irrefl _)
  have F : Zipped H1 (putZ H1 h'.objs.size as (xs.zip ys)) h'.objs.size as xs ys := by
    refine ⟨fun b u e => up b u e, J.hok.fresh (by rw [hLs]; exact Nat.le_add_right _ _), by unfold putZ; rw [if_pos rfl], by omega, fun i t x y e1 e2 e3 => ?_⟩
    unfold putZ
    have ht : h'.objs.size < t := hG.above t (List.mem_of_getElem? e1)
    rw [if_neg (Nat.ne_of_gt ht), lookup_zip as (xs.zip ys) nd i t (x, y) e1 (List.getElem?_zip_eq_some.mpr ⟨e2, e3⟩)]
  refine ⟨.ref h'.objs.size, putZ H1 h'.objs.size as (xs.zip ys), J.more kp2 up fun b u e => ?_, rfl, q _ _ _ F⟩
  unfold putZ at e
  by_cases hb : b = h'.objs.size
  · rw [if_pos hb] at e
    cases e
    subst hb
    refine .inr ⟨by rw [hLs]; exact Nat.le_add_right _ _, ?_, acc.toList, c, ?_, ?_⟩
    · rw [List.length_map]; omega
    · rw [hacc]
      clear hacc lps gz up F nd hal hG
      induction as with
      | nil => exact .nil
      | cons x r ih => exact .cons rfl ih
    · rw [Array.toArray_toList]; exact hL
  · rw [if_neg hb] at e
    cases hlk : (as.zip (xs.zip ys)).lookup b with
    | none => rw [hlk] at e; exact .inl e
    | some p =>
      rw [hlk] at e
      cases e
      obtain ⟨j, ea, ep⟩ := lookup_got _ _ _ _ hlk
      obtain ⟨u1, u2, r1, r2, e3⟩ := gz j b p ea ep
      have : h'.objs.size < b := hG.above b (List.mem_of_getElem? ea)
      exact .inr ⟨Nat.le_trans (by rw [hLs]; exact Nat.le_add_right _ _) (Nat.le_of_lt this), sz_of (Nat.le_of_ble_eq_true rfl), [u1, u2], .cons r1 (.cons r2 .nil), ⟨_, e3, rfl, _, rfl⟩⟩
theorem w_listZip {K : PySem.W.Frag} {ta : TA} {σ : L2.St} {H : Hp} {Q : VK} (h : ta σ H fun vs H1 => ∃ a b xs ys, vs = [.ref a, .ref b] ∧ Sq K H1 a xs ∧ Sq K H1 b ys ∧ xs.length = ys.length ∧ ∀ H2 p ts, Zipped H1 H2 p ts xs ys → Q (.ref p) H2) : tListZip K ta σ H Q := h
end Ly
set_option Elab.async false
set_option linter.all false
set_option maxRecDepth 100000
set_option maxHeartbeats 2000000
namespace Ly
open PySem PySem.Spec PyProof.Rows L2 Evl
def digs (d : Nat) : List Nat := if d < 10 then [48 + d] else [48 + d / 10, 48 + d % 10]
theorem digs_str : ∀ d : Nat, d < 100 → Str.ofString (toString (d : Int)) = pl (digs d) ∧ (d : Int).natAbs.log2 < 1920 := by decide +kernel
def nmN (k : Nat) : List Nat := if k / 26 = 0 then [97 + k % 26] else (97 + k % 26) :: digs (k / 26)
theorem digs_ok {d : Nat} (h : d < 100) : (digs d).all isDig = true ∧ (digs d).length ≤ 2 := by
  unfold digs
  split
  · exact ⟨by simp [isDig]; omega, by simp⟩
  · exact ⟨by simp [isDig]; omega, by simp⟩
theorem nm_ok {k : Nat} (h : k < 2600) : IsNm (nmN k) := by
  have h1 : k / 26 < 100 := by omega
  have h2 := digs_ok h1
  unfold nmN
  have h3 : isLow (97 + k % 26) = true := by simp [isLow]; omega
  split
  · exact ⟨_, [], rfl, h3, rfl, by simp⟩
  · exact ⟨_, _, rfl, h3, h2.1, by omega⟩
def unN : List Nat → Nat
  | [c] => c - 97
  | [c, a] => (a - 48) * 26 + (c - 97)
  | [c, a, b] => ((a - 48) * 10 + (b - 48)) * 26 + (c - 97)
  | _ => 0
theorem un_nm (k : Nat) : k < 2600 → unN (nmN k) = k := fun h => by
  unfold nmN digs
  split
  · show 97 + k % 26 - 97 = k
    omega
  · split
    · show (48 + k / 26 - 48) * 26 + (97 + k % 26 - 97) = k
      omega
    · show ((48 + k / 26 / 10 - 48) * 10 + (48 + k / 26 % 10 - 48)) * 26 + (97 + k % 26 - 97) = k
      omega
theorem nm_inj {i j : Nat} (hi : i < 2600) (hj : j < 2600) (h : nmN i = nmN j) : i = j := by rw [← un_nm i hi, ← un_nm j hj, h]
/-- the first n names of the list, without those of fs -/
def own (fs : List (List Nat)) : Nat → List (List Nat)
  | 0 => []
  | n + 1 => own fs n ++ if nmN n ∈ fs then [] else [nmN n]
theorem own_yes {fs : List (List Nat)} {n : Nat} (h : nmN n ∈ fs) : own fs (n + 1) = own fs n := by
  show own fs n ++ _ = _
  rw [if_pos h, List.append_nil]
theorem own_no {fs : List (List Nat)} {n : Nat} (h : nmN n ∉ fs) : own fs (n + 1) = own fs n ++ [nmN n] := by
  show own fs n ++ _ = _
  rw [if_neg h]
theorem own_le (fs : List (List Nat)) : ∀ n, (own fs n).length ≤ n
  | 0 => Nat.le_refl _
  | n + 1 => by
    have ih := own_le fs n
    by_cases h : nmN n ∈ fs
    · rw [own_yes h]; omega
    · rw [own_no h, List.length_append, List.length_singleton]; omega
/-- how many of the first n names stand in fs -/
def hits (fs : List (List Nat)) : Nat → List (List Nat)
  | 0 => []
  | n + 1 => hits fs n ++ if nmN n ∈ fs then [nmN n] else []
theorem own_hits (fs : List (List Nat)) : ∀ n, (own fs n).length + (hits fs n).length = n
  | 0 => rfl
  | n + 1 => by
    have ih := own_hits fs n
    by_cases h : nmN n ∈ fs
    · rw [own_yes h]
      show _ + (hits fs n ++ _).length = _
      rw [if_pos h, List.length_append, List.length_singleton]
      omega
    · rw [own_no h, List.length_append]
      show _ + (hits fs n ++ _).length = _
      rw [if_neg h, List.length_append, List.length_singleton, List.length_nil]
      omega
theorem hits_mem {fs : List (List Nat)} {w : List Nat} : ∀ {n : Nat}, w ∈ hits fs n → w ∈ fs ∧ ∃ k, k < n ∧ w = nmN k
  | 0, h => by cases h
  | n + 1, h => by
    rcases List.mem_append.mp (show w ∈ hits fs n ++ _ from h) with h | h
    · obtain ⟨h1, k, h2, h3⟩ := hits_mem h
      exact ⟨h1, k, by omega, h3⟩
    · split at h
      · rename_i hm
        rw [List.mem_singleton.mp h]
        exact ⟨hm, n, by omega, rfl⟩
      · cases h
theorem hits_nodup (fs : List (List Nat)) : ∀ {n : Nat}, n ≤ 2600 → (hits fs n).Nodup
  | 0, _ => List.nodup_nil
  | n + 1, h => by
    have ih := hits_nodup fs (n := n) (by omega)
    show (hits fs n ++ _).Nodup
    split
    · refine List.nodup_append.mpr ⟨ih, by simp, fun a ha b hb e => ?_⟩
      rw [List.mem_singleton.mp hb] at e
      obtain ⟨_, k, hk, e2⟩ := hits_mem ha
      have := nm_inj (by omega) (by omega) (e2.symm.trans e)
      omega
    · rw [List.append_nil]; exact ih
theorem nodup_le {α : Type} [DecidableEq α] : ∀ {xs ys : List α}, xs.Nodup → (∀ x ∈ xs, x ∈ ys) → xs.length ≤ ys.length
  | [], _, _, _ => Nat.zero_le _
  | x :: xs, ys, nd, h => by
    obtain ⟨n1, n2⟩ := List.nodup_cons.mp nd
    have hx := h x List.mem_cons_self
    have ih := nodup_le (xs := xs) (ys := ys.erase x) n2 fun y hy => (List.mem_erase_of_ne (fun e => n1 (by rw [← e]; exact hy))).mpr (h y (List.mem_cons_of_mem _ hy))
    have := List.length_erase_of_mem hx
    have := List.length_pos_of_mem hx
    rw [List.length_cons]
    omega
theorem own_len {fs : List (List Nat)} {n : Nat} (h : n ≤ 2600) : n ≤ (own fs n).length + fs.length := by
  have h1 := own_hits fs n
  have h2 := nodup_le (hits_nodup fs h) fun w hw => (hits_mem hw).1
  omega
theorem own_mem {fs : List (List Nat)} {w : List Nat} : ∀ {n : Nat}, w ∈ own fs n → w ∉ fs ∧ ∃ k, k < n ∧ w = nmN k
  | 0, h => by cases h
  | n + 1, h => by
    rcases List.mem_append.mp (show w ∈ own fs n ++ _ from h) with h | h
    · obtain ⟨h1, k, h2, h3⟩ := own_mem h
      exact ⟨h1, k, by omega, h3⟩
    · split at h
      · cases h
      · rename_i hm
        rw [List.mem_singleton.mp h]
        exact ⟨hm, n, by omega, rfl⟩
theorem own_nm {fs : List (List Nat)} {n : Nat} (h : n ≤ 2600) : ∀ w ∈ own fs n, IsNm w := fun w hw => by
  obtain ⟨_, k, hk, rfl⟩ := own_mem hw
  exact nm_ok (by omega)
theorem own_ext (fs : List (List Nat)) (m : Nat) : ∀ k, ∃ r, own fs (m + k) = own fs m ++ r
  | 0 => ⟨[], by simp⟩
  | k + 1 => by
    obtain ⟨r, e⟩ := own_ext fs m k
    exact ⟨r ++ if nmN (m + k) ∈ fs then [] else [nmN (m + k)], by rw [← List.append_assoc, ← e]; rfl⟩
theorem own_pre {fs : List (List Nat)} {m n : Nat} (h : m ≤ n) : ∃ r, own fs n = own fs m ++ r := by
  obtain ⟨r, e⟩ := own_ext fs m (n - m)
  exact ⟨r, by rw [← e, show m + (n - m) = n by omega]⟩
def Tm.isL : Tm → Bool
  | .lam _ => true
  | _ => false
def Tm.isV : Tm → Bool
  | .var _ => true
  | _ => false
def par (c : Bool) (w : List Nat) : List Nat := if c = true then 40 :: (w ++ [41]) else w
/-- an abstraction's text -/
def abT (c : Bool) (n b : List Nat) : List Nat := if c = true then 92 :: (n ++ 32 :: b.drop 1) else 92 :: (n ++ 46 :: 32 :: b)
def shw (bs fs : List (List Nat)) : Nat → Tm → List Nat
  | d, .var i => if i < d then bs.getD (d - 1 - i) [] else fs.getD (i - d) []
  | d, .lam b => abT b.isL (bs.getD d []) (shw bs fs (d + 1) b)
  | d, .app f a => par f.isL (shw bs fs d f) ++ 32 :: par (!a.isV) (shw bs fs d a)
/-- the variables have names -/
def okF (m : Nat) : Nat → Tm → Prop
  | d, .var i => i < d + m
  | d, .lam b => okF m (d + 1) b
  | d, .app f a => okF m d f ∧ okF m d a
def Tm.lams : Tm → Nat
  | .var _ => 0
  | .lam b => b.lams + 1
  | .app f a => f.lams + a.lams
theorem lams_count : ∀ t : Tm, t.enc.countP (fun y => decide (y = V.str "lam")) = t.lams
  | .var i => by
    show (List.countP _ [V.int (i : Int)]) = 0
    simp
  | .lam b => by
    have := lams_count b
    show (List.countP _ (V.str "lam" :: b.enc)) = b.lams + 1
    rw [List.countP_cons, this]
    simp
  | .app f a => by
    have h1 := lams_count f
    have h2 := lams_count a
    show (List.countP _ (V.str "app" :: (f.enc ++ a.enc))) = f.lams + a.lams
    rw [List.countP_cons, List.countP_append, h1, h2]
    have : ¬ (V.str "app" = V.str "lam") := by decide +kernel
    simp [this]
theorem lams_le : ∀ t : Tm, t.lams + 1 ≤ t.enc.length
  | .var _ => Nat.le_refl _
  | .lam b => by
    have := lams_le b
    simp only [Tm.lams, Tm.enc, List.length_cons]
    omega
  | .app f a => by
    have := lams_le f
    have := lams_le a
    simp only [Tm.lams, Tm.enc, List.length_cons, List.length_append]
    omega
/-- a name of point 7 -/
def nmB : List Nat → Bool
  | [] => false
  | c :: ds => isLow c && ds.all isDig && decide (ds.length ≤ 9)
theorem nmB_of {w : List Nat} (h : IsNm w) : nmB w = true := by
  obtain ⟨c, ds, rfl, hc, hd, hl⟩ := h.ex
  show (isLow c && ds.all isDig && decide (ds.length ≤ 9)) = true
  rw [hc, hd, decide_eq_true (by omega)]
  rfl
def Nms (ws : List (List Nat)) : Prop := ∀ w ∈ ws, nmB w = true
theorem Nms.get {ws : List (List Nat)} (h : Nms ws) {i : Nat} (hi : i < ws.length) : nmB (ws.getD i []) = true := by
  rw [List.getD_eq_getElem?_getD, List.getElem?_eq_getElem hi]
  exact h _ (List.getElem_mem hi)
theorem nm_head {w : List Nat} (h : nmB w = true) : ∃ c r, w = c :: r ∧ c ≠ 92 ∧ 32 ∉ w ∧ w.length ≤ 10 := by
  cases w with
  | nil => cases h
  | cons c ds => ?_
  have h : (isLow c && ds.all isDig && decide (ds.length ≤ 9)) = true := h
  rw [Bool.and_eq_true, Bool.and_eq_true] at h
  obtain ⟨⟨hc, hd⟩, hl⟩ := h
  have hl := of_decide_eq_true hl
  have hc := of_decide_eq_true hc
  refine ⟨c, ds, rfl, by omega, fun z => ?_, by simpa using hl⟩
  rcases List.mem_cons.mp z with e | z
  · omega
  · have := of_decide_eq_true (List.all_eq_true.mp hd _ z)
    omega
section
variable {bs fs : List (List Nat)} (hb : Nms bs) (hf : Nms fs)
include hb hf
theorem shw_var {d i : Nat} (hd : d ≤ bs.length) (h : i < d + fs.length) : nmB (shw bs fs d (.var i)) = true := by
  show nmB (if i < d then _ else _) = true
  split
  · exact hb.get (by omega)
  · exact hf.get (by omega)
theorem shw_head : ∀ (t : Tm) (d : Nat), d + t.lams ≤ bs.length → okF fs.length d t → ∃ c r, shw bs fs d t = c :: r ∧ (t.isL = true ↔ c = 92)
  | .var i, d, hd, h => by
    obtain ⟨c, r, e, hc, _⟩ := nm_head (shw_var hb hf (i := i) (by simpa [Tm.lams] using hd) h)
    exact ⟨c, r, e, by simp [Tm.isL, hc]⟩
  | .lam b, d, hd, h => by
    show ∃ c r, abT b.isL (bs.getD d []) (shw bs fs (d + 1) b) = c :: r ∧ _
    unfold abT
    split
    · exact ⟨92, _, rfl, by simp [Tm.isL]⟩
    · exact ⟨92, _, rfl, by simp [Tm.isL]⟩
  | .app f a, d, hd, h => by
    obtain ⟨c, r, e, hc⟩ := shw_head f d (by simp only [Tm.lams] at hd; omega) h.1
    show ∃ c r, par f.isL (shw bs fs d f) ++ _ = c :: r ∧ _
    unfold par
    split
    · exact ⟨40, _, rfl, by simp [Tm.isL]⟩
    · rename_i hl
      refine ⟨c, _, by rw [e]; rfl, ?_⟩
      have : c ≠ 92 := fun z => hl (hc.mpr z)
      simp [Tm.isL, this]
theorem shw_space : ∀ (t : Tm) (d : Nat), d + t.lams ≤ bs.length → okF fs.length d t → (32 ∈ shw bs fs d t ↔ t.isV = false)
  | .var i, d, hd, h => by
    obtain ⟨c, r, e, _, hc, _⟩ := nm_head (shw_var hb hf (i := i) (by simpa [Tm.lams] using hd) h)
    simp [Tm.isV, hc]
  | .lam b, d, hd, h => by
    refine ⟨fun _ => rfl, fun _ => ?_⟩
    show 32 ∈ abT _ _ _
    unfold abT
    split <;> simp
  | .app f a, d, hd, h => by
    refine ⟨fun _ => rfl, fun _ => ?_⟩
    show 32 ∈ par _ _ ++ 32 :: _
    simp
theorem shw_len : ∀ (t : Tm) (d : Nat), d + t.lams ≤ bs.length → okF fs.length d t → (shw bs fs d t).length ≤ 14 * t.enc.length
  | .var i, d, hd, h => by
    obtain ⟨c, r, e, _, hc, hl⟩ := nm_head (shw_var hb hf (i := i) (by simpa [Tm.lams] using hd) h)
    simp only [Tm.enc, List.length_singleton]
    omega
  | .lam b, d, hd, h => by
    simp only [Tm.lams] at hd
    have ih := shw_len b (d + 1) (by omega) h
    obtain ⟨_, _, _, _, _, hl⟩ := nm_head (hb.get (i := d) (by omega))
    show (abT _ _ _).length ≤ _
    unfold abT
    split <;> (simp only [List.length_cons, List.length_append, List.length_drop, Tm.enc]; omega)
  | .app f a, d, hd, h => by
    simp only [Tm.lams] at hd
    have i1 := shw_len f d (by omega) h.1
    have i2 := shw_len a d (by omega) h.2
    show (par _ _ ++ 32 :: par _ _).length ≤ _
    unfold par
    split <;> split <;> (simp only [List.length_cons, List.length_append, List.length_nil, Tm.enc]; omega)
end
/-- names from longer lists are the same -/
theorem shw_more {bs fs r : List (List Nat)} : ∀ (t : Tm) (d : Nat), d + t.lams ≤ bs.length → shw (bs ++ r) fs d t = shw bs fs d t
  | .var i, d, hd => by
    simp only [Tm.lams] at hd
    show (if i < d then _ else _) = if i < d then _ else _
    split
    · rw [List.getD_eq_getElem?_getD, List.getD_eq_getElem?_getD, List.getElem?_append_left (by omega)]
    · rfl
  | .lam b, d, hd => by
    simp only [Tm.lams] at hd
    show abT _ _ _ = abT _ _ _
    rw [shw_more b (d + 1) (by omega), List.getD_eq_getElem?_getD, List.getD_eq_getElem?_getD, List.getElem?_append_left (by omega)]
  | .app f a, d, hd => by
    simp only [Tm.lams] at hd
    show par _ _ ++ 32 :: par _ _ = par _ _ ++ 32 :: par _ _
    rw [shw_more f d (by omega), shw_more a d (by omega)]
/-- the same, node by node -/
def okL (m : Nat) : List V → List Nat → Bool
  | .int n :: vs, d :: ds => decide (n - (d : Int) < (m : Int)) && okL m vs ds
  | _ :: vs, _ :: ds => okL m vs ds
  | _, _ => true
theorem okL_app (m : Nat) : ∀ (xs ys : List V) (ds es : List Nat), xs.length = ds.length → okL m (xs ++ ys) (ds ++ es) = (okL m xs ds && okL m ys es)
  | [], _, [], _, _ => rfl
  | [], _, _ :: _, _, h => by cases h
  | _ :: _, _, [], _, h => by cases h
  | x :: xs, ys, d :: ds, es, h => by
    have ih := okL_app m xs ys ds es (by simpa using h)
    cases x with
    | int n =>
      show (decide (n - (d : Int) < (m : Int)) && okL m (xs ++ ys) (ds ++ es)) = ((decide (n - (d : Int) < (m : Int)) && okL m xs ds) && okL m ys es)
      rw [ih, Bool.and_assoc]
    | _ => exact ih
theorem okL_tm (m : Nat) : ∀ (t : Tm) (d : Nat), okL m t.enc (t.deps d) = true ↔ okF m d t
  | .var n, d => by
    show (decide ((n : Int) - (d : Int) < (m : Int)) && true) = true ↔ n < d + m
    rw [Bool.and_true, decide_eq_true_eq]
    omega
  | .lam b, d => okL_tm m b (d + 1)
  | .app f a, d => by
    show okL m (f.enc ++ a.enc) (f.deps d ++ a.deps d) = true ↔ okF m d f ∧ okF m d a
    rw [okL_app m _ _ _ _ (Tm.deps_len f d).symm, Bool.and_eq_true, okL_tm m f d, okL_tm m a d]
def joinW : List (List Nat) → List Nat
  | [] => []
  | [w] => w
  | w :: r => w ++ 32 :: joinW r
theorem join_pl (ws : List (List Nat)) : Txt.join (pl [32]) (ws.map pl) = pl (joinW ws) := by
  show Builtin.Str.glued _ _ = _
  rw [StrLaws.glued_eq_join]
  induction ws with
  | nil => decide +kernel
  | cons w r ih =>
    cases r with
    | nil => rfl
    | cons v r =>
      show pl w ++ pl [32] ++ Str.join (pl [32]) ((v :: r).map pl) = _
      rw [ih, pl_app, pl_app, List.append_assoc]
      rfl
theorem starts_pl (c : Nat) (r : List Nat) : Txt.startswith (pl (c :: r)) (pl [92]) = decide (c = 92) := by
  unfold Txt.startswith
  rw [pl_len, pl_len, StrLaws.subAt_eq, pl_len]
  by_cases h : c = 92 <;> simp [pl, h]
theorem lamN_ex : ∀ t : Tm, t.isL = true → ∃ n b, t = Tm.lamN (n + 1) b ∧ b.isL = false
  | .lam b, _ => by
    cases hb : b.isL with
    | false => exact ⟨0, b, rfl, hb⟩
    | true =>
      obtain ⟨n, c, e, hc⟩ := lamN_ex b hb
      exact ⟨n + 1, c, by rw [e]; rfl, hc⟩
theorem drop_getW {bs : List (List Nat)} {d : Nat} (h : d < bs.length) (n : Nat) : (bs.drop d).take (n + 1) = bs.getD d [] :: (bs.drop (d + 1)).take n := by
  rw [List.drop_eq_getElem_cons h, List.take_succ_cons, List.getD_eq_getElem?_getD, List.getElem?_eq_getElem h]
  rfl
theorem shw_lamN {bs fs : List (List Nat)} {b : Tm} (hb : b.isL = false) : ∀ (n d : Nat), d + n + 1 ≤ bs.length → shw bs fs d (Tm.lamN (n + 1) b) = 92 :: (joinW ((bs.drop d).take (n + 1)) ++ 46 :: 32 :: shw bs fs (d + n + 1) b)
  | 0, d, h => by
    show abT b.isL _ _ = _
    rw [hb, drop_getW (by omega)]
    rfl
  | n + 1, d, h => by
    have ih := shw_lamN (bs := bs) (fs := fs) hb n (d + 1) (by omega)
    show abT true _ (shw bs fs (d + 1) (Tm.lamN (n + 1) b)) = _
    rw [ih, drop_getW (bs := bs) (d := d) (by omega) (n + 1), show d + 1 + n + 1 = d + (n + 1) + 1 by omega]
    have hne : ∃ w r, (bs.drop (d + 1)).take (n + 1) = w :: r := ⟨_, _, drop_getW (bs := bs) (d := d + 1) (by omega) n⟩
    obtain ⟨w, r, e⟩ := hne
    rw [e]
    show 92 :: (bs.getD d [] ++ 32 :: (joinW (w :: r) ++ _)) = 92 :: ((bs.getD d [] ++ 32 :: joinW (w :: r)) ++ _)
    rw [List.append_assoc]
    rfl
def fo (t : Tm) : Nat → List (Tm × Nat)
  | 0 => [(t, 0)]
  | i + 1 => match fo t i with
    | [] => []
    | (.var _, _) :: r => r
    | (.lam b, d) :: r => (b, d + 1) :: r
    | (.app f a, d) :: r => (f, d) :: (a, d) :: r
def encP (ps : List (Tm × Nat)) : List V := (ps.map fun p => p.1.enc).flatten
def depP (ps : List (Tm × Nat)) : List Nat := (ps.map fun p => p.1.deps p.2).flatten
theorem encP_cons (t : Tm) (d : Nat) (r : List (Tm × Nat)) : encP ((t, d) :: r) = t.enc ++ encP r := by simp [encP]
theorem depP_cons (t : Tm) (d : Nat) (r : List (Tm × Nat)) : depP ((t, d) :: r) = t.deps d ++ depP r := by simp [depP]
theorem fo_drop (t : Tm) : ∀ i, i ≤ t.enc.length → t.enc.drop i = encP (fo t i) ∧ (t.deps 0).drop i = depP (fo t i)
  | 0, _ => by simp [fo, encP, depP]
  | i + 1, h => by
    obtain ⟨h1, h2⟩ := fo_drop t i (by omega)
    have e1 : t.enc.drop (i + 1) = (t.enc.drop i).drop 1 := by rw [List.drop_drop]
    have e2 : (t.deps 0).drop (i + 1) = ((t.deps 0).drop i).drop 1 := by rw [List.drop_drop]
    rw [e1, e2, h1, h2]
    cases hf : fo t i with
    | nil =>
      rw [hf] at h1
      have := congrArg List.length h1
      simp [encP] at this
      omega
    | cons p r =>
      obtain ⟨u, d⟩ := p
      rw [encP_cons, depP_cons]
      have e3 : fo t (i + 1) = (match (u, d) :: r with
        | [] => []
        | (.var _, _) :: r => r
        | (.lam b, d) :: r => (b, d + 1) :: r
        | (.app f a, d) :: r => (f, d) :: (a, d) :: r) := by rw [← hf]; rfl
      rw [e3]
      cases u with
      | var n => exact ⟨rfl, rfl⟩
      | lam b => exact ⟨by rw [encP_cons]; rfl, by rw [depP_cons]; rfl⟩
      | app f a => exact ⟨by rw [encP_cons, encP_cons, ← List.append_assoc]; rfl, by rw [depP_cons, depP_cons, ← List.append_assoc]; rfl⟩
theorem fo_end (t : Tm) : fo t t.enc.length = [] := by
  have h := (fo_drop t _ (Nat.le_refl _)).1
  rw [List.drop_length] at h
  cases hf : fo t t.enc.length with
  | nil => rfl
  | cons p r =>
    rw [hf] at h
    have h2 : p.1.enc ++ encP r = [] := by rw [h]; simp [encP]
    exact absurd (List.append_eq_nil_iff.mp h2).1 p.1.enc_ne
/-- what a node is, and the forests before and behind it -/
inductive FoAt (t : Tm) (i : Nat) (v : V) (d : Nat) : Prop
  | var (n : Nat) (r) : v = .int (n : Int) → fo t i = (.var n, d) :: r → fo t (i + 1) = r → FoAt t i v d
  | lam (b : Tm) (r) : v = .str "lam" → fo t i = (.lam b, d) :: r → fo t (i + 1) = (b, d + 1) :: r → FoAt t i v d
  | app (f a : Tm) (r) : v = .str "app" → fo t i = (.app f a, d) :: r → fo t (i + 1) = (f, d) :: (a, d) :: r → FoAt t i v d
theorem fo_at {t : Tm} {i : Nat} {v : V} {d : Nat} (hv : t.enc[i]? = some v) (hd : (t.deps 0)[i]? = some d) : FoAt t i v d := by
  have hi := (List.getElem?_eq_some_iff.mp hv).1
  obtain ⟨h1, h2⟩ := fo_drop t i (by omega)
  cases hf : fo t i with
  | nil =>
    rw [hf] at h1
    have := congrArg List.length h1
    simp [encP] at this
    omega
  | cons p r =>
    obtain ⟨u, d'⟩ := p
    have e3 : fo t (i + 1) = (match (u, d') :: r with
      | [] => []
      | (.var _, _) :: r => r
      | (.lam b, d) :: r => (b, d + 1) :: r
      | (.app f a, d) :: r => (f, d) :: (a, d) :: r) := by rw [← hf]; rfl
    rw [hf, encP_cons, drop_at hv] at h1
    rw [hf, depP_cons, drop_at hd] at h2
    cases u with
    | var n =>
      have a1 := (List.cons.inj (show v :: _ = V.int n :: _ from h1)).1
      have a2 := (List.cons.inj (show d :: _ = d' :: _ from h2)).1
      subst a2
      exact .var n r a1 hf e3
    | lam b =>
      have a1 := (List.cons.inj (show v :: _ = V.str "lam" :: _ from h1)).1
      have a2 := (List.cons.inj (show d :: _ = d' :: _ from h2)).1
      subst a2
      exact .lam b r a1 hf e3
    | app f a =>
      have a1 := (List.cons.inj (show v :: _ = V.str "app" :: _ from h1)).1
      have a2 := (List.cons.inj (show d :: _ = d' :: _ from h2)).1
      subst a2
      exact .app f a r a1 hf e3
theorem fo_lams (t : Tm) : ∀ i, ∀ p ∈ fo t i, p.2 + p.1.lams ≤ t.lams
  | 0, p, hp => by
    rw [show fo t 0 = [(t, 0)] from rfl] at hp
    rw [List.mem_singleton.mp hp]
    exact Nat.le_of_eq (Nat.zero_add _)
  | i + 1, p, hp => by
    have ih := fo_lams t i
    rw [show fo t (i + 1) = (match fo t i with
      | [] => []
      | (.var _, _) :: r => r
      | (.lam b, d) :: r => (b, d + 1) :: r
      | (.app f a, d) :: r => (f, d) :: (a, d) :: r) from rfl] at hp
    split at hp
    · cases hp
    · rename_i r e
      rw [e] at ih
      exact ih p (List.mem_cons_of_mem _ hp)
    · rename_i b d r e
      rw [e] at ih
      rcases List.mem_cons.mp hp with rfl | hp
      · have := ih _ List.mem_cons_self
        simp only [Tm.lams] at this
        show d + 1 + b.lams ≤ _
        omega
      · exact ih p (List.mem_cons_of_mem _ hp)
    · rename_i f a d r e
      rw [e] at ih
      have h0 := ih _ List.mem_cons_self
      simp only [Tm.lams] at h0
      rcases List.mem_cons.mp hp with rfl | hp
      · show d + f.lams ≤ _
        omega
      · rcases List.mem_cons.mp hp with rfl | hp
        · show d + a.lams ≤ _
          omega
        · exact ih p (List.mem_cons_of_mem _ hp)
theorem fo_ok {t : Tm} {m : Nat} (h : okF m 0 t) : ∀ i, ∀ p ∈ fo t i, okF m p.2 p.1
  | 0, p, hp => by
    rw [show fo t 0 = [(t, 0)] from rfl] at hp
    rw [List.mem_singleton.mp hp]
    exact h
  | i + 1, p, hp => by
    have ih := fo_ok h i
    rw [show fo t (i + 1) = (match fo t i with
      | [] => []
      | (.var _, _) :: r => r
      | (.lam b, d) :: r => (b, d + 1) :: r
      | (.app f a, d) :: r => (f, d) :: (a, d) :: r) from rfl] at hp
    split at hp
    · cases hp
    · rename_i r e
      rw [e] at ih
      exact ih p (List.mem_cons_of_mem _ hp)
    · rename_i b d r e
      rw [e] at ih
      rcases List.mem_cons.mp hp with rfl | hp
      · exact ih (.lam b, d) List.mem_cons_self
      · exact ih p (List.mem_cons_of_mem _ hp)
    · rename_i f a d r e
      rw [e] at ih
      have h0 := ih _ List.mem_cons_self
      rcases List.mem_cons.mp hp with rfl | hp
      · exact h0.1
      · rcases List.mem_cons.mp hp with rfl | hp
        · exact h0.2
        · exact ih p (List.mem_cons_of_mem _ hp)
theorem encP_le : ∀ ps : List (Tm × Nat), ps.length ≤ (encP ps).length ∧ ∀ p ∈ ps, p.1.enc.length ≤ (encP ps).length
  | [] => ⟨Nat.zero_le _, fun p hp => nomatch hp⟩
  | (u, d) :: r => by
    obtain ⟨h1, h2⟩ := encP_le r
    have := List.length_pos_iff.mpr u.enc_ne
    rw [encP_cons, List.length_append, List.length_cons]
    refine ⟨by omega, fun p hp => ?_⟩
    rcases List.mem_cons.mp hp with rfl | hp
    · show u.enc.length ≤ _
      omega
    · have := h2 p hp
      omega
theorem fo_le {t : Tm} {i : Nat} (h : i ≤ t.enc.length) : (fo t i).length ≤ t.enc.length ∧ ∀ p ∈ fo t i, p.1.enc.length ≤ t.enc.length := by
  have e := congrArg List.length (fo_drop t i h).1
  rw [List.length_drop] at e
  obtain ⟨h1, h2⟩ := encP_le (fo t i)
  refine ⟨by omega, fun p hp => ?_⟩
  have := h2 p hp
  omega
/-- the texts that are written when the nodes from i on are done -/
def stk (bs fs : List (List Nat)) (t : Tm) (i : Nat) : List (List Nat) := ((fo t i).map fun p => shw bs fs p.2 p.1).reverse
end Ly
set_option Elab.async false
set_option linter.all false
set_option maxRecDepth 100000
set_option maxHeartbeats 2000000
namespace Ly
open PySem PySem.Spec PyProof.Rows L2 Evl
def rLCnt (K : PySem.W.Frag) : V → List V → Hp → VK → Prop := fun x xs H Q => ∃ (p : Addr) (ys : List V) (k : Str), x = .ref p ∧ xs = [.str k] ∧ SqL K H p ys ∧ (∀ y ∈ ys, (∃ i, y = .int i) ∨ ∃ z, y = .str z) ∧ Q (.int ((ys.countP (fun y => decide (y = .str k)) : Nat) : Int)) H
theorem mt_lcountS {X : Cx} {K : PySem.W.Frag} (e : X.K = K) : MtR X "list.count" (rLCnt K) := by
  subst e
  intro pins s σ H x xs v us Q I rx rxs h
  obtain ⟨p, ys, k, rfl, rfl, hs, hn, q⟩ := h
  cases rx
  obtain ⟨u, rfl, ru⟩ := rxs.one
  obtain ⟨t, rfl⟩ := ru
  obtain ⟨its, rv, ⟨⟨cls, dd, data, sl⟩, n, ho, hc, hdn, hd⟩, hlen⟩ := I.list hs
  simp only at hc hd
  subst hc hd
  refine call_meets PySem.F.slot_list_count ⟨_, ho, rfl⟩ PySem.F.entry_list_count (PySem.F.args_list_count_2 _ _)
    (SeqAt.list_countAt p its.toArray n dd sl (.str k t) (eqS k)) ⟨ho, fun y hy => eqS_at rv hn y (by simpa using hy), ?_⟩
  have ec := eqS_count (k := k) rv hn
  refine ⟨.int ((ys.countP (fun y => decide (y = .str k)) : Nat) : Int), H, I.tok _, ⟨s.toks, ?_⟩, q⟩
  show Value.int ((its.toArray.toList.countP (eqS k) : Nat) : Int) s.toks = Value.int _ s.toks
  rw [show its.toArray.toList = its from rfl, ec]
theorem pe_bmK {X : Cx} {K : PySem.W.Frag} {o e : Expr} {es : List Expr} {to : TE} {t : TA} {T : String} {name : Str} {id : String} {apos cpos : Pos} {r : V → List V → Hp → VK → Prop} (eK : X.K = K) (pa : PlainAttrs T) (slot : Slot T name id) (hty : typeOf (.builtin id) = pure (.type "method_descriptor")) (hm : MtR X id r) (ho : PE X o to) (ha : PA X (e :: es) t)
    (hbase : attributeBase o name X.env (eval o X.env) = eval o X.env := by rfl)
    (hfew : ((backTo cpos (starEach (e :: es) X.env)).all (fun x => !x.1) && (backToKw cpos (keywordEach [] X.env)).all (fun x => x.1.isSome)
      && decide ((e :: es).length + ([] : List Keyword).length + (if ([] : List Keyword).isEmpty then 0 else 1) < 30)) = true := by rfl)
    (hline : (apos.endLine == cpos.line) = true := by rfl) (hs : starEach (e :: es) X.env = (false, eval e X.env) :: starEach es X.env := by rfl) (hplain : (backTo cpos (starEach es X.env)).any (·.1) = false := by rfl) :
    PE X (.Call (.Attribute o name apos) (e :: es) [] cpos) (tBM K T r to t) := by
  subst eK
  exact pe_bm pa slot hty hm ho ha hbase hfew hline hs hplain
theorem count_plcs (ws : List (List Nat)) (r : List Nat) : (plcs ws).countP (fun y => decide (y = V.str (pl r))) = ws.count r := by
  induction ws with
  | nil => rfl
  | cons w ws ih =>
    show (V.str (pl w) :: plcs ws).countP _ = _
    rw [List.countP_cons, List.count_cons, ih]
    by_cases e : w = r
    · subst e; simp
    · have : ¬ (V.str (pl w) = V.str (pl r)) := fun z => e (pl_inj (V.str.inj z))
      simp [this, e]
theorem erase_map {α β : Type} (f : α → β) : ∀ (ws : List α) (k : Nat), (ws.map f).eraseIdx k = (ws.eraseIdx k).map f
  | [], _ => rfl
  | _ :: _, 0 => rfl
  | w :: ws, k + 1 => by
    show f w :: (ws.map f).eraseIdx k = f w :: (ws.eraseIdx k).map f
    rw [erase_map f ws k]
theorem pl_sp : (" " : Str) = pl [32] := by decide +kernel
theorem pl_dsp : (". " : Str) = pl [46, 32] := by decide +kernel
theorem getD_at {ws : List (List Nat)} {i : Nat} (h : i < ws.length) : ws[i]? = some (ws.getD i []) := by
  rw [List.getD_eq_getElem?_getD, List.getElem?_eq_getElem h]
  rfl
theorem plcs_at {ws : List (List Nat)} {i : Nat} (h : i < ws.length) : (plcs ws)[i]? = some (.str (pl (ws.getD i []))) := by
  rw [List.getElem?_map, getD_at h]
  rfl
theorem em_lp : Str.empty ++ ("(" : Str) = pl [40] := by decide +kernel
theorem lp_rp (w : List Nat) : pl w ++ (")" : Str) = pl (w ++ [41]) := by rw [← pl_rp, pl_app]
theorem sp_sp (w : List Nat) : pl w ++ (" " : Str) = pl (w ++ [32]) := by rw [pl_sp, pl_app]
theorem cut_plcs (bs : List (List Nat)) {d n : Nat} (h : d + n ≤ bs.length) : cutV (plcs bs) (some (d : Int)) (some ((d + n : Nat) : Int)) = plcs ((bs.drop d).take n) := by
  unfold cutV
  rw [HT.sIx_nat, HT.sIx_nat, List.length_map, Nat.min_eq_left (by omega), Nat.min_eq_left (by omega), show d + n - d = n by omega, ← List.map_drop, ← List.map_take]
theorem nms_sum : ∀ {ws : List (List Nat)}, Nms ws → (ws.map List.length).sum ≤ 10 * ws.length
  | [], _ => Nat.zero_le _
  | w :: r, h => by
    have ih := nms_sum (ws := r) fun v hv => h v (List.mem_cons_of_mem _ hv)
    obtain ⟨_, _, _, _, _, hl⟩ := nm_head (h w List.mem_cons_self)
    rw [List.map_cons, List.sum_cons, List.length_cons]
    omega
theorem join_len : ∀ ws : List (List Nat), (joinW ws).length ≤ (ws.map List.length).sum + ws.length
  | [] => Nat.zero_le _
  | [w] => by simp [joinW]
  | w :: v :: r => by
    have ih := join_len (v :: r)
    show (w ++ 32 :: joinW (v :: r)).length ≤ _
    rw [List.length_append, List.length_cons, List.map_cons, List.sum_cons, List.length_cons]
    omega
theorem lamN_lo {b : Tm} {post : List V} : ∀ (n k : Nat), k < n → ((Tm.lamN n b).enc ++ post)[k]? = some (.str "lam")
  | 0, _, h => absurd h (Nat.not_lt_zero _)
  | n + 1, 0, _ => rfl
  | n + 1, k + 1, h => by
    show ((Tm.lamN n b).enc ++ post)[k]? = _
    exact lamN_lo n k (by omega)
theorem lamN_drop {b : Tm} {post : List V} : ∀ n : Nat, ((Tm.lamN n b).enc ++ post).drop n = b.enc ++ post
  | 0 => rfl
  | n + 1 => by
    show ((Tm.lamN n b).enc ++ post).drop n = _
    exact lamN_drop n
theorem lamN_lams (b : Tm) : ∀ n, (Tm.lamN n b).lams = n + b.lams
  | 0 => (Nat.zero_add _).symm
  | n + 1 => by
    show (Tm.lamN n b).lams + 1 = _
    rw [lamN_lams b n]
    omega
theorem lamN_ok {m : Nat} {b : Tm} : ∀ (n d : Nat), okF m d (Tm.lamN n b) → okF m (d + n) b
  | 0, _, h => h
  | n + 1, d, h => by
    have := lamN_ok n (d + 1) h
    rw [show d + (n + 1) = d + 1 + n by omega]
    exact this
theorem lamN_len (b : Tm) : ∀ n, (Tm.lamN n b).enc.length = n + b.enc.length
  | 0 => (Nat.zero_add _).symm
  | n + 1 => by
    show (Tm.lamN n b).enc.length + 1 = _
    rw [lamN_len b n]
    omega
theorem nm_small2 {w : List Nat} (h : nmB w = true) : ∀ c ∈ w, c < 200 := by
  cases w with
  | nil => cases h
  | cons c ds => ?_
  have h : (isLow c && ds.all isDig && decide (ds.length ≤ 9)) = true := h
  rw [Bool.and_eq_true, Bool.and_eq_true] at h
  obtain ⟨⟨hc, hd⟩, _⟩ := h
  have hc := of_decide_eq_true hc
  intro x hx
  rcases List.mem_cons.mp hx with e | hx
  · omega
  · have := of_decide_eq_true (List.all_eq_true.mp hd _ hx)
    omega
theorem par_small {c : Bool} {w : List Nat} (h : ∀ x ∈ w, x < 200) : ∀ x ∈ par c w, x < 200 := by
  unfold par
  split
  · intro x hx
    simp only [List.mem_cons, List.mem_append, List.mem_singleton, List.not_mem_nil, or_false] at hx
    rcases hx with rfl | hx | rfl
    · decide
    · exact h x hx
    · decide
  · exact h
theorem shw_small {bs fs : List (List Nat)} (hb : Nms bs) (hf : Nms fs) : ∀ (t : Tm) (d : Nat), d + t.lams ≤ bs.length → okF fs.length d t → ∀ c ∈ shw bs fs d t, c < 200
  | .var i, d, hd, h => nm_small2 (shw_var hb hf (i := i) (by simpa [Tm.lams] using hd) h)
  | .lam b, d, hd, h => by
    simp only [Tm.lams] at hd
    have ih := shw_small hb hf b (d + 1) (by omega) h
    have hn := nm_small2 (hb.get (i := d) (by omega))
    show ∀ c ∈ abT _ _ _, c < 200
    unfold abT
    split
    · intro x hx
      simp only [List.mem_cons, List.mem_append] at hx
      rcases hx with rfl | hx | rfl | hx
      · decide
      · exact hn x hx
      · decide
      · exact ih x (List.mem_of_mem_drop hx)
    · intro x hx
      simp only [List.mem_cons, List.mem_append] at hx
      rcases hx with rfl | hx | rfl | rfl | hx
      · decide
      · exact hn x hx
      · decide
      · decide
      · exact ih x hx
  | .app f a, d, hd, h => by
    simp only [Tm.lams] at hd
    have i1 := par_small (c := f.isL) (shw_small hb hf f d (by omega) h.1)
    have i2 := par_small (c := !a.isV) (shw_small hb hf a d (by omega) h.2)
    intro x hx
    rcases List.mem_append.mp (show x ∈ par f.isL (shw bs fs d f) ++ 32 :: par (!a.isV) (shw bs fs d a) from hx) with hx | hx
    · exact i1 x hx
    · rcases List.mem_cons.mp hx with rfl | hx
      · decide
      · exact i2 x hx
theorem shaped_z {w : List Nat} (h : ∀ c ∈ w, c < 200) : SeqAt.shaped (.str (pl w)) = true := by
  have h1 := shaped_pl (qs := [w]) (fun q hq => by rw [List.mem_singleton.mp hq]; exact h)
  unfold SeqAt.shaped at h1 ⊢
  rw [Bool.and_eq_true] at h1 ⊢
  refine ⟨?_, by simp [PyData.depth]⟩
  have h2 : ((dv (V.str (pl w))).canLay0 && true) = true := h1.1
  rw [Bool.and_true] at h2
  exact h2
theorem w_eqZ {K : PySem.W.Frag} {H : Hp} {Q : VK} {w : List Nat} (o : ∀ c ∈ w, c < 200) (q : Q (.bl true) H) : rEqD K (.str (pl w)) (.str (pl w)) H Q :=
  ⟨_, _, .str _, .str _, shaped_z o, shaped_z o, by rw [show PyData.eqv (.str (pl w)) (.str (pl w)) = true by simp [PyData.eqv]]; exact q⟩
theorem pl_abc : ("abcdefghijklmnopqrstuvwxyz" : Str) = pl (List.range' 97 26) := by decide +kernel
theorem get_abc {c : Nat} (h : c < 26) : (List.range' 97 26)[c]? = some (97 + c) := by
  rw [List.getElem?_range' h, Nat.one_mul]
theorem fmod26 (n : Nat) : (n : Int).fmod ((26 : Nat) : Int) = ((n % 26 : Nat) : Int) := by
  rw [Int.fmod_eq_emod_of_nonneg _ (by omega)]
  rfl
theorem fdiv26 (n : Nat) : (n : Int).fdiv ((26 : Nat) : Int) = ((n / 26 : Nat) : Int) := by
  rw [Int.fdiv_eq_ediv_of_nonneg _ (by omega)]
  rfl
theorem let_in (c : Nat) : decide (c ∈ ("abcdefghijklmnopqrstuvwxyz" : Str).cps.toList) = isLow c := by
  have e : ("abcdefghijklmnopqrstuvwxyz" : Str).cps.toList = List.range' 97 26 := by decide +kernel
  rw [e]
  unfold isLow
  rw [decide_eq_decide, List.mem_range'_1]
  omega
theorem dig_in (c : Nat) : decide (c ∈ ("0123456789" : Str).cps.toList) = isDig c := by
  have e : ("0123456789" : Str).cps.toList = List.range' 48 10 := by decide +kernel
  rw [e]
  unfold isDig
  rw [decide_eq_decide, List.mem_range'_1]
  omega
section
variable {K : PySem.W.Frag} {H : Hp} {Q : VK} {σ : L2.St} {to te : TE} {R : It → Hp → Prop}
theorem w_lcnt {p : Addr} {ws : List (List Nat)} {r : List Nat} (h : H p = some (.lst (plcs ws))) (q : Q (.int (ws.count r : Nat)) H) : rLCnt K (.ref p) [.str (pl r)] H Q :=
  ⟨p, _, _, rfl, rfl, SqL.of h, fun y hy => by obtain ⟨w, _, rfl⟩ := List.mem_map.mp hy; exact .inr ⟨_, rfl⟩, by rw [count_plcs]; exact q⟩
theorem w_popAt {p : Addr} {ws : List (List Nat)} {r : List Nat} {k : Nat} (h : H p = some (.lst (plcs ws))) (hk : ws[k]? = some r) (hz : ws.length ≤ 1000000) (q : Q (.str (pl r)) (upd H p (.lst (plcs (ws.eraseIdx k))))) : rPopAt (.ref p) [.int (k : Int)] H Q := by
  have hl := (List.getElem?_eq_some_iff.mp hk).1
  refine ⟨p, _, _, k, _, rfl, rfl, h, by omega, by omega, ?_, by rw [List.getElem?_map, hk]; rfl, ?_⟩
  · rw [List.length_map]
    unfold seqIndex?
    simp
    omega
  · have : (plcs ws).eraseIdx k = plcs (ws.eraseIdx k) := erase_map _ _ _
    rw [this]
    exact q
theorem w_m1 {r : V → List V → Hp → VK → Prop} (h : to σ H fun x H1 => (∃ a, x = .str a) ∧ te σ H1 fun y H2 => r x [y] H2 Q) : tM1 r to te σ H Q := h
theorem w_m11 {z : Str} {B : Prop} (q : B) : (∃ a, V.str z = .str a) ∧ B := ⟨⟨z, rfl⟩, q⟩
theorem w_st2 {z u : Str} {B : Str → Str → Prop} (q : B z u) : ∃ a b, V.str z = .str a ∧ [V.str u] = [.str b] ∧ B a b := ⟨z, u, rfl, rfl, q⟩
theorem w_sg {c : Nat} {z : Str} {B : Nat → Str → Prop} (q : B c z) : ∃ (c' : Nat) (z' : Str), V.str (pl [c]) = .str ⟨#[c']⟩ ∧ V.str z = .str z' ∧ B c' z' := ⟨c, z, rfl, rfl, q⟩
theorem w_sg2 {c : Nat} {z : Str} {B : Nat → Str → Prop} (q : B c z) : ∃ (c' : Nat) (z' : Str), V.str ⟨#[c]⟩ = .str ⟨#[c']⟩ ∧ V.str z = .str z' ∧ B c' z' := ⟨c, z, rfl, rfl, q⟩
theorem w_sgSp {z : Str} {B : Nat → Str → Prop} (q : B 32 z) : ∃ (c' : Nat) (z' : Str), V.str " " = .str ⟨#[c']⟩ ∧ V.str z = .str z' ∧ B c' z' := by
  have e : ((" " : Str)) = pl [32] := by decide +kernel
  exact ⟨32, z, by rw [e]; rfl, rfl, q⟩
theorem w_join {p : Addr} {ws : List (List Nat)} {B : Str → Addr → List Str → Prop} (h : H p = some (.lst (plcs ws))) (hz : (ws.map List.length).sum + ws.length ≤ 16000000) (q : B (pl [32]) p (ws.map pl)) :
    ∃ a p', ∃ ys : List Str, V.str " " = .str a ∧ [V.ref p] = [.ref p'] ∧ (SqL K H p' (ys.map V.str) ∨ SqT K H p' (ys.map V.str)) ∧ (ys.map (·.length)).sum + ys.length * a.length ≤ 16777216 ∧ B a p' ys := by
  have e : ((" " : Str)) = pl [32] := by decide +kernel
  refine ⟨pl [32], p, ws.map pl, by rw [e], rfl, .inl (SqL.of (by rw [h, List.map_map]; rfl)), ?_, q⟩
  have e2 : ((ws.map pl).map (·.length)) = ws.map List.length := by
    rw [List.map_map]
    exact List.map_congr_left fun w _ => pl_len w
  rw [e2, List.length_map, pl_len]
  simp
  omega
theorem w_fmtS {w : List Nat} {A : Prop} {B : Str → Prop} (hl : w.length ≤ 1000000) (q : B (pl w)) : (∃ y : Str, V.str (pl w) = .str y ∧ y.length ≤ sizeLine ∧ B y) ∨ A := .inl ⟨_, rfl, by rw [pl_len]; exact ly_sz (by omega), q⟩
theorem w_js0 {w : List Nat} {A : Str → Prop} (hl : w.length ≤ 1000000) (q : A (pl w)) : ∃ y : Str, V.str (pl w) = .str y ∧ (Str.empty ++ y).length ≤ sizeLine ∧ A y :=
  ⟨_, rfl, by rw [show Str.empty = pl [] from rfl, pl_app, pl_len]; exact ly_sz (by simp; omega), q⟩
theorem w_js2 {a w : List Nat} {A : Str → Prop} (hl : a.length + w.length ≤ 1000000) (q : A (pl w)) : ∃ y : Str, V.str (pl w) = .str y ∧ (pl a ++ y).length ≤ sizeLine ∧ A y :=
  ⟨_, rfl, by rw [pl_app, pl_len]; exact ly_sz (by simp; omega), q⟩
theorem pl_em (w : List Nat) : Str.empty ++ pl w = pl w := by rw [show Str.empty = pl [] from rfl, pl_app]; rfl
theorem lc_str {z : Str} {g : TG} {tt : TT} {te : TE} {vs : List Nat} {H1 : Hp} {Dl : Addr} (Pv : Nat → Hp → Prop) (h0 : Pv 0 (upd H1 Dl (.lst [])))
    (hs : ∀ i c H, z.cps[i]? = some c → Pv i H → g (.str ⟨#[c]⟩) (wipe σ vs) H fun σ2 H2 => wipe σ2 vs = wipe σ vs ∧ tt σ2 H2 fun b H3 =>
      if b = true then te σ2 H3 fun y H4 => ∃ acc, H4 Dl = some (.lst acc) ∧ acc.length < sizeLine ∧ Pv (i + 1) (upd H4 Dl (.lst (acc ++ [y]))) else Pv (i + 1) H3) (hd : ∀ H, Pv z.cps.size H → Q (.ref Dl) H) : LcB (Its z) g tt te vs Q σ H1 Dl := by
  refine ⟨fun i m H => m = z.cps.size - i ∧ i ≤ z.cps.size ∧ Pv i H, ⟨_, rfl, Nat.zero_le _, h0⟩, ?_⟩
  rintro i m H ⟨rfl, hi, p⟩
  by_cases hlt : i < z.cps.size
  · refine .inr ⟨hlt, Pv (i + 1), fun H' p' => ⟨z.cps.size - (i + 1), by omega, rfl, hlt, p'⟩, fun x H' y => ?_⟩
    obtain ⟨e, c, hc, ex⟩ := y
    subst e ex
    exact hs i c _ hc p
  · have e : i = z.cps.size := by omega
    subst e
    exact .inl ⟨Nat.le_refl _, hd H p⟩
end
end Ly
set_option Elab.async false
set_option linter.all false
set_option maxRecDepth 100000
set_option maxHeartbeats 8000000
namespace Ly
open PySem PySem.Spec PyProof.Rows L2 Evl
local macro_rules | `(tactic| walk_at "ne") => `(tactic| first
  | assumption
  | ((refine' Ne.symm ?hq); (case hq => assumption))
  | ((refine' ne_of_none ?nh1 ?nh2); (case nh2 => assumption); (case nh1 => walk_at "hp"))
  | ((refine' Ne.symm (ne_of_none ?nh1 ?nh2)); (case nh2 => assumption); (case nh1 => walk_at "hp")))
local macro_rules | `(tactic| walk_at "hp") => `(tactic| first
  | assumption
  | exact upd_same
  | ((refine' SqL.of ?hq); (case hq => walk_at "hp"))
  | ((refine' SqT.of ?hq); (case hq => walk_at "hp"))
  | ((refine' (upd_ne ?hne).trans ?hrest); (case hne => walk_at "ne"); (case hrest => walk_at "hp"))
  | ((refine' ly_at ?hex ?hh); (case hex => assumption); (case hh => walk_at "hp"))
  | ((refine' ly_atF ?hex ?hnn ?hh); (case hex => assumption); (case hh => walk_at "hp"); (case hnn => walk_at "ne"))
  | ((refine' ex_t ?hex ?hh); (case hh => assumption); (case hex => walk_at "ex"))
  | ((refine' ex_l ?hex ?hh); (case hh => assumption); (case hex => walk_at "ex")))
local macro_rules | `(tactic| walk_at "ex") => `(tactic| first
  | assumption
  | exact Ex.refl _
  | ((refine' ex_new ?xa ?xb); (case xb => assumption); (case xa => walk_at "ex"))
  | ((refine' ex_upd ?xa ?xb); (case xb => walk_at "free"); (case xa => walk_at "ex"))
  | ((refine' Ex.trans ?xa ?xb); (case xb => assumption); (case xa => walk_at "ex")))
local macro_rules | `(tactic| walk_at "free") => `(tactic| first
  | assumption
  | ((refine' fresh_back ?xa ?xb); (case xb => assumption); (case xa => walk_at "ex")))
local macro_rules | `(tactic| walk_at "fr") => `(tactic| first
  | assumption
  | exact Fr.refl _ _
  | ((refine' Fr.own ?hq); (case hq => walk_at "fr"))
  | ((refine' Fr.new ?xa ?xb); (case xb => assumption); (case xa => walk_at "fr"))
  | ((refine' Fr.mut ?xa ?xb); (case xb => assumption); (case xa => walk_at "fr"))
  | ((refine' Fr.trans ?xa ?xb); (case xb => assumption); (case xa => walk_at "fr"))
  | ((refine' Fr.trans ?xa (Fr.ex ?xb)); (case xb => assumption); (case xa => walk_at "fr")))
local macro_rules | `(tactic| walk_at "go1") => `(tactic| first
  | (with_reducible refine' w_seq ?_)
  | (with_reducible refine' w_asg ?_)
  | (with_reducible refine' w_ret ?_)
  | (with_reducible refine' w_drop ?_)
  | (with_reducible refine' w_if ?_)
  | (with_reducible refine' w_next ?_)
  | (with_reducible refine' w_name ?_)
  | (with_reducible refine' w_sub ?_)
  | ((with_reducible refine' w_var ?hv ?_); (case hv => exact rfl))
  | (with_reducible refine' w_c ?_)
  | (with_reducible refine' w_op ?_)
  | (with_reducible refine' w_un ?_)
  | (with_reducible refine' w_ch ?_)
  | (with_reducible refine' w_I0 ?_)
  | ((with_reducible refine' w_I ?hc ?_); (case hc => first | (exact ly_mulL (by decide) (by decide)) | (exact ly_mulR (by decide) (by decide)) | (exact ly_mulL (by omega) (by omega)) | (show (_ : Int) ≠ 0; decide) | (show (_ : Int) ≠ 0; omega) | (exact ⟨by decide, by decide⟩) | (exact ⟨by omega, by omega⟩)))
  | (with_reducible refine' w_U ?_)
  | ((with_reducible refine' w_eq ?hs ?_); (case hs => exact rfl))
  | ((with_reducible refine' w_ne ?hs ?_); (case hs => exact rfl))
  | (with_reducible refine' w_isB ?_)
  | (with_reducible refine' w_notB ?_)
  | (with_reducible refine' w_nil ?_)
  | (with_reducible refine' w_cons ?_)
  | (with_reducible refine' w_tup ?_)
  | (with_reducible refine' w_lst ?_)
  | (with_reducible refine' w_cb ?_)
  | (with_reducible refine' w_call ?_)
  | (with_reducible refine' w_bm ?_)
  | (with_reducible refine' w_bm0 ?_)
  | ((with_reducible refine' w_app ?hh ?hz ?_); (case hh => walk_at "hp"); (case hz => first | exact ly_lt (by omega) | exact ly_lt (by simp only [List.length_append, List.length_map, List.length_cons, List.length_nil]; omega)))
  | ((with_reducible refine' w_popA ?hh ?_); (case hh => walk_at "hp"))
  | ((with_reducible refine' w_ext ?hh ?hh2 ?hz ?_); (case hh => walk_at "hp"); (case hh2 => walk_at "hp"))
  | ((with_reducible refine' w_ixL ?hh ?ha ?_); (case hh => walk_at "hp"); (case ha => first | exact rfl | exact at_map (by omega) | exact atI_last _ _ | ((refine' at_of ?ae ?ah); (case ah => assumption); (case ae => omega))))
  | ((with_reducible refine' w_ixT ?hh ?ha ?_); (case hh => walk_at "hp"); (case ha => first | exact rfl | exact at_map (by omega) | exact atI_last _ _ | ((refine' at_of ?ae ?ah); (case ah => assumption); (case ae => omega))))
  | ((with_reducible refine' w_cat ?hh ?hh2 ?hz ?_); (case hh => walk_at "hp"); (case hh2 => walk_at "hp"))
  | ((with_reducible refine' w_setL ?hh ?ha ?_); (case hh => walk_at "hp"); (case ha => exact rfl))
  | (with_reducible refine' w_test ?_)
  | (with_reducible refine' w_tB ?_)
  | (with_reducible refine' w_bl ?_)
  | (with_reducible refine' w_and ?_)
  | (with_reducible refine' w_or ?_)
  | (with_reducible refine' w_not ?_)
  | (with_reducible refine' w_andV ?_)
  | (with_reducible refine' w_orV ?_)
  | (with_reducible refine' w_notV ?_)
  | (with_reducible refine' w_ifE ?_)
  | (with_reducible refine' w_for ?_)
  | ((with_reducible refine' w_nin ?hh ?_); (case hh => walk_at "hp"))
  | ((with_reducible refine' w_sorted ?hh ?_); (case hh => walk_at "hp"))
  | (with_reducible refine' w_tsadd ?_)
  | ((with_reducible refine' w_tsadd1 ?hh ?_); (case hh => walk_at "hp"))
  | ((with_reducible refine' w_sadd ?hh ?hr ?_); (case hh => walk_at "hp"); (case hr => omega))
  | (with_reducible refine' w_iZ ?_)
  | ((with_reducible refine' w_iZ1 ?hh ?hh2 ?_); (case hh => walk_at "hp"); (case hh2 => walk_at "hp"))
  | (with_reducible refine' w_iS ?_)
  | (with_reducible refine' w_iS1 ?_)
  | ((with_reducible refine' w_gtup ?hh ?hn ?_); (case hh => walk_at "hp"); (case hn => exact rfl))
  | (with_reducible refine' w_gcons ?_)
  | (with_reducible refine' w_gnil ?_)
  | (with_reducible refine' w_js ?_)
  | (with_reducible refine' w_jsn ?_)
  | ((with_reducible refine' w_js1 ?hl ?_); (case hl => decide +kernel))
  | (with_reducible refine' w_fmt ?_)
  | ((with_reducible refine' w_fmt1 ?hl ?_); (case hl => decide +kernel))
  | (with_reducible refine' w_callS ?_)
  | ((with_reducible refine' w_truL ?hh ?_); (case hh => walk_at "hp"))
  | (with_reducible refine' w_lc ?_)
  | (with_reducible refine' w_yes ?_)
  | ((with_reducible refine' w_wipe ?he ?_); (case he => exact rfl))
  | (with_reducible refine' w_iL ?_)
  | (with_reducible refine' w_iT ?_)
  | (with_reducible refine' w_iR ?_)
  | ((with_reducible refine' w_iL1 ?hh ?_); (case hh => walk_at "hp"))
  | ((with_reducible refine' w_iT1 ?hh ?_); (case hh => walk_at "hp"))
  | ((with_reducible refine' w_iR1 ?h1 ?h2 ?_); (case h1 => omega); (case h2 => omega))
  | ((with_reducible refine' w_aug ?hv ?_); (case hv => exact rfl))
  | (with_reducible refine' w_ipI ?_)
  | ((with_reducible refine' w_isi ?hy ?hk ?_); (case hy => walk_at "ty"); (case hk => walk_at "kit"))
  | ((with_reducible refine' w_int ?_))
  | ((with_reducible refine' w_intB ?_))
  | ((with_reducible refine' w_abs ?_))
  | ((with_reducible refine' w_lenL ?hh ?_); (case hh => walk_at "hp"))
  | ((with_reducible refine' w_lenT ?hh ?_); (case hh => walk_at "hp"))
  | ((with_reducible refine' w_tupL ?hh ?_); (case hh => walk_at "hp"))
  | ((with_reducible refine' w_tupT ?hh ?_); (case hh => walk_at "hp"))
  | ((with_reducible refine' w_catA ?hh ?hh2 ?hz ?_); (case hh => walk_at "hp"); (case hh2 => walk_at "hp"); (case hz => walk_at "len"))
  | ((with_reducible refine' w_repB ?hh ?hne ?h2 ?h3 ?hz ?_); (case hh => walk_at "hp"); (case hne => simp); (case h2 => omega); (case h3 => omega); (case hz => exact Nat.le_of_ble_eq_true rfl))
  | ((with_reducible refine' w_eqN ?hh ?hh2 ?n1 ?n2 ?_); (case hh => walk_at "hp"); (case hh2 => walk_at "hp"); (case n1 => walk_at "nd"); (case n2 => walk_at "nd"))
  | ((with_reducible refine' w_neN ?hh ?hh2 ?n1 ?n2 ?_); (case hh => walk_at "hp"); (case hh2 => walk_at "hp"); (case n1 => walk_at "nd"); (case n2 => walk_at "nd"))
  | ((with_reducible refine' w_eqL ?hh ?hh2 ?n1 ?n2 ?_); (case hh => walk_at "hp"); (case hh2 => walk_at "hp"); (case n1 => walk_at "nd"); (case n2 => walk_at "nd"))
  | ((with_reducible refine' w_neL ?hh ?hh2 ?n1 ?n2 ?_); (case hh => walk_at "hp"); (case hh2 => walk_at "hp"); (case n1 => walk_at "nd"); (case n2 => walk_at "nd"))
  | ((with_reducible refine' w_neNon ?hh2 ?n2 ?_); (case hh2 => walk_at "hp"); (case n2 => walk_at "nd"))
  | ((with_reducible refine' w_eqNon ?hh2 ?n2 ?_); (case hh2 => walk_at "hp"); (case n2 => walk_at "nd"))
  | ((with_reducible refine' w_slA ?hh ?_); (case hh => walk_at "hp"))
  | ((with_reducible refine' w_disp ?hz ?_); (case hz => exact sz_of (Nat.le_of_ble_eq_true rfl)))
  | ((with_reducible refine' w_tyL ?hh ?_); (case hh => walk_at "hp"))
  | (with_reducible refine' iteT ?_)
  | (with_reducible refine' iteF ?_)
  | (with_reducible refine' w_nT ?_)
  | (with_reducible refine' w_nn ?_)
  | (with_reducible refine' w_nnT ?_)
  | (with_reducible refine' w_nnR ?_)
  | (with_reducible refine' w_neG ?_)
  | (with_reducible refine' w_eqG ?_)
  | (with_reducible refine' w_neS ?_)
  | (with_reducible refine' w_eqS ?_)
  | (with_reducible refine' w_neSb ?_)
  | (with_reducible refine' w_eqSb ?_)
  | (with_reducible refine' w_deIS ?_)
  | (with_reducible refine' w_deSI ?_)
  | (with_reducible refine' w_deISn ?_)
  | ((with_reducible refine' w_deST ?he ?_); (case he => decide +kernel))
  | ((with_reducible refine' w_deSF ?he ?_); (case he => decide +kernel))
  | ((with_reducible refine' w_deSTn ?he ?_); (case he => decide +kernel))
  | ((with_reducible refine' w_deSFn ?he ?_); (case he => decide +kernel))
  | (with_reducible refine' w_nF ?_)
  | dsimp only [Bool.not_true, Bool.not_false])
local macro_rules | `(tactic| walk_at "ty") => `(tactic| first
  | exact .base (.int _) | exact .base (.str _) | exact .base (.bl _) | exact .base .non
  | ((refine' tyx_t ?hq); (case hq => walk_at "hp")) | ((refine' tyx_l ?hq); (case hq => walk_at "hp")) | ((refine' .base (.tup ?hq)); (case hq => walk_at "hp")) | assumption)
local macro_rules | `(tactic| walk_at "go") => `(tactic| repeat walk_at "go1")
local macro_rules | `(tactic| walk_at "st") => `(tactic| try dsimp only [cxOf, Cx.nox, Cx.wish])
local macro_rules | `(tactic| walk_at "kit") => `(tactic| with_reducible first | exact kit_int_int | exact kit_int_str | exact kit_int_bool | exact kit_int_tuple | exact kit_int_list | exact kit_str_int | exact kit_str_str | exact kit_str_bool | exact kit_str_tuple | exact kit_str_list | exact kit_bool_int | exact kit_bool_str | exact kit_bool_bool | exact kit_bool_tuple | exact kit_bool_list | exact kit_NoneType_int | exact kit_NoneType_str | exact kit_NoneType_bool | exact kit_NoneType_tuple | exact kit_NoneType_list | exact kit_list_int | exact kit_list_str | exact kit_list_bool | exact kit_list_tuple | exact kit_list_list | exact kit_tuple_int | exact kit_tuple_str | exact kit_tuple_bool | exact kit_tuple_tuple | exact kit_tuple_list)
local macro_rules | `(tactic| walk_at "nd") => `(tactic| first
  | assumption
  | exact Tm.nds _
  | exact Nds.nil
  | exact Nds.ofInts _
  | ((refine' Nds.cons ?na ?nb); (case na => first | exact Nds.I _ | exact Nds.L | exact Nds.A); (case nb => walk_at "nd"))
  | ((refine' Nds.app ?na ?nb); (case na => walk_at "nd"); (case nb => walk_at "nd"))
  | ((refine' Nds.rep ?na _); (case na => walk_at "nd")))
local macro_rules | `(tactic| walk_at "len") => `(tactic| first
  | exact ly_sz (by omega)
  | ((simp only [List.length_append, List.length_cons, List.length_nil, List.length_map, PyProof.Rows.lm_len_rep_flat]); exact ly_sz (by omega)))
local macro_rules | `(tactic| walk_at "go1") => `(tactic| first
  | (with_reducible refine' w_kget2 ?_)
  | (with_reducible refine' w_isRN ?_)
  | (with_reducible refine' w_isNN ?_)
  | (with_reducible refine' w_isIN ?_)
  | ((with_reducible refine' w_kg ?hd ?_); (case hd => assumption)))
def topS (i : Nat) : Stmt := PySem.Challenge.pw_lydite_k13_show.main.body.getD i (.Pass ⟨0, 0, 0, 0⟩)
abbrev s_depths : Stmt := topS 4
theorem sc_depths : FnScope ["term", "found", "pending", "node", "depth"] ["term"] (defScope s_depths) := ⟨rfl, rfl, rfl, by decide +kernel, rfl, by decide +kernel, by decide +kernel⟩
abbrev s_is_name : Stmt := topS 9
theorem sc_is_name : FnScope ["value", "character"] ["value"] (defScope s_is_name) := ⟨rfl, rfl, rfl, by decide +kernel, rfl, by decide +kernel, by decide +kernel⟩
abbrev s_name_table : Stmt := topS 10
theorem sc_name_table : FnScope ["names", "table", "name"] ["names"] (defScope s_name_table) := ⟨rfl, rfl, rfl, by decide +kernel, rfl, by decide +kernel, by decide +kernel⟩
abbrev s_numbered_name : Stmt := topS 11
theorem sc_numbered_name : FnScope ["number", "letter", "rounds"] ["number"] (defScope s_numbered_name) := ⟨rfl, rfl, rfl, by decide +kernel, rfl, by decide +kernel, by decide +kernel⟩
abbrev s_bound_names : Stmt := topS 12
theorem sc_bound_names : FnScope ["count", "taken", "found", "number", "name"] ["count", "taken"] (defScope s_bound_names) := ⟨rfl, rfl, rfl, by decide +kernel, rfl, by decide +kernel, by decide +kernel⟩
abbrev s_written_variable : Stmt := topS 13
theorem sc_written_variable : FnScope ["number", "depth", "bound", "names"] ["number", "depth", "bound", "names"] (defScope s_written_variable) := ⟨rfl, rfl, rfl, by decide +kernel, rfl, by decide +kernel, by decide +kernel⟩
abbrev s_is_abstraction : Stmt := topS 14
theorem sc_is_abstraction : FnScope ["text"] ["text"] (defScope s_is_abstraction) := ⟨rfl, rfl, rfl, by decide +kernel, rfl, by decide +kernel, by decide +kernel⟩
abbrev s_written_abstraction : Stmt := topS 15
theorem sc_written_abstraction : FnScope ["name", "body"] ["name", "body"] (defScope s_written_abstraction) := ⟨rfl, rfl, rfl, by decide +kernel, rfl, by decide +kernel, by decide +kernel⟩
abbrev s_written_application : Stmt := topS 16
theorem sc_written_application : FnScope ["function", "argument"] ["function", "argument"] (defScope s_written_application) := ⟨rfl, rfl, rfl, by decide +kernel, rfl, by decide +kernel, by decide +kernel⟩
abbrev s_show : Stmt := topS 17
theorem sc_show : FnScope ["term", "names", "bound", "written", "node", "depth", "function"] ["term", "names"] (defScope s_show) := ⟨rfl, rfl, rfl, by decide +kernel, rfl, by decide +kernel, by decide +kernel⟩
abbrev s_law_stream : Stmt := topS 19
theorem sc_law_stream : FnScope ["script", "mixed", "cell"] ["script"] (defScope s_law_stream) := ⟨rfl, rfl, rfl, by decide +kernel, rfl, by decide +kernel, by decide +kernel⟩
abbrev s_law_draw : Stmt := topS 20
theorem sc_law_draw : FnScope ["stream", "many", "value"] ["stream", "many"] (defScope s_law_draw) := ⟨rfl, rfl, rfl, by decide +kernel, rfl, by decide +kernel, by decide +kernel⟩
abbrev s_law_term : Stmt := topS 21
theorem sc_law_term : FnScope ["stream", "size", "loose", "nodes", "waiting", "depth", "room", "pick"] ["stream", "size", "loose"] (defScope s_law_term) := ⟨rfl, rfl, rfl, by decide +kernel, rfl, by decide +kernel, by decide +kernel⟩
abbrev s_law_depths : Stmt := topS 22
theorem sc_law_depths : FnScope ["term", "depths_v", "waiting", "node", "depth"] ["term"] (defScope s_law_depths) := ⟨rfl, rfl, rfl, by decide +kernel, rfl, by decide +kernel, by decide +kernel⟩
abbrev s_law_own_names : Stmt := topS 23
theorem sc_law_own_names : FnScope ["names", "many", "found", "k", "name"] ["names", "many"] (defScope s_law_own_names) := ⟨rfl, rfl, rfl, by decide +kernel, rfl, by decide +kernel, by decide +kernel⟩
abbrev s_law_shown : Stmt := topS 24
theorem sc_law_shown : FnScope ["term", "at", "depth", "own", "names", "node", "many", "inner", "end", "kind", "left", "middle", "right", "other"] ["term", "at", "depth", "own", "names"] (defScope s_law_shown) := ⟨rfl, rfl, rfl, by decide +kernel, rfl, by decide +kernel, by decide +kernel⟩
abbrev s_law_is_name : Stmt := topS 25
abbrev N_law_is_name : List Str := ["name", "sign"]
theorem sc_law_is_name : FnScope ["name", "sign"] ["name"] (defScope s_law_is_name) := ⟨rfl, rfl, rfl, by decide +kernel, rfl, by decide +kernel, by decide +kernel⟩
abbrev s_law_told : Stmt := topS 26
theorem sc_law_told : FnScope ["term", "names", "e"] ["term", "names"] (defScope s_law_told) := ⟨rfl, rfl, rfl, by decide +kernel, rfl, by decide +kernel, by decide +kernel⟩
abbrev s_law : Stmt := topS 27
abbrev N_law : List Str := ["script", "stream", "rows", "names", "k", "term", "many", "wrong", "at", "depths_v", "right", "name", "given", "actual", "due"]
theorem sc_law : FnScope ["script", "stream", "rows", "names", "k", "term", "many", "wrong", "at", "depths_v", "right", "name", "given", "actual", "due"] ["script"] (defScope s_law) := ⟨rfl, rfl, rfl, by decide +kernel, rfl, by decide +kernel, by decide +kernel⟩
structure Txt (w : World) (K : PySem.W.Frag) (mg : Str → Option Value) (tk : Nat → Tok) (cl : Nat → Addr) : Prop where
  n_int : mg "int" = none
  n_list : mg "list" = none
  n_len : mg "len" = none
  n_abs : mg "abs" = none
  n_isinstance : mg "isinstance" = none
  n_tuple : mg "tuple" = none
  n_range : mg "range" = none
  n_zip : mg "zip" = none
  n_reversed : mg "reversed" = none
  n_all : mg "all" = none
  n_str : mg "str" = none
  g_MOST_LENGTH : mg "MOST_LENGTH" = some (.int 10 (tk 0))
  g_LETTERS : mg "LETTERS" = some (.str "abcdefghijklmnopqrstuvwxyz" (tk 100))
  g_DIGITS : mg "DIGITS" = some (.str "0123456789" (tk 101))
  n_ValueError : mg "ValueError" = none
  g_LyditeError : mg "LyditeError" = some (.ref (cl 0))
  t_LyditeError : PySem.W.typeIn K (.ref (cl 0)) = some (.type "type")
  h3_LyditeError : PySem.W.hasDictIn K (cl 0) = true
  g_BadNames : mg "BadNames" = some (.ref (cl 5))
  x_BadNames : PySem.W.excIn K (cl 5) [.type "ValueError", .type "Exception", .type "BaseException", .type "object"] "ValueError.__new__" = true
  k_BadNames : PySem.W.keepIn K (.ref (cl 5)) = true
  b_BadNames : PySem.W.subIn K (.ref (cl 5)) (.type "BaseException") = some true
  t_BadNames : PySem.W.typeIn K (.ref (cl 5)) = some (.type "type")
  s0_BadNames : PySem.W.subIn K (.ref (cl 5)) (.ref (cl 0)) = some true
  sv_BadNames : PySem.W.subIn K (.ref (cl 5)) (.type "ValueError") = some true
  s5_BadNames : PySem.W.subIn K (.ref (cl 5)) (.ref (cl 5)) = some true
  h1_BadNames : PySem.W.findIn K (.ref (cl 5)) "__getattribute__" = some (some (.builtin "BaseException.__getattribute__"))
  h2_BadNames : PySem.W.findIn K (.ref (cl 5)) "__getattr__" = some none
  h3_BadNames : PySem.W.hasDictIn K (cl 5) = true
  h4_BadNames : PySem.W.findIn K (.ref (cl 5)) "__class__" = some (some (.builtin "object.__class__"))
  h7_BadNames : PySem.W.mroIn K (cl 5) (.type "object") = some true
  h5_BadNames : PySem.W.specialIn K (.builtin "object.__class__") "__get__" = some (some (.builtin "getset_descriptor.__get__"))
  h6_BadNames : PySem.W.takesIn K (.builtin "object.__class__") = some true
theorem Txt.e_BadNames_BadNames {w : World} {K : PySem.W.Frag} {mg : Str → Option Value} {tk : Nat → Tok} {cl : Nat → Addr} (T : Txt w K mg tk cl) : PySem.W.exmOne K (.ref (cl 5)) (.ref (cl 5)) = some true := exm_mk T.b_BadNames T.h3_BadNames T.t_BadNames T.s5_BadNames
theorem Txt.i_BadNames_L {w : World} {K : PySem.W.Frag} {mg : Str → Option Value} {tk : Nat → Tok} {cl : Nat → Addr} (T : Txt w K mg tk cl) : PySem.W.kitOne K (.ref (cl 5)) (.ref (cl 0)) = some true := kitOne_mk T.h3_LyditeError T.t_LyditeError T.s0_BadNames
theorem Txt.exc_BadNames {w : World} {K : PySem.W.Frag} {mg : Str → Option Value} {tk : Nat → Tok} {cl : Nat → Addr} (T : Txt w K mg tk cl) : ExcC K (cl 5) := ⟨T.h1_BadNames, T.h2_BadNames, T.b_BadNames, T.h3_BadNames, T.h4_BadNames, T.h5_BadNames, T.h6_BadNames, T.h7_BadNames⟩
section
variable {P : Program} {w : World} {K : PySem.W.Frag} {mg : Str → Option Value} {base : Heap} {tk : Nat → Tok} {cl : Nat → Addr}
def spStream (K : PySem.W.Frag) : Sp := fun vs H Q _ => ∃ (a : Addr) (ns : List Int), vs = [.ref a] ∧ SqL K H a (ns.map V.int) ∧ ns.length ≤ 63 ∧ ∀ H' p l, Ex H H' → H p = none → StAt H' p ⟨l, ns, 0, 0, mixOf ns⟩ → Q (.ref p) H'
theorem ok_stream {f : Addr} {fd : FuncData} {k : Nat} (F : Fun K "_law_stream" "_law_stream" s_law_stream f fd) (T : Txt w K mg tk cl) : FnOk P w K mg base CX0 (k + 1) f fd ["script"] (spStream K) := by
  refine F.ok sc_law_stream (fun vs H Q E h => ?_) (fun cdv A outer s H vs Q E hr h => ?_)
  · obtain ⟨a, ns, rfl, _⟩ := h
    rfl
  · obtain ⟨a, ns, rfl, hS, hlen, q⟩ := h
    refine ⟨_, (pss_cons (ps_set (i := 1) sc_law_stream.nd rfl (.inl rfl) pe_int) (pss_cons (ps_for PassesOwn.never rfl (pi_list (pv 0)) (pg_name (i := 2) sc_law_stream.nd rfl (.inl rfl)) (pss_one (ps_set (i := 1) sc_law_stream.nd rfl (.inl rfl) (pe_op op_modN (pe_callTy call_int1 (by rfl) T.n_int (by decide +kernel) (pa_cons (pe_op op_add (pe_op op_add (pe_op op_mul (pv 1) pe_int) (pe_op op_modN (pe_callTy call_int1 (by rfl) T.n_int (by decide +kernel) (pa_cons (pv 2) pa_nil)) pe_int)) pe_int) pa_nil)) pe_int)))) (pss_one (ps_ret (pe_lst (pa_cons (pe_callTy call_list_of (by rfl) T.n_list (by decide +kernel) (pa_cons (pv 0) pa_nil)) (pa_cons pe_int (pa_cons pe_int (pa_cons (pv 1) pa_nil))))))))), ?_⟩
    refine sl_of (σ2 := [some _, none, none]) rfl ?_
    walk_at "st"
    walk_at "go"
    refine for_list (K := K) (a := a) (xs := ns.map V.int) (fun i σ H' => H' = H ∧ ∃ y, σ = [some (.ref a), some (.int (mixOf (ns.take i))), y]) ⟨rfl, none, rfl⟩ (fun i σ H' _ e => by rw [e.1]; exact hS) ?_ ?_
    · rintro i x σ H' hi ⟨rfl, y, rfl⟩
      obtain ⟨z, hz, rfl⟩ := get_int hi
      walk_at "go"
      exact ⟨rfl, _, by rw [mixOf_take hz]; rfl⟩
    · rintro σ H' ⟨rfl, y, rfl⟩
      walk_at "go"
      intro l hl
      walk_at "go"
      intro p hp
      rw [List.take_of_length_le (by simp)]
      refine q _ _ l ?_ ?_ ⟨?_, ?_, ?_⟩
      · walk_at "ex"
      · walk_at "free"
      · walk_at "ne"
      · walk_at "hp"
      · walk_at "hp"
def spDraw : Sp := fun vs H Q _ => ∃ (s : Addr) (m : Stm) (n : Int), vs = [.ref s, .int n] ∧ StAt H s m ∧ 0 < n ∧ n < 1073741824 ∧ ∀ H', Fr s H H' → StAt H' s (m.next n) → Q (.int (m.val n)) H'
theorem ok_draw {f : Addr} {fd : FuncData} {k : Nat} (F : Fun K "_law_draw" "_law_draw" s_law_draw f fd) (T : Txt w K mg tk cl) : FnOk P w K mg base CX0 (k + 1) f fd ["stream", "many"] spDraw := by
  refine F.ok sc_law_draw (fun vs H Q E h => ?_) (fun cdv A outer s H vs Q E hr h => ?_)
  · obtain ⟨a, m, n, rfl, _⟩ := h
    rfl
  · obtain ⟨a, m, n, rfl, ⟨hla, ha, hl⟩, n0, n1, q⟩ := h
    refine ⟨_, (pss_cut (ps_if (PW.pt (pw_and (pt_cmpR op_eq (pe_ix ix_list (pv 0) pe_int (fun _ _ => rfl)) pe_int (nomark _)) (pw_and1 (pt_cmpR op_lt (pe_ix ix_list (pv 0) pe_int (fun _ _ => rfl)) (pe_callB call_len_seq (by rfl) T.n_len (by decide +kernel) (pa_cons (pe_ix ix_list (pv 0) pe_int (fun _ _ => rfl)) pa_nil)) (nomark _))))) (pss_cons (ps_asg (pe_callB call_abs (by rfl) T.n_abs (by decide +kernel) (pa_cons (pe_callTy call_int1 (by rfl) T.n_int (by decide +kernel) (pa_cons (pe_ix ix_list (pe_ix ix_list (pv 0) pe_int (fun _ _ => rfl)) (pe_ix ix_list (pv 0) pe_int (fun _ _ => rfl)) (fun _ _ => rfl)) pa_nil)) pa_nil)) (pg_sub (pv 0) pe_int set_list)) (pss_one (ps_asg (pe_op op_add (pe_ix ix_list (pv 0) pe_int (fun _ _ => rfl)) pe_int) (pg_sub (pv 0) pe_int set_list)))) pss_nil) (pss_cons (ps_if (pt_cmpR op_eq (pe_ix ix_list (pv 0) pe_int (fun _ _ => rfl)) pe_int (nomark _)) (pss_cons (ps_asg (pe_op op_modN (pe_callTy call_int1 (by rfl) T.n_int (by decide +kernel) (pa_cons (pe_op op_add (pe_op op_mul (pe_ix ix_list (pv 0) pe_int (fun _ _ => rfl)) pe_int) pe_int) pa_nil)) pe_int) (pg_sub (pv 0) pe_int set_list)) (pss_one (ps_ret (pe_op op_modN (pe_callTy call_int1 (by rfl) T.n_int (by decide +kernel) (pa_cons (pe_op op_fdivN (pe_ix ix_list (pv 0) pe_int (fun _ _ => rfl)) pe_int) pa_nil)) (pv 1))))) pss_nil) (pss_cons (ps_set (i := 2) sc_law_draw.nd rfl (.inl rfl) (pe_op op_modN (pe_callTy call_int1 (by rfl) T.n_int (by decide +kernel) (pa_cons (pe_ix ix_list (pv 0) pe_int (fun _ _ => rfl)) pa_nil)) (pv 1))) (pss_cons (ps_asg (pe_op op_fdivN (pe_ix ix_list (pv 0) pe_int (fun _ _ => rfl)) (pv 1)) (pg_sub (pv 0) pe_int set_list)) (pss_one (ps_ret (pv 2))))))), ?_⟩
    refine sl_of (σ2 := [some _, some _, none]) rfl ?_
    walk_at "st"
    walk_at "go"
    refine w_cut (M := fun σ' H' => σ' = [some (.ref a), some (.int n), none] ∧ Fr a H H' ∧ H' a = some (.lst [.ref m.home, .int m.take.cur, .int m.take.pos, .int m.take.mix]) ∧ H' m.home = some (.lst (m.cells.map V.int))) ?_ ?_
    · walk_at "go"
      refine w_brI (fun hc => ?_) (fun hc => ?_)
      · walk_at "go"
        refine w_br (fun hp => ?_) (fun hp => ?_)
        · rw [List.length_map] at hp
          have hp2 : m.pos < m.cells.length := by omega
          have e : m.take = { m with cur := (if m.cells.getD m.pos 0 < 0 then -(m.cells.getD m.pos 0) else m.cells.getD m.pos 0), pos := m.pos + 1 } := if_pos ⟨hc, hp2⟩
          walk_at "go"
          refine ⟨rfl, ?_, ?_, ?_⟩
          · walk_at "fr"
          · rw [e]
            exact upd_same
          · walk_at "hp"
        · rw [List.length_map] at hp
          have e : m.take = m := if_neg (fun z => hp (by omega))
          walk_at "go"
          rw [e]
          exact ⟨rfl, Fr.refl _ _, ha, hl⟩
      · have e : m.take = m := if_neg (fun z => hc z.1)
        walk_at "go"
        rw [e]
        exact ⟨rfl, Fr.refl _ _, ha, hl⟩
    · rintro σ' H' ⟨rfl, fr, ea, el⟩
      walk_at "go"
      refine w_brI (fun hc => ?_) (fun hc => ?_)
      · walk_at "go"
        have e1 : m.next n = m.take.turn := if_pos hc
        have e2 : m.val n = (m.take.turn.mix.fdiv 97).fmod n := if_pos hc
        rw [e1, e2] at q
        refine q _ ?_ ⟨?_, ?_, ?_⟩
        · walk_at "fr"
        · show m.take.home ≠ a
          rw [m.take_home]
          exact hla
        · show _ = some (HO.lst [.ref m.take.home, _, _, _])
          rw [upd_same, m.take_home]
          rfl
        · show _ = some (HO.lst (List.map V.int m.take.cells))
          rw [m.take_cells]
          show upd _ a _ m.take.home = _
          rw [m.take_home]
          walk_at "hp"
      · walk_at "go"
        have e1 : m.next n = { m.take with cur := m.take.cur.fdiv n } := if_neg hc
        have e2 : m.val n = m.take.cur.fmod n := if_neg hc
        rw [e1, e2] at q
        refine q _ ?_ ⟨?_, ?_, ?_⟩
        · walk_at "fr"
        · show m.take.home ≠ a
          rw [m.take_home]
          exact hla
        · show _ = some (HO.lst [.ref m.take.home, _, _, _])
          rw [upd_same, m.take_home]
          rfl
        · show _ = some (HO.lst (List.map V.int m.take.cells))
          rw [m.take_cells]
          show upd _ a _ m.take.home = _
          rw [m.take_home]
          walk_at "hp"
def spDepths (K : PySem.W.Frag) : Sp := fun vs H Q _ => ∃ (a : Addr) (t : Tm), vs = [.ref a] ∧ SqT K H a t.enc ∧ t.enc.length ≤ 2000000 ∧ ∀ H' p, Ex H H' → H p = none → H' p = some (.lst (nums (t.deps 0))) → Q (.ref p) H'
def spTerm : Sp := fun vs H Q _ => ∃ (s : Addr) (m : Stm) (size loose : Nat), vs = [.ref s, .int size, .int loose] ∧ StAt H s m ∧ 1 ≤ size ∧ size ≤ 1000 ∧ loose ≤ 1000 ∧
  ∀ H' p m' (t : Tm), Fr s H H' → StAt H' s m' → Fol m m' → H p = none → SqX H' p t.enc → t.wf loose → t.enc.length ≤ 2 * size → (0 < loose → t.enc.length ≤ size) → Q (.ref p) H'
def zeros (ds : List Nat) : Nat := (ds.filter (· == 0)).length
theorem zeros_app (a b : List Nat) : zeros (a ++ b) = zeros a + zeros b := by
  unfold zeros
  rw [List.filter_append, List.length_append]
theorem zeros_le (a : List Nat) : zeros a ≤ a.length := List.length_filter_le _ _
theorem zeros_one (d : Nat) : zeros [d] = if d = 0 then 1 else 0 := by
  unfold zeros
  by_cases h : d = 0
  · simp [h]
  · simp [h]
theorem pop_last {ds : List Nat} (h : ds ≠ []) : ∃ r d, ds = r ++ [d] := ⟨ds.dropLast, ds.getLast h, (List.dropLast_concat_getLast h).symm⟩
def TI (a nl wl : Addr) (H : Hp) (size loose : Nat) (m : Stm) (n : Nat) (σ : L2.St) (H' : Hp) : Prop := ∃ (m' : Stm) (nodes : List V) (ds : List Nat) (y1 y2 y3 : Option V), σ = [some (.ref a), some (.int size), some (.int loose), some (.ref nl), some (.ref wl), y1, y2, y3] ∧ Fr a H H' ∧ StAt H' a m' ∧ Fol m m' ∧ H' nl = some (.lst nodes) ∧ H' wl = some (.lst (ds.map fun (d : Nat) => V.int d)) ∧
  Comp loose nodes ds ∧ nodes.length + ds.length + zeros ds ≤ 2 * size ∧ (∀ d ∈ ds, d ≤ nodes.length) ∧ nodes.length = n ∧ (0 < loose → nodes.length + ds.length ≤ size)
theorem ok_term {f : Addr} {fd : FuncData} (F : Fun K "_law_term" "_law_term" s_law_term f fd) (T : Txt w K mg tk cl)
    (D1 : Def P w K mg base CX0 1 "_law_draw" ["stream", "many"] spDraw) : FnOk P w K mg base CX0 2 f fd ["stream", "size", "loose"] spTerm := by
  obtain ⟨f1, fd1, g_law_draw, kp_law_draw, b_law_draw, G_law_draw⟩ := D1
  refine F.ok sc_law_term (fun vs H Q E h => ?_) (fun cdv A outer s H vs Q E hr h => ?_)
  · obtain ⟨a, m, n1, n2, rfl, _⟩ := h
    rfl
  · obtain ⟨a, m, size, loose, rfl, hst, hs1, hs2, hlo, q⟩ := h
    refine ⟨_, (pss_cons (ps_set (i := 3) sc_law_term.nd rfl (.inl rfl) (pe_lst pa_nil)) (pss_cons (ps_set (i := 4) sc_law_term.nd rfl (.inl rfl) (pe_lst (pa_cons pe_int pa_nil))) (pss_cons (ps_while PassesOwn.never (pt_truth (pv 4) (by intro _; rfl)) (pss_cons (ps_set (i := 5) sc_law_term.nd rfl (.inl rfl) (pe_bm0 PySem.F.plainAttrs_list PySem.F.slot_list_pop PySem.F.type_list_pop mt_pop (pv 4))) (pss_cons (ps_set (i := 6) sc_law_term.nd rfl (.inl rfl) (pe_op op_sub (pe_op op_sub (pe_op op_sub (pv 1) (pe_callB call_len_seq (by rfl) T.n_len (by decide +kernel) (pa_cons (pv 3) pa_nil))) (pe_callB call_len_seq (by rfl) T.n_len (by decide +kernel) (pa_cons (pv 4) pa_nil))) pe_int)) (pss_cons (ps_set (i := 7) sc_law_term.nd rfl (.inl rfl) (pe_call G_law_draw (hr.mono (by first | decide | omega)) (by rfl) g_law_draw kp_law_draw b_law_draw .nil pass0 (pa_cons (pv 0) (pa_cons pe_int pa_nil)))) (pss_one (ps_if (PW.pt (pw_and (pt_cmpR op_gt (pv 6) pe_int (nomark _)) (pw_and1 (pt_cmpR op_lt (pv 7) pe_int (nomark _))))) (pss_cons (ps_expr (pe_bm PySem.F.plainAttrs_list PySem.F.slot_list_append PySem.F.type_list_append mt_append (pv 3) (pa_cons pe_str pa_nil))) (pss_cons (ps_expr (pe_bm PySem.F.plainAttrs_list PySem.F.slot_list_append PySem.F.type_list_append mt_append (pv 4) (pa_cons (pv 5) pa_nil))) (pss_one (ps_expr (pe_bm PySem.F.plainAttrs_list PySem.F.slot_list_append PySem.F.type_list_append mt_append (pv 4) (pa_cons (pv 5) pa_nil)))))) (pss_one (ps_if (PW.pt (pw_or (PW.pt (pw_and (pt_cmpR op_gt (pv 6) pe_int (nomark _)) (pw_and1 (pt_cmpR op_eq (pv 7) pe_int (nomark _))))) (pw_or1 (pt_cmpR op_eq (pe_op op_add (pv 5) (pv 2)) pe_int (nomark _))))) (pss_cons (ps_expr (pe_bm PySem.F.plainAttrs_list PySem.F.slot_list_append PySem.F.type_list_append mt_append (pv 3) (pa_cons pe_str pa_nil))) (pss_one (ps_expr (pe_bm PySem.F.plainAttrs_list PySem.F.slot_list_append PySem.F.type_list_append mt_append (pv 4) (pa_cons (pe_op op_add (pv 5) pe_int) pa_nil))))) (pss_one (ps_expr (pe_bm PySem.F.plainAttrs_list PySem.F.slot_list_append PySem.F.type_list_append mt_append (pv 3) (pa_cons (pe_call G_law_draw (hr.mono (by first | decide | omega)) (by rfl) g_law_draw kp_law_draw b_law_draw .nil pass0 (pa_cons (pv 0) (pa_cons (pe_op op_add (pv 5) (pv 2)) pa_nil))) pa_nil)))))))))))) (pss_one (ps_ret (pe_callTy call_tupleF (by rfl) T.n_tuple (by decide +kernel) (pa_cons (pv 3) pa_nil))))))), ?_⟩
    refine sl_of (σ2 := [some _, some _, some _, none, none, none, none, none]) rfl ?_
    walk_at "st"
    walk_at "go"
    intro nl hnl
    walk_at "go"
    intro wl hwl
    obtain ⟨hna, hnh⟩ := hst.ne hnl
    obtain ⟨hwa, hwh⟩ := (hst.new (o := .lst []) hnl).ne hwl
    have hwn : wl ≠ nl := (ne_of_none upd_same hwl).symm
    have hwl0 : H wl = none := by
      rw [upd_ne hwn] at hwl
      exact hwl
    walk_at "go"
    refine w_while (fun k σ' H' => ∃ n, TI a nl wl H size loose m n σ' H' ∧ k = 2 * size - n) (2 * size) ⟨0, ⟨m, [], [0], none, none, none, rfl, by walk_at "fr", (hst.new hnl).new hwl, Fol.refl _, by walk_at "hp", upd_same, Comp.start _, ?_, ?_, rfl, fun _ => by simpa using hs1⟩, rfl⟩ ?_
    · simp [zeros]
      omega
    · simp
    · rintro k σ H1 ⟨n, ⟨m1, nodes, ds, y1, y2, y3, rfl, fr1, st1, fol1, hn1, hw1, hcomp, hphi, hd, hlen, hsz⟩, rfl⟩
      have hnh1 : ∀ {m2 : Stm}, Fol m m2 → nl ≠ m2.home := fun {m2} h => by
        rw [h.1]
        exact hnh
      have hwh1 : ∀ {m2 : Stm}, Fol m m2 → wl ≠ m2.home := fun {m2} h => by
        rw [h.1]
        exact hwh
      walk_at "go"
      by_cases hemp : ds = []
      · subst hemp
        obtain ⟨t, ht1, ht2⟩ := hcomp.done
        refine iteF ?_
        walk_at "go"
        refine w_tupF (SqL.of hn1) fun p H3 e3 hp hx => ?_
        walk_at "go"
        refine q H3 p m1 t (fr1.trans (Fr.ex e3)) (st1.ex e3) fol1 ?_ (by rw [ht2]; exact hx) ht1 ?_ ?_
        · refine Fr.free fr1 hst.2.1 hp ?_
          exact (st1.ne hp).1
        · rw [ht2]
          simp at hphi
          omega
        · rw [ht2]
          simpa using hsz
      · obtain ⟨r, d, rfl⟩ := pop_last hemp
        rw [List.map_append] at hw1
        have he : (!(List.map (fun (d : Nat) => V.int d) (r ++ [d])).isEmpty) = true := by simp
        rw [he]
        refine iteT ⟨TI a nl wl H size loose m (n + 1), fun σ' H' h => ⟨2 * size - (n + 1), ?_, n + 1, h, rfl⟩, ?_⟩
        · simp at hphi
          omega
        have hdn : d ≤ nodes.length := hd d (by simp)
        have hdr : ∀ x ∈ r, x ≤ nodes.length := fun x hx => hd x (by simp [hx])
        have hphi2 : nodes.length + r.length + 1 + zeros r + (if d = 0 then 1 else 0) ≤ 2 * size := by
          rw [List.length_append, zeros_app, zeros_one] at hphi
          simp at hphi
          omega
        have hzr := zeros_le r
        have hw1b : H1 wl = some (.lst (List.map (fun (d : Nat) => V.int d) r ++ [V.int d])) := hw1
        walk_at "go"
        have st2 := st1.put (o := .lst (List.map (fun (d : Nat) => V.int d) r)) hwa (hwh1 fol1)
        have hn2 : upd H1 wl (.lst (List.map (fun (d : Nat) => V.int d) r)) nl = some (.lst nodes) := by walk_at "hp"
        refine ⟨a, m1, 5, rfl, st2, by decide, by decide, fun H2 fr2 st3 => ?_⟩
        have fol2 := fol1.step 5
        have hn3 : H2 nl = some (.lst nodes) := by walk_at "hp"
        have hw3 : H2 wl = some (.lst (List.map (fun (d : Nat) => V.int d) r)) := by walk_at "hp"
        have fr3 : Fr a H H2 := (Fr.mut fr1 hwl0).trans fr2
        have hw3l : (List.map (fun (d : Nat) => V.int d) r).length = r.length := List.length_map _
        generalize m1.val 5 = pick at *
        generalize m1.next 5 = m2 at *
        have toApp : ∀ {y1 y2 y3 : Option V}, ((r.length + nodes.length + 2 : Nat) : Int) < size → TI a nl wl H size loose m (n + 1) [some (.ref a), some (.int size), some (.int loose), some (.ref nl), some (.ref wl), y1, y2, y3] (upd (upd (upd H2 nl (.lst (nodes ++ [V.str "app"]))) wl (.lst (List.map (fun (d : Nat) => V.int d) r ++ [V.int d]))) wl (.lst (List.map (fun (d : Nat) => V.int d) r ++ [V.int d] ++ [V.int d]))) := fun {y1 y2 y3} hroom => by
          refine ⟨m2, nodes ++ [.str "app"], r ++ [d] ++ [d], y1, y2, y3, rfl, ?_, ?_, fol2, ?_, ?_, hcomp.app, ?_, ?_, ?_, ?_⟩
          · walk_at "fr"
          · exact ((st3.put hna (hnh1 fol2)).put hwa (hwh1 fol2)).put hwa (hwh1 fol2)
          · walk_at "hp"
          · rw [upd_same]
            simp
          · rw [zeros_app, zeros_app, zeros_one]
            simp
            split <;> omega
          · intro x hx
            simp at hx
            rw [List.length_append, List.length_singleton]
            rcases hx with hx | hx
            · have := hdr x hx
              omega
            · omega
          · rw [List.length_append, List.length_singleton, hlen]
          · intro hl
            have := hsz hl
            simp at this ⊢
            omega
        have toLam : ∀ {y1 y2 y3 : Option V}, (((r.length + nodes.length + 1 : Nat) : Int) < size ∨ d + loose = 0) → TI a nl wl H size loose m (n + 1) [some (.ref a), some (.int size), some (.int loose), some (.ref nl), some (.ref wl), y1, y2, y3] (upd (upd H2 nl (.lst (nodes ++ [V.str "lam"]))) wl (.lst (List.map (fun (d : Nat) => V.int d) r ++ [V.int (d + 1)]))) := fun {y1 y2 y3} hroom => by
          refine ⟨m2, nodes ++ [.str "lam"], r ++ [d + 1], y1, y2, y3, rfl, ?_, ?_, fol2, ?_, ?_, hcomp.lam, ?_, ?_, ?_, ?_⟩
          · walk_at "fr"
          · exact (st3.put hna (hnh1 fol2)).put hwa (hwh1 fol2)
          · walk_at "hp"
          · rw [upd_same]
            simp
          · rw [zeros_app, zeros_one, if_neg (Nat.succ_ne_zero d)]
            simp
            rcases hroom with h | h
            · omega
            · rw [if_pos (by omega)] at hphi2
              omega
          · intro x hx
            simp at hx
            rw [List.length_append, List.length_singleton]
            rcases hx with hx | hx
            · have := hdr x hx
              omega
            · omega
          · rw [List.length_append, List.length_singleton, hlen]
          · intro hl
            have := hsz hl
            simp at this ⊢
            rcases hroom with h | h <;> omega
        have toVar : ∀ {y1 y2 y3 : Option V}, d + loose ≠ 0 → spDraw ([V.ref a, V.int ((d : Int) + (loose : Int))] ++ []) H2 (fun y H3 => rAppend (V.ref nl) [y] H3 fun _ H4 => TI a nl wl H size loose m (n + 1) [some (.ref a), some (.int size), some (.int loose), some (.ref nl), some (.ref wl), y1, y2, y3] H4) E0 := fun {y1 y2 y3} hne => by
          have hds : d ≤ 2 * size := by omega
          refine ⟨a, m2, _, rfl, st3, by omega, by omega, fun H3 fr4 st4 => ?_⟩
          have hv := m2.val_lt (n := (d : Int) + (loose : Int)) (by omega)
          have hn4 : H3 nl = some (.lst nodes) := by walk_at "hp"
          have hw4 : H3 wl = some (.lst (List.map (fun (d : Nat) => V.int d) r)) := by walk_at "hp"
          have fr5 := fr3.trans fr4
          walk_at "go"
          refine ⟨m2.next _, _, r, y1, y2, y3, rfl, Fr.mut fr5 hnl, st4.put hna (hnh1 (fol2.step _)), fol2.step _, upd_same, by walk_at "hp", ?_, ?_, ?_, ?_, ?_⟩
          · have := hcomp.var (n := (m2.val ((d : Int) + (loose : Int))).toNat) (by omega)
            rw [Int.toNat_of_nonneg hv.1] at this
            exact this
          · rw [List.length_append, List.length_singleton]
            omega
          · intro x hx
            have := hdr x hx
            rw [List.length_append, List.length_singleton]
            omega
          · rw [List.length_append, List.length_singleton, hlen]
          · intro hl
            have := hsz hl
            simp at this ⊢
            omega
        walk_at "go"
        rw [hw3l]
        refine w_br (fun c1 => ?_) (fun c1 => ?_)
        · walk_at "go"
          refine w_br (fun c2 => ?_) (fun c2 => ?_)
          · walk_at "go"
            exact toApp (by omega)
          · walk_at "go"
            refine w_br (fun c3 => ?_) (fun c3 => by omega)
            walk_at "go"
            refine w_brI (fun c4 => ?_) (fun c4 => ?_)
            · walk_at "go"
              exact toLam (.inl (by omega))
            · walk_at "go"
              refine w_brI (fun c5 => ?_) (fun c5 => ?_)
              · walk_at "go"
                exact toLam (.inr (by omega))
              · walk_at "go"
                exact toVar (by omega)
        · walk_at "go"
          refine w_br (fun c3 => ?_) (fun c3 => ?_)
          · walk_at "go"
            refine w_brI (fun c4 => ?_) (fun c4 => ?_)
            · walk_at "go"
              exact toLam (.inl (by omega))
            · walk_at "go"
              refine w_brI (fun c5 => ?_) (fun c5 => ?_)
              · walk_at "go"
                exact toLam (.inr (by omega))
              · walk_at "go"
                exact toVar (by omega)
          · walk_at "go"
            refine w_brI (fun c5 => ?_) (fun c5 => ?_)
            · walk_at "go"
              exact toLam (.inr (by omega))
            · walk_at "go"
              exact toVar (by omega)
end
end Ly
set_option Elab.async false
set_option linter.all false
set_option maxRecDepth 100000
set_option maxHeartbeats 8000000
namespace Ly
open PySem PySem.Spec PyProof.Rows L2 Evl
local macro_rules | `(tactic| walk_at "ne") => `(tactic| first
  | assumption
  | ((refine' Ne.symm ?hq); (case hq => assumption))
  | ((refine' ne_of_none ?nh1 ?nh2); (case nh2 => assumption); (case nh1 => walk_at "hp"))
  | ((refine' Ne.symm (ne_of_none ?nh1 ?nh2)); (case nh2 => assumption); (case nh1 => walk_at "hp")))
local macro_rules | `(tactic| walk_at "hp") => `(tactic| first
  | assumption
  | exact upd_same
  | ((refine' SqL.of ?hq); (case hq => walk_at "hp"))
  | ((refine' SqT.of ?hq); (case hq => walk_at "hp"))
  | ((refine' (upd_ne ?hne).trans ?hrest); (case hne => walk_at "ne"); (case hrest => walk_at "hp"))
  | ((refine' ly_at ?hex ?hh); (case hex => assumption); (case hh => walk_at "hp"))
  | ((refine' ly_atF ?hex ?hnn ?hh); (case hex => assumption); (case hh => walk_at "hp"); (case hnn => walk_at "ne"))
  | ((refine' ex_t ?hex ?hh); (case hh => assumption); (case hex => walk_at "ex"))
  | ((refine' ex_l ?hex ?hh); (case hh => assumption); (case hex => walk_at "ex")))
local macro_rules | `(tactic| walk_at "ex") => `(tactic| first
  | assumption
  | exact Ex.refl _
  | ((refine' ex_new ?xa ?xb); (case xb => assumption); (case xa => walk_at "ex"))
  | ((refine' ex_upd ?xa ?xb); (case xb => walk_at "free"); (case xa => walk_at "ex"))
  | ((refine' Ex.trans ?xa ?xb); (case xb => assumption); (case xa => walk_at "ex")))
local macro_rules | `(tactic| walk_at "free") => `(tactic| first
  | assumption
  | ((refine' fresh_back ?xa ?xb); (case xb => assumption); (case xa => walk_at "ex")))
local macro_rules | `(tactic| walk_at "fr") => `(tactic| first
  | assumption
  | exact Fr.refl _ _
  | ((refine' Fr.own ?hq); (case hq => walk_at "fr"))
  | ((refine' Fr.new ?xa ?xb); (case xb => assumption); (case xa => walk_at "fr"))
  | ((refine' Fr.mut ?xa ?xb); (case xb => assumption); (case xa => walk_at "fr"))
  | ((refine' Fr.trans ?xa ?xb); (case xb => assumption); (case xa => walk_at "fr"))
  | ((refine' Fr.trans ?xa (Fr.ex ?xb)); (case xb => assumption); (case xa => walk_at "fr")))
local macro_rules | `(tactic| walk_at "go1") => `(tactic| first
  | (with_reducible refine' w_seq ?_)
  | (with_reducible refine' w_asg ?_)
  | (with_reducible refine' w_ret ?_)
  | (with_reducible refine' w_drop ?_)
  | (with_reducible refine' w_if ?_)
  | (with_reducible refine' w_next ?_)
  | (with_reducible refine' w_name ?_)
  | (with_reducible refine' w_sub ?_)
  | ((with_reducible refine' w_var ?hv ?_); (case hv => exact rfl))
  | (with_reducible refine' w_c ?_)
  | (with_reducible refine' w_op ?_)
  | (with_reducible refine' w_un ?_)
  | (with_reducible refine' w_ch ?_)
  | (with_reducible refine' w_I0 ?_)
  | ((with_reducible refine' w_I ?hc ?_); (case hc => first | (exact ly_mulL (by decide) (by decide)) | (exact ly_mulR (by decide) (by decide)) | (exact ly_mulL (by omega) (by omega)) | (show (_ : Int) ≠ 0; decide) | (show (_ : Int) ≠ 0; omega) | (exact ⟨by decide, by decide⟩) | (exact ⟨by omega, by omega⟩)))
  | (with_reducible refine' w_U ?_)
  | ((with_reducible refine' w_eq ?hs ?_); (case hs => exact rfl))
  | ((with_reducible refine' w_ne ?hs ?_); (case hs => exact rfl))
  | (with_reducible refine' w_isB ?_)
  | (with_reducible refine' w_notB ?_)
  | (with_reducible refine' w_nil ?_)
  | (with_reducible refine' w_cons ?_)
  | (with_reducible refine' w_tup ?_)
  | (with_reducible refine' w_lst ?_)
  | (with_reducible refine' w_cb ?_)
  | (with_reducible refine' w_call ?_)
  | (with_reducible refine' w_bm ?_)
  | (with_reducible refine' w_bm0 ?_)
  | ((with_reducible refine' w_app ?hh ?hz ?_); (case hh => walk_at "hp"); (case hz => first | exact ly_lt (by omega) | exact ly_lt (by simp only [List.length_append, List.length_map, List.length_cons, List.length_nil]; omega)))
  | ((with_reducible refine' w_popA ?hh ?_); (case hh => walk_at "hp"))
  | ((with_reducible refine' w_ext ?hh ?hh2 ?hz ?_); (case hh => walk_at "hp"); (case hh2 => walk_at "hp"))
  | ((with_reducible refine' w_ixL ?hh ?ha ?_); (case hh => walk_at "hp"); (case ha => first | exact rfl | exact at_map (by omega) | exact atI_last _ _ | ((refine' at_of ?ae ?ah); (case ah => assumption); (case ae => omega))))
  | ((with_reducible refine' w_ixT ?hh ?ha ?_); (case hh => walk_at "hp"); (case ha => first | exact rfl | exact at_map (by omega) | exact atI_last _ _ | ((refine' at_of ?ae ?ah); (case ah => assumption); (case ae => omega))))
  | ((with_reducible refine' w_cat ?hh ?hh2 ?hz ?_); (case hh => walk_at "hp"); (case hh2 => walk_at "hp"))
  | ((with_reducible refine' w_setL ?hh ?ha ?_); (case hh => walk_at "hp"); (case ha => exact rfl))
  | (with_reducible refine' w_test ?_)
  | (with_reducible refine' w_tB ?_)
  | (with_reducible refine' w_bl ?_)
  | (with_reducible refine' w_and ?_)
  | (with_reducible refine' w_or ?_)
  | (with_reducible refine' w_not ?_)
  | (with_reducible refine' w_andV ?_)
  | (with_reducible refine' w_orV ?_)
  | (with_reducible refine' w_notV ?_)
  | (with_reducible refine' w_ifE ?_)
  | (with_reducible refine' w_for ?_)
  | ((with_reducible refine' w_nin ?hh ?_); (case hh => walk_at "hp"))
  | ((with_reducible refine' w_sorted ?hh ?_); (case hh => walk_at "hp"))
  | (with_reducible refine' w_tsadd ?_)
  | ((with_reducible refine' w_tsadd1 ?hh ?_); (case hh => walk_at "hp"))
  | ((with_reducible refine' w_sadd ?hh ?hr ?_); (case hh => walk_at "hp"); (case hr => omega))
  | (with_reducible refine' w_iZ ?_)
  | ((with_reducible refine' w_iZ1 ?hh ?hh2 ?_); (case hh => walk_at "hp"); (case hh2 => walk_at "hp"))
  | (with_reducible refine' w_iS ?_)
  | (with_reducible refine' w_iS1 ?_)
  | ((with_reducible refine' w_gtup ?hh ?hn ?_); (case hh => walk_at "hp"); (case hn => exact rfl))
  | (with_reducible refine' w_gcons ?_)
  | (with_reducible refine' w_gnil ?_)
  | (with_reducible refine' w_js ?_)
  | (with_reducible refine' w_jsn ?_)
  | ((with_reducible refine' w_js1 ?hl ?_); (case hl => decide +kernel))
  | (with_reducible refine' w_fmt ?_)
  | ((with_reducible refine' w_fmt1 ?hl ?_); (case hl => decide +kernel))
  | (with_reducible refine' w_callS ?_)
  | ((with_reducible refine' w_truL ?hh ?_); (case hh => walk_at "hp"))
  | (with_reducible refine' w_lc ?_)
  | (with_reducible refine' w_yes ?_)
  | ((with_reducible refine' w_wipe ?he ?_); (case he => exact rfl))
  | (with_reducible refine' w_iL ?_)
  | (with_reducible refine' w_iT ?_)
  | (with_reducible refine' w_iR ?_)
  | ((with_reducible refine' w_iL1 ?hh ?_); (case hh => walk_at "hp"))
  | ((with_reducible refine' w_iT1 ?hh ?_); (case hh => walk_at "hp"))
  | ((with_reducible refine' w_iR1 ?h1 ?h2 ?_); (case h1 => omega); (case h2 => omega))
  | ((with_reducible refine' w_aug ?hv ?_); (case hv => exact rfl))
  | (with_reducible refine' w_ipI ?_)
  | ((with_reducible refine' w_isi ?hy ?hk ?_); (case hy => walk_at "ty"); (case hk => walk_at "kit"))
  | ((with_reducible refine' w_int ?_))
  | ((with_reducible refine' w_intB ?_))
  | ((with_reducible refine' w_abs ?_))
  | ((with_reducible refine' w_lenL ?hh ?_); (case hh => walk_at "hp"))
  | ((with_reducible refine' w_lenT ?hh ?_); (case hh => walk_at "hp"))
  | ((with_reducible refine' w_tupL ?hh ?_); (case hh => walk_at "hp"))
  | ((with_reducible refine' w_tupT ?hh ?_); (case hh => walk_at "hp"))
  | ((with_reducible refine' w_catA ?hh ?hh2 ?hz ?_); (case hh => walk_at "hp"); (case hh2 => walk_at "hp"); (case hz => walk_at "len"))
  | ((with_reducible refine' w_repB ?hh ?hne ?h2 ?h3 ?hz ?_); (case hh => walk_at "hp"); (case hne => simp); (case h2 => omega); (case h3 => omega); (case hz => exact Nat.le_of_ble_eq_true rfl))
  | ((with_reducible refine' w_eqN ?hh ?hh2 ?n1 ?n2 ?_); (case hh => walk_at "hp"); (case hh2 => walk_at "hp"); (case n1 => walk_at "nd"); (case n2 => walk_at "nd"))
  | ((with_reducible refine' w_neN ?hh ?hh2 ?n1 ?n2 ?_); (case hh => walk_at "hp"); (case hh2 => walk_at "hp"); (case n1 => walk_at "nd"); (case n2 => walk_at "nd"))
  | ((with_reducible refine' w_eqL ?hh ?hh2 ?n1 ?n2 ?_); (case hh => walk_at "hp"); (case hh2 => walk_at "hp"); (case n1 => walk_at "nd"); (case n2 => walk_at "nd"))
  | ((with_reducible refine' w_neL ?hh ?hh2 ?n1 ?n2 ?_); (case hh => walk_at "hp"); (case hh2 => walk_at "hp"); (case n1 => walk_at "nd"); (case n2 => walk_at "nd"))
  | ((with_reducible refine' w_neNon ?hh2 ?n2 ?_); (case hh2 => walk_at "hp"); (case n2 => walk_at "nd"))
  | ((with_reducible refine' w_eqNon ?hh2 ?n2 ?_); (case hh2 => walk_at "hp"); (case n2 => walk_at "nd"))
  | ((with_reducible refine' w_slA ?hh ?_); (case hh => walk_at "hp"))
  | ((with_reducible refine' w_disp ?hz ?_); (case hz => exact sz_of (Nat.le_of_ble_eq_true rfl)))
  | ((with_reducible refine' w_tyL ?hh ?_); (case hh => walk_at "hp"))
  | (with_reducible refine' iteT ?_)
  | (with_reducible refine' iteF ?_)
  | (with_reducible refine' w_nT ?_)
  | (with_reducible refine' w_nn ?_)
  | (with_reducible refine' w_nnT ?_)
  | (with_reducible refine' w_nnR ?_)
  | (with_reducible refine' w_neG ?_)
  | (with_reducible refine' w_eqG ?_)
  | (with_reducible refine' w_neS ?_)
  | (with_reducible refine' w_eqS ?_)
  | (with_reducible refine' w_neSb ?_)
  | (with_reducible refine' w_eqSb ?_)
  | (with_reducible refine' w_deIS ?_)
  | (with_reducible refine' w_deSI ?_)
  | (with_reducible refine' w_deISn ?_)
  | ((with_reducible refine' w_deST ?he ?_); (case he => decide +kernel))
  | ((with_reducible refine' w_deSF ?he ?_); (case he => decide +kernel))
  | ((with_reducible refine' w_deSTn ?he ?_); (case he => decide +kernel))
  | ((with_reducible refine' w_deSFn ?he ?_); (case he => decide +kernel))
  | (with_reducible refine' w_nF ?_)
  | dsimp only [Bool.not_true, Bool.not_false])
local macro_rules | `(tactic| walk_at "ty") => `(tactic| first
  | exact .base (.int _) | exact .base (.str _) | exact .base (.bl _) | exact .base .non
  | ((refine' tyx_t ?hq); (case hq => walk_at "hp")) | ((refine' tyx_l ?hq); (case hq => walk_at "hp")) | ((refine' .base (.tup ?hq)); (case hq => walk_at "hp")) | assumption)
local macro_rules | `(tactic| walk_at "go") => `(tactic| repeat walk_at "go1")
local macro_rules | `(tactic| walk_at "st") => `(tactic| try dsimp only [cxOf, Cx.nox, Cx.wish])
local macro_rules | `(tactic| walk_at "kit") => `(tactic| with_reducible first | exact kit_int_int | exact kit_int_str | exact kit_int_bool | exact kit_int_tuple | exact kit_int_list | exact kit_str_int | exact kit_str_str | exact kit_str_bool | exact kit_str_tuple | exact kit_str_list | exact kit_bool_int | exact kit_bool_str | exact kit_bool_bool | exact kit_bool_tuple | exact kit_bool_list | exact kit_NoneType_int | exact kit_NoneType_str | exact kit_NoneType_bool | exact kit_NoneType_tuple | exact kit_NoneType_list | exact kit_list_int | exact kit_list_str | exact kit_list_bool | exact kit_list_tuple | exact kit_list_list | exact kit_tuple_int | exact kit_tuple_str | exact kit_tuple_bool | exact kit_tuple_tuple | exact kit_tuple_list)
local macro_rules | `(tactic| walk_at "nd") => `(tactic| first
  | assumption
  | exact Tm.nds _
  | exact Nds.nil
  | exact Nds.ofInts _
  | ((refine' Nds.cons ?na ?nb); (case na => first | exact Nds.I _ | exact Nds.L | exact Nds.A); (case nb => walk_at "nd"))
  | ((refine' Nds.app ?na ?nb); (case na => walk_at "nd"); (case nb => walk_at "nd"))
  | ((refine' Nds.rep ?na _); (case na => walk_at "nd")))
local macro_rules | `(tactic| walk_at "len") => `(tactic| first
  | exact ly_sz (by omega)
  | ((simp only [List.length_append, List.length_cons, List.length_nil, List.length_map, PyProof.Rows.lm_len_rep_flat]); exact ly_sz (by omega)))
local macro_rules | `(tactic| walk_at "go1") => `(tactic| first
  | (with_reducible refine' w_kget2 ?_)
  | (with_reducible refine' w_isRN ?_)
  | (with_reducible refine' w_isNN ?_)
  | (with_reducible refine' w_isIN ?_)
  | ((with_reducible refine' w_kg ?hd ?_); (case hd => assumption)))

section
variable {P : Program} {w : World} {K : PySem.W.Frag} {mg : Str → Option Value} {base : Heap} {tk : Nat → Tok} {cl : Nat → Addr}
theorem ok_ldepths {f : Addr} {fd : FuncData} {k : Nat} (F : Fun K "_law_depths" "_law_depths" s_law_depths f fd) (T : Txt w K mg tk cl) : FnOk P w K mg base CX0 (k + 1) f fd ["term"] (spDepths K) := by
  refine F.ok sc_law_depths (fun vs H Q E h => ?_) (fun cdv A outer s H vs Q E hr h => ?_)
  · obtain ⟨a, t, rfl, _⟩ := h
    rfl
  · obtain ⟨a, t, rfl, hS, hlen, q⟩ := h
    refine ⟨_, (pss_cons (ps_set (i := 1) sc_law_depths.nd rfl (.inl rfl) (pe_lst pa_nil)) (pss_cons (ps_set (i := 2) sc_law_depths.nd rfl (.inl rfl) (pe_lst (pa_cons pe_int pa_nil))) (pss_cons (ps_for PassesOwn.never rfl (pi_tup (pv 0)) (pg_name (i := 3) sc_law_depths.nd rfl (.inl rfl)) (pss_cons (ps_set (i := 4) sc_law_depths.nd rfl (.inl rfl) (pe_bm0 PySem.F.plainAttrs_list PySem.F.slot_list_pop PySem.F.type_list_pop mt_pop (pv 2))) (pss_cons (ps_expr (pe_bm PySem.F.plainAttrs_list PySem.F.slot_list_append PySem.F.type_list_append mt_append (pv 1) (pa_cons (pv 4) pa_nil))) (pss_one (ps_if (pt_cmpR op_eq (pv 3) pe_str (nomark _)) (pss_one (ps_expr (pe_bm PySem.F.plainAttrs_list PySem.F.slot_list_append PySem.F.type_list_append mt_append (pv 2) (pa_cons (pe_op op_add (pv 4) pe_int) pa_nil)))) (pss_one (ps_if (pt_cmpR op_eq (pv 3) pe_str (nomark _)) (pss_cons (ps_expr (pe_bm PySem.F.plainAttrs_list PySem.F.slot_list_append PySem.F.type_list_append mt_append (pv 2) (pa_cons (pv 4) pa_nil))) (pss_one (ps_expr (pe_bm PySem.F.plainAttrs_list PySem.F.slot_list_append PySem.F.type_list_append mt_append (pv 2) (pa_cons (pv 4) pa_nil))))) pss_nil))))))) (pss_one (ps_ret (pv 1)))))), ?_⟩
    refine sl_of (σ2 := [some _, none, none, none, none]) rfl ?_
    walk_at "st"
    walk_at "go"
    intro fl hfl
    walk_at "go"
    intro wl hwl
    have hwf : wl ≠ fl := (ne_of_none upd_same hwl).symm
    have hwl0 : H wl = none := by
      rw [upd_ne hwf] at hwl
      exact hwl
    walk_at "go"
    refine for_tup (K := K) (a := a) (xs := t.enc) (fun i σ H' => ∃ found ds y1 y2, σ = [some (.ref a), some (.ref fl), some (.ref wl), y1, y2] ∧ Ex H H' ∧ H' fl = some (.lst (nums found)) ∧ H' wl = some (.lst (nums ds)) ∧ DInv t i found ds ∧ found.length = i ∧ ds.length ≤ i + 1)
      ⟨[], [0], none, none, rfl, by walk_at "ex", by walk_at "hp", upd_same, DInv.start t, rfl, by simp⟩ (fun i σ H' _ h => by obtain ⟨_, _, _, _, _, e, _⟩ := h; exact ex_t e hS) ?_ ?_
    · rintro i v σ H1 hi ⟨found, ds, y1, y2, rfl, e1, hf1, hw1, hinv, hfl1, hds1⟩
      have hlt : i < t.enc.length := (List.getElem?_eq_some_iff.mp hi).1
      obtain ⟨r, d, rfl, hstep⟩ := hinv.step hi
      have hw1b : H1 wl = some (.lst (nums r ++ [V.int d])) := by rw [hw1]; simp [nums]
      have el : (nums found).length = found.length := List.length_map _
      have el2 : (nums r).length = r.length := List.length_map _
      have hrl : r.length ≤ i := by simpa using hds1
      have ef : nums found ++ [V.int d] = nums (found ++ [d]) := by simp [nums]
      rcases hstep with ⟨n, rfl, hn⟩ | ⟨rfl, hn⟩ | ⟨rfl, hn⟩
      · walk_at "go"
        refine ⟨found ++ [d], r, _, _, rfl, by walk_at "ex", ?_, by walk_at "hp", hn, by simp [hfl1], by omega⟩
        rw [← ef]
        walk_at "hp"
      · walk_at "go"
        refine ⟨found ++ [d], r ++ [d + 1], _, _, rfl, by walk_at "ex", ?_, ?_, hn, by simp [hfl1], by simp; omega⟩
        · rw [← ef]
          walk_at "hp"
        · rw [upd_same]
          simp [nums]
      · walk_at "go"
        refine ⟨found ++ [d], r ++ [d] ++ [d], _, _, rfl, by walk_at "ex", ?_, ?_, hn, by simp [hfl1], by simp; omega⟩
        · rw [← ef]
          walk_at "hp"
        · rw [upd_same]
          simp [nums]
    · rintro σ H1 ⟨found, ds, y1, y2, rfl, e1, hf1, hw1, hinv, hfl1, hds1⟩
      walk_at "go"
      rw [hinv.done] at hf1
      exact q H1 fl e1 hfl hf1
theorem ok_depths {f : Addr} {fd : FuncData} {k : Nat} (F : Fun K "depths" "depths" s_depths f fd) (T : Txt w K mg tk cl) : FnOk P w K mg base CX0 (k + 1) f fd ["term"] (spDepths K) := by
  refine F.ok sc_depths (fun vs H Q E h => ?_) (fun cdv A outer s H vs Q E hr h => ?_)
  · obtain ⟨a, t, rfl, _⟩ := h
    rfl
  · obtain ⟨a, t, rfl, hS, hlen, q⟩ := h
    refine ⟨_, (pss_cons (ps_set (i := 1) sc_depths.nd rfl (.inl rfl) (pe_lst pa_nil)) (pss_cons (ps_set (i := 2) sc_depths.nd rfl (.inl rfl) (pe_lst (pa_cons pe_int pa_nil))) (pss_cons (ps_for PassesOwn.never rfl (pi_tup (pv 0)) (pg_name (i := 3) sc_depths.nd rfl (.inl rfl)) (pss_cons (ps_set (i := 4) sc_depths.nd rfl (.inl rfl) (pe_bm0 PySem.F.plainAttrs_list PySem.F.slot_list_pop PySem.F.type_list_pop mt_pop (pv 2))) (pss_cons (ps_expr (pe_bm PySem.F.plainAttrs_list PySem.F.slot_list_append PySem.F.type_list_append mt_append (pv 1) (pa_cons (pv 4) pa_nil))) (pss_one (ps_if (pt_cmpR op_eq (pv 3) pe_str (nomark _)) (pss_one (ps_expr (pe_bm PySem.F.plainAttrs_list PySem.F.slot_list_append PySem.F.type_list_append mt_append (pv 2) (pa_cons (pe_op op_add (pv 4) pe_int) pa_nil)))) (pss_one (ps_if (pt_cmpR op_eq (pv 3) pe_str (nomark _)) (pss_cons (ps_expr (pe_bm PySem.F.plainAttrs_list PySem.F.slot_list_append PySem.F.type_list_append mt_append (pv 2) (pa_cons (pv 4) pa_nil))) (pss_one (ps_expr (pe_bm PySem.F.plainAttrs_list PySem.F.slot_list_append PySem.F.type_list_append mt_append (pv 2) (pa_cons (pv 4) pa_nil))))) pss_nil))))))) (pss_one (ps_ret (pv 1)))))), ?_⟩
    refine sl_of (σ2 := [some _, none, none, none, none]) rfl ?_
    walk_at "st"
    walk_at "go"
    intro fl hfl
    walk_at "go"
    intro wl hwl
    have hwf : wl ≠ fl := (ne_of_none upd_same hwl).symm
    have hwl0 : H wl = none := by
      rw [upd_ne hwf] at hwl
      exact hwl
    walk_at "go"
    refine for_tup (K := K) (a := a) (xs := t.enc) (fun i σ H' => ∃ found ds y1 y2, σ = [some (.ref a), some (.ref fl), some (.ref wl), y1, y2] ∧ Ex H H' ∧ H' fl = some (.lst (nums found)) ∧ H' wl = some (.lst (nums ds)) ∧ DInv t i found ds ∧ found.length = i ∧ ds.length ≤ i + 1)
      ⟨[], [0], none, none, rfl, by walk_at "ex", by walk_at "hp", upd_same, DInv.start t, rfl, by simp⟩ (fun i σ H' _ h => by obtain ⟨_, _, _, _, _, e, _⟩ := h; exact ex_t e hS) ?_ ?_
    · rintro i v σ H1 hi ⟨found, ds, y1, y2, rfl, e1, hf1, hw1, hinv, hfl1, hds1⟩
      have hlt : i < t.enc.length := (List.getElem?_eq_some_iff.mp hi).1
      obtain ⟨r, d, rfl, hstep⟩ := hinv.step hi
      have hw1b : H1 wl = some (.lst (nums r ++ [V.int d])) := by rw [hw1]; simp [nums]
      have el : (nums found).length = found.length := List.length_map _
      have el2 : (nums r).length = r.length := List.length_map _
      have hrl : r.length ≤ i := by simpa using hds1
      have ef : nums found ++ [V.int d] = nums (found ++ [d]) := by simp [nums]
      rcases hstep with ⟨n, rfl, hn⟩ | ⟨rfl, hn⟩ | ⟨rfl, hn⟩
      · walk_at "go"
        refine ⟨found ++ [d], r, _, _, rfl, by walk_at "ex", ?_, by walk_at "hp", hn, by simp [hfl1], by omega⟩
        rw [← ef]
        walk_at "hp"
      · walk_at "go"
        refine ⟨found ++ [d], r ++ [d + 1], _, _, rfl, by walk_at "ex", ?_, ?_, hn, by simp [hfl1], by simp; omega⟩
        · rw [← ef]
          walk_at "hp"
        · rw [upd_same]
          simp [nums]
      · walk_at "go"
        refine ⟨found ++ [d], r ++ [d] ++ [d], _, _, rfl, by walk_at "ex", ?_, ?_, hn, by simp [hfl1], by simp; omega⟩
        · rw [← ef]
          walk_at "hp"
        · rw [upd_same]
          simp [nums]
    · rintro σ H1 ⟨found, ds, y1, y2, rfl, e1, hf1, hw1, hinv, hfl1, hds1⟩
      walk_at "go"
      rw [hinv.done] at hf1
      exact q H1 fl e1 hfl hf1
end
end Ly
set_option Elab.async false
set_option linter.all false
set_option maxRecDepth 100000
set_option maxHeartbeats 8000000
namespace Ly
open PySem PySem.Spec PyProof.Rows L2 Evl
local macro_rules | `(tactic| walk_at "ne") => `(tactic| first
  | assumption
  | ((refine' Ne.symm ?hq); (case hq => assumption))
  | ((refine' ne_of_none ?nh1 ?nh2); (case nh2 => assumption); (case nh1 => walk_at "hp"))
  | ((refine' Ne.symm (ne_of_none ?nh1 ?nh2)); (case nh2 => assumption); (case nh1 => walk_at "hp")))
local macro_rules | `(tactic| walk_at "hp") => `(tactic| first
  | assumption
  | exact upd_same
  | ((refine' SqL.of ?hq); (case hq => walk_at "hp"))
  | ((refine' SqT.of ?hq); (case hq => walk_at "hp"))
  | ((refine' (upd_ne ?hne).trans ?hrest); (case hne => walk_at "ne"); (case hrest => walk_at "hp"))
  | ((refine' ly_at ?hex ?hh); (case hex => assumption); (case hh => walk_at "hp"))
  | ((refine' ly_atF ?hex ?hnn ?hh); (case hex => assumption); (case hh => walk_at "hp"); (case hnn => walk_at "ne"))
  | ((refine' ex_t ?hex ?hh); (case hh => assumption); (case hex => walk_at "ex"))
  | ((refine' ex_l ?hex ?hh); (case hh => assumption); (case hex => walk_at "ex")))
local macro_rules | `(tactic| walk_at "ex") => `(tactic| first
  | assumption
  | exact Ex.refl _
  | ((refine' ex_new ?xa ?xb); (case xb => assumption); (case xa => walk_at "ex"))
  | ((refine' ex_upd ?xa ?xb); (case xb => walk_at "free"); (case xa => walk_at "ex"))
  | ((refine' Ex.trans ?xa ?xb); (case xb => assumption); (case xa => walk_at "ex")))
local macro_rules | `(tactic| walk_at "free") => `(tactic| first
  | assumption
  | ((refine' fresh_back ?xa ?xb); (case xb => assumption); (case xa => walk_at "ex")))
local macro_rules | `(tactic| walk_at "fr") => `(tactic| first
  | assumption
  | exact Fr.refl _ _
  | ((refine' Fr.own ?hq); (case hq => walk_at "fr"))
  | ((refine' Fr.new ?xa ?xb); (case xb => assumption); (case xa => walk_at "fr"))
  | ((refine' Fr.mut ?xa ?xb); (case xb => assumption); (case xa => walk_at "fr"))
  | ((refine' Fr.trans ?xa ?xb); (case xb => assumption); (case xa => walk_at "fr"))
  | ((refine' Fr.trans ?xa (Fr.ex ?xb)); (case xb => assumption); (case xa => walk_at "fr")))
local macro_rules | `(tactic| walk_at "go1") => `(tactic| first
  | (with_reducible refine' w_seq ?_)
  | (with_reducible refine' w_asg ?_)
  | (with_reducible refine' w_ret ?_)
  | (with_reducible refine' w_drop ?_)
  | (with_reducible refine' w_if ?_)
  | (with_reducible refine' w_next ?_)
  | (with_reducible refine' w_name ?_)
  | (with_reducible refine' w_sub ?_)
  | ((with_reducible refine' w_var ?hv ?_); (case hv => exact rfl))
  | (with_reducible refine' w_c ?_)
  | (with_reducible refine' w_op ?_)
  | (with_reducible refine' w_un ?_)
  | (with_reducible refine' w_ch ?_)
  | (with_reducible refine' w_I0 ?_)
  | ((with_reducible refine' w_I ?hc ?_); (case hc => first | (exact ly_mulL (by decide) (by decide)) | (exact ly_mulR (by decide) (by decide)) | (exact ly_mulL (by omega) (by omega)) | (show (_ : Int) ≠ 0; decide) | (show (_ : Int) ≠ 0; omega) | (exact ⟨by decide, by decide⟩) | (exact ⟨by omega, by omega⟩)))
  | (with_reducible refine' w_U ?_)
  | ((with_reducible refine' w_eq ?hs ?_); (case hs => exact rfl))
  | ((with_reducible refine' w_ne ?hs ?_); (case hs => exact rfl))
  | (with_reducible refine' w_isB ?_)
  | (with_reducible refine' w_notB ?_)
  | (with_reducible refine' w_nil ?_)
  | (with_reducible refine' w_cons ?_)
  | (with_reducible refine' w_tup ?_)
  | (with_reducible refine' w_lst ?_)
  | (with_reducible refine' w_cb ?_)
  | (with_reducible refine' w_call ?_)
  | (with_reducible refine' w_bm ?_)
  | (with_reducible refine' w_bm0 ?_)
  | ((with_reducible refine' w_app ?hh ?hz ?_); (case hh => walk_at "hp"); (case hz => first | exact ly_lt (by omega) | exact ly_lt (by simp only [List.length_append, List.length_map, List.length_cons, List.length_nil]; omega)))
  | ((with_reducible refine' w_popA ?hh ?_); (case hh => walk_at "hp"))
  | ((with_reducible refine' w_ext ?hh ?hh2 ?hz ?_); (case hh => walk_at "hp"); (case hh2 => walk_at "hp"))
  | ((with_reducible refine' w_ixL ?hh ?ha ?_); (case hh => walk_at "hp"); (case ha => first | exact rfl | exact at_map (by omega) | exact atI_last _ _ | ((refine' at_of ?ae ?ah); (case ah => assumption); (case ae => omega))))
  | ((with_reducible refine' w_ixT ?hh ?ha ?_); (case hh => walk_at "hp"); (case ha => first | exact rfl | exact at_map (by omega) | exact atI_last _ _ | ((refine' at_of ?ae ?ah); (case ah => assumption); (case ae => omega))))
  | ((with_reducible refine' w_cat ?hh ?hh2 ?hz ?_); (case hh => walk_at "hp"); (case hh2 => walk_at "hp"))
  | ((with_reducible refine' w_setL ?hh ?ha ?_); (case hh => walk_at "hp"); (case ha => exact rfl))
  | (with_reducible refine' w_test ?_)
  | (with_reducible refine' w_tB ?_)
  | (with_reducible refine' w_bl ?_)
  | (with_reducible refine' w_and ?_)
  | (with_reducible refine' w_or ?_)
  | (with_reducible refine' w_not ?_)
  | (with_reducible refine' w_andV ?_)
  | (with_reducible refine' w_orV ?_)
  | (with_reducible refine' w_notV ?_)
  | (with_reducible refine' w_ifE ?_)
  | (with_reducible refine' w_for ?_)
  | ((with_reducible refine' w_nin ?hh ?_); (case hh => walk_at "hp"))
  | ((with_reducible refine' w_sorted ?hh ?_); (case hh => walk_at "hp"))
  | (with_reducible refine' w_tsadd ?_)
  | ((with_reducible refine' w_tsadd1 ?hh ?_); (case hh => walk_at "hp"))
  | ((with_reducible refine' w_sadd ?hh ?hr ?_); (case hh => walk_at "hp"); (case hr => omega))
  | (with_reducible refine' w_iZ ?_)
  | ((with_reducible refine' w_iZ1 ?hh ?hh2 ?_); (case hh => walk_at "hp"); (case hh2 => walk_at "hp"))
  | (with_reducible refine' w_iS ?_)
  | (with_reducible refine' w_iS1 ?_)
  | ((with_reducible refine' w_gtup ?hh ?hn ?_); (case hh => walk_at "hp"); (case hn => exact rfl))
  | (with_reducible refine' w_gcons ?_)
  | (with_reducible refine' w_gnil ?_)
  | (with_reducible refine' w_js ?_)
  | (with_reducible refine' w_jsn ?_)
  | ((with_reducible refine' w_js1 ?hl ?_); (case hl => decide +kernel))
  | (with_reducible refine' w_fmt ?_)
  | ((with_reducible refine' w_fmt1 ?hl ?_); (case hl => decide +kernel))
  | (with_reducible refine' w_callS ?_)
  | ((with_reducible refine' w_truL ?hh ?_); (case hh => walk_at "hp"))
  | (with_reducible refine' w_lc ?_)
  | (with_reducible refine' w_yes ?_)
  | ((with_reducible refine' w_wipe ?he ?_); (case he => exact rfl))
  | (with_reducible refine' w_iL ?_)
  | (with_reducible refine' w_iT ?_)
  | (with_reducible refine' w_iR ?_)
  | ((with_reducible refine' w_iL1 ?hh ?_); (case hh => walk_at "hp"))
  | ((with_reducible refine' w_iT1 ?hh ?_); (case hh => walk_at "hp"))
  | ((with_reducible refine' w_iR1 ?h1 ?h2 ?_); (case h1 => omega); (case h2 => omega))
  | ((with_reducible refine' w_aug ?hv ?_); (case hv => exact rfl))
  | (with_reducible refine' w_ipI ?_)
  | ((with_reducible refine' w_isi ?hy ?hk ?_); (case hy => walk_at "ty"); (case hk => walk_at "kit"))
  | ((with_reducible refine' w_int ?_))
  | ((with_reducible refine' w_intB ?_))
  | ((with_reducible refine' w_abs ?_))
  | ((with_reducible refine' w_lenL ?hh ?_); (case hh => walk_at "hp"))
  | ((with_reducible refine' w_lenT ?hh ?_); (case hh => walk_at "hp"))
  | ((with_reducible refine' w_tupL ?hh ?_); (case hh => walk_at "hp"))
  | ((with_reducible refine' w_tupT ?hh ?_); (case hh => walk_at "hp"))
  | ((with_reducible refine' w_catA ?hh ?hh2 ?hz ?_); (case hh => walk_at "hp"); (case hh2 => walk_at "hp"); (case hz => walk_at "len"))
  | ((with_reducible refine' w_repB ?hh ?hne ?h2 ?h3 ?hz ?_); (case hh => walk_at "hp"); (case hne => simp); (case h2 => omega); (case h3 => omega); (case hz => exact Nat.le_of_ble_eq_true rfl))
  | ((with_reducible refine' w_eqN ?hh ?hh2 ?n1 ?n2 ?_); (case hh => walk_at "hp"); (case hh2 => walk_at "hp"); (case n1 => walk_at "nd"); (case n2 => walk_at "nd"))
  | ((with_reducible refine' w_neN ?hh ?hh2 ?n1 ?n2 ?_); (case hh => walk_at "hp"); (case hh2 => walk_at "hp"); (case n1 => walk_at "nd"); (case n2 => walk_at "nd"))
  | ((with_reducible refine' w_eqL ?hh ?hh2 ?n1 ?n2 ?_); (case hh => walk_at "hp"); (case hh2 => walk_at "hp"); (case n1 => walk_at "nd"); (case n2 => walk_at "nd"))
  | ((with_reducible refine' w_neL ?hh ?hh2 ?n1 ?n2 ?_); (case hh => walk_at "hp"); (case hh2 => walk_at "hp"); (case n1 => walk_at "nd"); (case n2 => walk_at "nd"))
  | ((with_reducible refine' w_neNon ?hh2 ?n2 ?_); (case hh2 => walk_at "hp"); (case n2 => walk_at "nd"))
  | ((with_reducible refine' w_eqNon ?hh2 ?n2 ?_); (case hh2 => walk_at "hp"); (case n2 => walk_at "nd"))
  | ((with_reducible refine' w_slA ?hh ?_); (case hh => walk_at "hp"))
  | ((with_reducible refine' w_disp ?hz ?_); (case hz => exact sz_of (Nat.le_of_ble_eq_true rfl)))
  | ((with_reducible refine' w_tyL ?hh ?_); (case hh => walk_at "hp"))
  | (with_reducible refine' iteT ?_)
  | (with_reducible refine' iteF ?_)
  | (with_reducible refine' w_nT ?_)
  | (with_reducible refine' w_nn ?_)
  | (with_reducible refine' w_nnT ?_)
  | (with_reducible refine' w_nnR ?_)
  | (with_reducible refine' w_neG ?_)
  | (with_reducible refine' w_eqG ?_)
  | (with_reducible refine' w_neS ?_)
  | (with_reducible refine' w_eqS ?_)
  | (with_reducible refine' w_neSb ?_)
  | (with_reducible refine' w_eqSb ?_)
  | (with_reducible refine' w_deIS ?_)
  | (with_reducible refine' w_deSI ?_)
  | (with_reducible refine' w_deISn ?_)
  | ((with_reducible refine' w_deST ?he ?_); (case he => decide +kernel))
  | ((with_reducible refine' w_deSF ?he ?_); (case he => decide +kernel))
  | ((with_reducible refine' w_deSTn ?he ?_); (case he => decide +kernel))
  | ((with_reducible refine' w_deSFn ?he ?_); (case he => decide +kernel))
  | (with_reducible refine' w_nF ?_)
  | dsimp only [Bool.not_true, Bool.not_false])
local macro_rules | `(tactic| walk_at "ty") => `(tactic| first
  | exact .base (.int _) | exact .base (.str _) | exact .base (.bl _) | exact .base .non
  | ((refine' tyx_t ?hq); (case hq => walk_at "hp")) | ((refine' tyx_l ?hq); (case hq => walk_at "hp")) | ((refine' .base (.tup ?hq)); (case hq => walk_at "hp")) | assumption)
local macro_rules | `(tactic| walk_at "go") => `(tactic| repeat walk_at "go1")
local macro_rules | `(tactic| walk_at "st") => `(tactic| try dsimp only [cxOf, Cx.nox, Cx.wish])
local macro_rules | `(tactic| walk_at "kit") => `(tactic| with_reducible first | exact kit_int_int | exact kit_int_str | exact kit_int_bool | exact kit_int_tuple | exact kit_int_list | exact kit_str_int | exact kit_str_str | exact kit_str_bool | exact kit_str_tuple | exact kit_str_list | exact kit_bool_int | exact kit_bool_str | exact kit_bool_bool | exact kit_bool_tuple | exact kit_bool_list | exact kit_NoneType_int | exact kit_NoneType_str | exact kit_NoneType_bool | exact kit_NoneType_tuple | exact kit_NoneType_list | exact kit_list_int | exact kit_list_str | exact kit_list_bool | exact kit_list_tuple | exact kit_list_list | exact kit_tuple_int | exact kit_tuple_str | exact kit_tuple_bool | exact kit_tuple_tuple | exact kit_tuple_list)
local macro_rules | `(tactic| walk_at "nd") => `(tactic| first
  | assumption
  | exact Tm.nds _
  | exact Nds.nil
  | exact Nds.ofInts _
  | ((refine' Nds.cons ?na ?nb); (case na => first | exact Nds.I _ | exact Nds.L | exact Nds.A); (case nb => walk_at "nd"))
  | ((refine' Nds.app ?na ?nb); (case na => walk_at "nd"); (case nb => walk_at "nd"))
  | ((refine' Nds.rep ?na _); (case na => walk_at "nd")))
local macro_rules | `(tactic| walk_at "len") => `(tactic| first
  | exact ly_sz (by omega)
  | ((simp only [List.length_append, List.length_cons, List.length_nil, List.length_map, PyProof.Rows.lm_len_rep_flat]); exact ly_sz (by omega)))
local macro_rules | `(tactic| walk_at "go1") => `(tactic| first
  | (with_reducible refine' w_kget2 ?_)
  | (with_reducible refine' w_isRN ?_)
  | (with_reducible refine' w_isNN ?_)
  | (with_reducible refine' w_isIN ?_)
  | ((with_reducible refine' w_kg ?hd ?_); (case hd => assumption)))
local macro_rules | `(tactic| walk_at "go1") => `(tactic| first
  | ((with_reducible refine' w_extT ?hh ?hh2 ?hz ?_); (case hh => walk_at "hp"); (case hh2 => walk_at "hp"))
  | ((with_reducible refine' w_I ?hc ?_); (case hc => exact ⟨by decide, by decide, by decide⟩))
  | (with_reducible refine' w_sl ?_)
  | (with_reducible refine' w_noP ?_)
  | (with_reducible refine' w_part ?_)
  | (with_reducible refine' w_part1 ?_)
  | (with_reducible refine' w_it ?_)
  | (with_reducible refine' w_it1 ?_)
  | ((with_reducible refine' w_lenZ ?hz ?_); (case hz => omega))
  | ((with_reducible refine' w_addZb ?hz ?_); (case hz => omega))
  | ((with_reducible refine' w_addZf ?hz ?_); (case hz => omega))
  | ((with_reducible refine' w_addZa ?hz ?_); (case hz => omega))
  | ((with_reducible refine' w_inS ?hh ?_); (case hh => walk_at "hp"))
  | ((with_reducible refine' w_ixT ?hh ?ha ?_); (case hh => assumption); (case ha => exact atI_nat (by assumption))))
local macro_rules | `(tactic| walk_at "go1") => `(tactic| first
  | (with_reducible refine' w_iR2 ?_)
  | ((with_reducible refine' w_iR21 ?h1 ?h2 ?h3 ?h4 ?_); (case h1 => omega); (case h2 => omega); (case h3 => omega); (case h4 => omega))
  | (with_reducible refine' w_nnI ?_)
  | (with_reducible refine' w_max ?_)
  | (with_reducible refine' w_break ?_)
  | (with_reducible refine' w_cont ?_))
local macro_rules | `(tactic| walk_at "go1") => `(tactic| first
  | (with_reducible refine' w_tdget ?_)
  | (with_reducible refine' w_tdin ?_)
  | (with_reducible refine' w_tdnotin ?_)
  | (with_reducible refine' w_sdput ?_)
  | (with_reducible refine' w_tdsetd ?_)
  | (with_reducible refine' w_dnew ?_))
local macro_rules | `(tactic| walk_at "go1") => `(tactic| first
  | (with_reducible refine' w_m1 ?_)
  | (with_reducible refine' w_m11 ?_)
  | (with_reducible refine' w_st2 ?_)
  | (with_reducible refine' w_sg ?_)
  | (with_reducible refine' w_sg2 ?_)
  | (with_reducible refine' w_sgSp ?_)
  | ((with_reducible refine' w_lcnt ?hh ?_); (case hh => walk_at "hp")))
section
variable {P : Program} {w : World} {K : PySem.W.Frag} {mg : Str → Option Value} {base : Heap} {tk : Nat → Tok} {cl : Nat → Addr}
def spIsName (PT : Addr) : Sp := fun vs H Q _ => ∃ (w : List Nat), vs = [.str (pl w)] ∧ w.length ≤ 1000000 ∧ GxR.TabG H PT ∧ ∀ H', Tb PT H H' → Q (.bl (nmB w)) H'
theorem ok_isname {f : Addr} {fd : FuncData} {cT PT : Addr} (F : Fun K "is_name" "is_name" s_is_name f fd) (T : Txt w K mg tk cl) (tb : GxR.TabB base mg cT PT) (hcd0 : fd.code = .ref cT) : FnOk P w K mg base CX0 2 f fd ["value"] (spIsName PT) := by
  refine okC F sc_is_name (fun vs H Q E h => ?_) (fun cdv A outer s H vs Q E e hr h => ?_)
  · obtain ⟨w, rfl, _⟩ := h
    rfl
  · obtain ⟨w, rfl, hl, ht, q⟩ := h
    have hcd : cdv = .ref cT := e.symm.trans hcd0
    refine ⟨_, (pss_cons (ps_if (PW.pt (pw_or (pt_not (pt_val (pe_callB call_isi (by rfl) T.n_isinstance (by decide +kernel) (pa_cons (pv 0) (pa_cons (pe_bltn (v := .ty "str") (by rfl) T.n_str (by decide +kernel) rfl) pa_nil))))) (pw_or1 (pt_not (pt_chain op_le op_le pe_int (pe_callB call_lenZ (by rfl) T.n_len (by decide +kernel) (pa_cons (pv 0) pa_nil)) (pe_glob (v := .int 10) rfl T.g_MOST_LENGTH ⟨_, rfl⟩)))))) (pss_one (ps_ret pe_bl)) pss_nil) (pss_cons (ps_if (pt_cmpR op_notIn_sign (pe_ix ix_str (pv 0) pe_int (fun _ _ => rfl)) (pe_glob (v := .str "abcdefghijklmnopqrstuvwxyz") (by rfl) T.g_LETTERS ⟨_, rfl⟩) rfl) (pss_one (ps_ret pe_bl)) pss_nil) (pss_one (ps_ret (pe_allM hr (by rfl) T.n_all (by decide +kernel) tb hcd (gen_s (by rfl) (by rfl) (by decide) (by rfl) (by rfl) (by decide)) (pe_slice sl_str (pv 0) (po_some pe_int) po_none) (eltM_in (by rfl) (by rfl) (by rfl) T.g_DIGITS) (fun _ => rfl)))))), ?_⟩
    refine sl_of (σ2 := [some _, none]) rfl ?_
    walk_at "st"
    walk_at "go"
    cases w with
    | nil =>
      refine w_br (fun c1 => absurd c1 (by decide)) (fun _ => ?_)
      walk_at "go"
      exact q H (Tb.refl ht)
    | cons c ds =>
      refine w_br (fun _ => ?_) (fun c1 => ?_)
      rotate_left
      · exact absurd (by simp; omega) c1
      walk_at "go"
      have lz : (c :: ds).length = ds.length + 1 := rfl
      by_cases c1 : ((c :: ds).length : Int) ≤ 10
      · rw [decide_eq_true c1]
        walk_at "go"
        refine w_ixSt hl (atI_nat (xs := c :: ds) (j := 0) (v := c) rfl) ?_
        walk_at "go"
        cases hlow : isLow c with
        | false =>
          walk_at "go"
          rw [let_in, hlow]
          walk_at "go"
          have e : nmB (c :: ds) = false := by
            show (isLow c && _ && _) = false
            rw [hlow]; rfl
          rw [← e]
          exact q H (Tb.refl ht)
        | true =>
          walk_at "go"
          rw [let_in, hlow]
          walk_at "go"
          refine w_allS ?_
          walk_at "go"
          refine w_slHi (i := 1) hl ?_
          walk_at "go"
          refine ⟨ht, fun H2 t2 => ?_⟩
          have e : nmB (c :: ds) = ((pl (List.drop 1 (c :: ds))).cps.toList.all fun c => decide (c ∈ ("0123456789" : Str).cps.toList)) := by
            show (isLow c && ds.all isDig && decide (ds.length ≤ 9)) = ds.all _
            rw [hlow, decide_eq_true (by omega), Bool.and_true, Bool.true_and, funext dig_in]
          rw [← e]
          exact q H2 (Tb.of t2)
      · rw [decide_eq_false c1]
        walk_at "go"
        have e : nmB (c :: ds) = false := by
          show (_ && _ && decide (ds.length ≤ 9)) = false
          rw [decide_eq_false (by omega), Bool.and_false]
        rw [← e]
        exact q H (Tb.refl ht)
/-- the free names serve -/
def NmOk (fs : List (List Nat)) : Prop := Nms fs ∧ fs.Nodup
def InT (kvs : List (L2.Key × V)) (fs : List (List Nat)) : Prop := kvs.length ≤ fs.length ∧ ∀ n, (valV kvs (.inr (pl n))).isSome = decide (n ∈ fs)
def spTable (PT : Addr) (C : Addr) : Sp := fun vs H Q E => ∃ (b : Addr) (fs : List (List Nat)), vs = [.ref b] ∧ H b = some (.lst (plcs fs)) ∧ fs.length ≤ 1000 ∧ (∀ w ∈ fs, w.length ≤ 1000000) ∧ GxR.TabG H PT ∧
  (NmOk fs → ∀ H' p kvs, Tb PT H H' → H p = none → H' p = some (.dK kvs) → InT kvs fs → Q (.ref p) H') ∧ (¬ NmOk fs → ∀ H', Tb PT H H' → E (.ref C) none H')
theorem InT.nil : InT [] [] := ⟨Nat.le_refl _, fun n => rfl⟩
theorem InT.put {kvs : List (L2.Key × V)} {fs : List (List Nat)} (h : InT kvs fs) {w : List Nat} (v : V) : InT (putK kvs (.inr (pl w)) v) (fs ++ [w]) := by
  refine ⟨?_, fun n => ?_⟩
  · have := length_putK kvs (.inr (pl w)) v
    have := h.1
    rw [List.length_append, List.length_singleton]
    omega
  · rw [valV_put]
    by_cases e : n = w
    · subst e
      rw [if_pos rfl]
      simp
    · rw [if_neg (fun z => e (pl_inj (Sum.inr.inj z))), h.2 n]
      simp [e]
theorem tk_succ {α : Type} {fs : List α} {i : Nat} {w : α} (h : fs[i]? = some w) : fs.take (i + 1) = fs.take i ++ [w] := by
  rw [List.take_add_one, h]
  rfl
theorem ok_nmtable {f : Addr} {fd : FuncData} {PT : Addr} (F : Fun K "name_table" "name_table" s_name_table f fd) (T : Txt w K mg tk cl) (D1 : Def P w K mg base CX0 2 "is_name" ["value"] (spIsName PT)) :
    FnOk P w K mg base (L2.CX P w) 3 f fd ["names"] (spTable PT (cl 5)) := by
  obtain ⟨f1, fd1, g_is_name, kp_is_name, b_is_name, G_is_name⟩ := D1
  refine F.okX sc_name_table (fun vs H Q E h => ?_) (fun cdv A outer s H vs Q E hr h => ?_)
  · obtain ⟨b, fs, rfl, _⟩ := h
    rfl
  · obtain ⟨b, fs, rfl, hb, hl, hwl, ht, q, x⟩ := h
    refine ⟨_, (pss_cons (ps_set (i := 1) sc_name_table.nd rfl (.inl rfl) pe_dnewK) (pss_cons (ps_for (passes_of rfl) rfl (pi_list (pv 0)) (pg_name (i := 2) sc_name_table.nd rfl (.inl rfl)) (pss_cons (ps_if (pt_not (pt_val (pe_call G_is_name (hr.mono (by first | decide | omega)) (by rfl) g_is_name kp_is_name b_is_name .nil pass0 (pa_cons (pv 2) pa_nil)))) (pss_one (ps_raise rfl (takes_of rfl rfl rfl rfl) (SkE.pmk_own1 PySem.F.excBase_ValueError T.x_BadNames T.g_BadNames T.k_BadNames (raises_own T.b_BadNames T.t_BadNames) rfl pe_str))) pss_nil) (pss_cons (ps_if (pt_cmp (pc_din (by exact Nat.lt_of_le_of_lt (Nat.add_le_add_left (by decide) _) hr.units) (pv 2) (pv 1))) (pss_one (ps_raise rfl (takes_of rfl rfl rfl rfl) (SkE.pmk_own1 PySem.F.excBase_ValueError T.x_BadNames T.g_BadNames T.k_BadNames (raises_own T.b_BadNames T.t_BadNames) rfl pe_str))) pss_nil) (pss_one (ps_dput (by exact Nat.lt_of_le_of_lt (Nat.add_le_add_left (by decide) _) hr.units) (pv 1) (pv 2) pe_bl (by rfl)))))) (pss_one (ps_ret (pv 1))))), ?_⟩
    refine sl_of (σ2 := [some _, none, none]) rfl ?_
    walk_at "st"
    walk_at "go"
    intro p0 hp0
    have t0 := Tb.mut ht (Tb.refl ht) hp0 (o := .dK [])
    have h0 : upd H p0 (.dK []) p0 = some (.dK []) := upd_same
    have nb : b ≠ p0 := ne_of_none hb hp0
    have hb0 : upd H p0 (.dK []) b = some (.lst (plcs fs)) := by rw [upd_ne nb]; exact hb
    generalize upd H p0 (.dK []) = H1 at *
    walk_at "go"
    refine for_list (K := K) (a := b) (xs := plcs fs) (fun i σ H' => ∃ kvs y, σ = [some (.ref b), some (.ref p0), y] ∧ Tb PT H H' ∧ H' b = some (.lst (plcs fs)) ∧ H' p0 = some (.dK kvs) ∧ InT kvs (fs.take i) ∧ Nms (fs.take i) ∧ (fs.take i).Nodup)
      ⟨[], none, rfl, t0, hb0, h0, InT.nil, (fun w hw => by simp at hw), by simp⟩ (fun i σ H' _ ⟨_, _, _, _, h, _⟩ => SqL.of h) ?_ ?_
    · rintro i z σ H3 hi ⟨kvs, y, rfl, t3, hb3, h3, hin, hnm, hnd⟩
      rw [List.getElem?_map] at hi
      obtain ⟨w, hw, rfl⟩ := Option.map_eq_some_iff.mp hi
      have hwm := List.mem_of_getElem? hw
      have il := (List.getElem?_eq_some_iff.mp hw).1
      walk_at "go"
      refine ⟨w, rfl, hwl w hwm, t3.1, fun H4 t4 => ?_⟩
      have hb4 := t4.lst t3.1 hb3
      have h4 := t4.dk t3.1 h3
      have t04 := t3.trans t4
      walk_at "go"
      cases hn : nmB w with
      | false =>
        walk_at "go"
        refine x (fun z => ?_) H4 t04
        rw [z.1 w hwm] at hn
        cases hn
      | true =>
        walk_at "go"
        refine w_dinS h4 ?_
        rw [hin.2 w]
        by_cases hm : w ∈ fs.take i
        · rw [decide_eq_true hm]
          walk_at "go"
          refine x (fun z => ?_) H4 t04
          have nd := z.2
          rw [← List.take_append_drop (i + 1) fs, tk_succ hw] at nd
          have := (List.nodup_append.mp (List.nodup_append.mp nd).1).2.2 w hm w (by simp)
          exact this rfl
        · rw [decide_eq_false hm]
          walk_at "go"
          refine w_dputS h4 (ly_lt (by have := hin.1; simp at this; omega)) ?_
          walk_at "go"
          have e1 := tk_succ hw
          refine ⟨_, _, rfl, Tb.mut ht t04 hp0, by rw [upd_ne nb]; exact hb4, upd_same, by rw [e1]; exact hin.put _, ?_, ?_⟩
          · rw [e1]
            intro v hv
            rcases List.mem_append.mp hv with hv | hv
            · exact hnm v hv
            · rw [List.mem_singleton.mp hv]; exact hn
          · rw [e1]
            refine List.nodup_append.mpr ⟨hnd, by simp, fun a ha c hc e => hm ?_⟩
            rw [List.mem_singleton.mp hc] at e
            rw [← e]
            exact ha
    · rintro σ H3 ⟨kvs, y, rfl, t3, hb3, h3, hin, hnm, hnd⟩
      rw [show (plcs fs).length = fs.length from List.length_map _, List.take_length] at hin hnm hnd
      walk_at "go"
      exact q ⟨hnm, hnd⟩ H3 p0 kvs t3 hp0 h3 hin
def spNumbered : Sp := fun vs H Q _ => ∃ n : Nat, vs = [.int (n : Int)] ∧ n < 2600 ∧ Q (.str (pl (nmN n))) H
theorem ok_numbered {f : Addr} {fd : FuncData} {k : Nat} (F : Fun K "numbered_name" "numbered_name" s_numbered_name f fd) (T : Txt w K mg tk cl) : FnOk P w K mg base CX0 (k + 1) f fd ["number"] spNumbered := by
  refine F.ok sc_numbered_name (fun vs H Q E h => ?_) (fun cdv A outer s H vs Q E hr h => ?_)
  · obtain ⟨n, rfl, _⟩ := h
    rfl
  · obtain ⟨n, rfl, hn, q⟩ := h
    refine ⟨_, (pss_cons (ps_set (i := 1) sc_numbered_name.nd rfl (.inl rfl) (pe_ix ix_str (pe_glob (v := .str "abcdefghijklmnopqrstuvwxyz") (by rfl) T.g_LETTERS ⟨_, rfl⟩) (pe_op op_modN (pv 0) (pe_callB call_lenZ (by rfl) T.n_len (by decide +kernel) (pa_cons (pe_glob (v := .str "abcdefghijklmnopqrstuvwxyz") (by rfl) T.g_LETTERS ⟨_, rfl⟩) pa_nil))) (fun _ _ => rfl))) (pss_cons (ps_set (i := 2) sc_numbered_name.nd rfl (.inl rfl) (pe_op op_fdivN (pv 0) (pe_callB call_lenZ (by rfl) T.n_len (by decide +kernel) (pa_cons (pe_glob (v := .str "abcdefghijklmnopqrstuvwxyz") (by rfl) T.g_LETTERS ⟨_, rfl⟩) pa_nil)))) (pss_cons (ps_if (pt_cmpR op_eq (pv 2) pe_int (nomark _)) (pss_one (ps_ret (pv 1))) pss_nil) (pss_one (ps_ret (pe_joined (.cons (pe_fmt (pv 1)) (.cons (pe_fmt (pv 2)) .nil)))))))), ?_⟩
    refine sl_of (σ2 := [some _, none, none]) rfl ?_
    walk_at "st"
    walk_at "go"
    rw [pl_abc]
    walk_at "go"
    refine w_lenZ (by simp) ?_
    rw [show (List.range' 97 26).length = 26 from rfl]
    refine w_I (by decide) ?_
    rw [fmod26]
    refine w_ixSt (by simp) (atI_nat (get_abc (Nat.mod_lt _ (by decide)))) ?_
    walk_at "go"
    refine w_lenZ (by simp) ?_
    rw [show (List.range' 97 26).length = 26 from rfl]
    refine w_I (by first | decide | exact ⟨by decide, by omega⟩ | (unfold CDivN; omega)) ?_
    rw [fdiv26]
    walk_at "go"
    refine w_brI (fun c0 => ?_) (fun c0 => ?_)
    · walk_at "go"
      have e : nmN n = [97 + n % 26] := if_pos (by omega)
      rw [← e]
      exact q
    · have hd := digs_str (n / 26) (by omega)
      have hdo := digs_ok (d := n / 26) (by omega)
      walk_at "go"
      refine w_fmtS (by simp) ?_
      refine w_js0 (by simp) ?_
      walk_at "go"
      refine .inr ⟨_, rfl, hd.2, ?_⟩
      rw [show ((toString ((n / 26 : Nat) : Int) : String) : Str) = Str.ofString (toString ((n / 26 : Nat) : Int)) from rfl, hd.1, pl_em]
      refine w_js2 (by simp; omega) ?_
      walk_at "go"
      rw [pl_app]
      have e : nmN n = [97 + n % 26] ++ digs (n / 26) := if_neg (fun z => c0 (by rw [z]; rfl))
      rw [← e]
      exact q
def spBound : Sp := fun vs H Q _ => ∃ (n : Nat) (a : Addr) (kvs : List (L2.Key × V)) (fs : List (List Nat)), vs = [.int (n : Int), .ref a] ∧ H a = some (.dK kvs) ∧ InT kvs fs ∧ n + fs.length < 2600 ∧
  ∀ H' p bs m, Ex H H' → H p = none → H' p = some (.lst (plcs bs)) → bs = own fs m → bs.length = n → m ≤ n + fs.length → Q (.ref p) H'
theorem ok_bound {f : Addr} {fd : FuncData} (F : Fun K "bound_names" "bound_names" s_bound_names f fd) (T : Txt w K mg tk cl) (D1 : Def P w K mg base CX0 1 "numbered_name" ["number"] spNumbered) : FnOk P w K mg base CX0 2 f fd ["count", "taken"] spBound := by
  obtain ⟨f1, fd1, g_numbered_name, kp_numbered_name, b_numbered_name, G_numbered_name⟩ := D1
  refine F.ok sc_bound_names (fun vs H Q E h => ?_) (fun cdv A outer s H vs Q E hr h => ?_)
  · obtain ⟨n, a, kvs, fs, rfl, _⟩ := h
    rfl
  · obtain ⟨n, a, kvs, fs, rfl, ha, hin, hn, q⟩ := h
    refine ⟨_, (pss_cons (ps_set (i := 2) sc_bound_names.nd rfl (.inl rfl) (pe_lst pa_nil)) (pss_cons (ps_set (i := 3) sc_bound_names.nd rfl (.inl rfl) pe_int) (pss_cons (ps_while PassesOwn.never (pt_cmpR op_lt (pe_callB call_len_seq (by rfl) T.n_len (by decide +kernel) (pa_cons (pv 2) pa_nil)) (pv 0) (nomark _)) (pss_cons (ps_set (i := 4) sc_bound_names.nd rfl (.inl rfl) (pe_call G_numbered_name (hr.mono (by first | decide | omega)) (by rfl) g_numbered_name kp_numbered_name b_numbered_name .nil pass0 (pa_cons (pv 3) pa_nil))) (pss_cons (ps_if (pt_cmp (pc_dnotin (by exact Nat.lt_of_le_of_lt (Nat.add_le_add_left (by decide) _) hr.units) (pv 4) (pv 1))) (pss_one (ps_expr (pe_bm PySem.F.plainAttrs_list PySem.F.slot_list_append PySem.F.type_list_append mt_append (pv 2) (pa_cons (pv 4) pa_nil)))) pss_nil) (pss_one (ps_aug (i := 3) sc_bound_names.nd rfl (.inl rfl) pe_int ip_add))))) (pss_one (ps_ret (pv 2)))))), ?_⟩
    refine sl_of (σ2 := [some _, some _, none, none, none]) rfl ?_
    walk_at "st"
    walk_at "go"
    intro p0 hp0
    have e0 := Ex.new hp0 (o := .lst (plcs []))
    have h0 : upd H p0 (.lst (plcs [])) p0 = some (.lst (plcs [])) := upd_same
    rw [show (HO.lst ([] : List V)) = .lst (plcs []) from rfl]
    have ha0 := e0 _ _ ha
    have na : a ≠ p0 := ne_of_none ha hp0
    generalize upd H p0 (.lst (plcs [])) = H1 at *
    walk_at "go"
    refine w_while (fun m σ H' => ∃ (i : Nat) (y : Option V), m + i = n + fs.length + 1 ∧ σ = [some (.int (n : Int)), some (.ref a), some (.ref p0), some (.int (i : Int)), y] ∧ Ex H H' ∧ H' a = some (.dK kvs) ∧ H' p0 = some (.lst (plcs (own fs i))) ∧ (own fs i).length ≤ n) (n + fs.length + 1)
      ⟨0, none, rfl, rfl, e0, ha0, h0, Nat.zero_le _⟩ ?_
    rintro m σ H2 ⟨i, y, hm, rfl, e2, ha2, h2, hl2⟩
    walk_at "go"
    rw [show (plcs (own fs i)).length = (own fs i).length from List.length_map _]
    have hlen := own_len (fs := fs) (n := i) (by omega)
    refine w_br (fun c1 => ?_) (fun c1 => ?_)
    · refine ⟨fun σ' H' => ∃ y, σ' = [some (.int (n : Int)), some (.ref a), some (.ref p0), some (.int ((i + 1 : Nat) : Int)), y] ∧ Ex H H' ∧ H' a = some (.dK kvs) ∧ H' p0 = some (.lst (plcs (own fs (i + 1)))) ∧ (own fs (i + 1)).length ≤ n, ?_, ?_⟩
      · rintro σ' H' ⟨y', r1, r2, r3, r4, r5⟩
        exact ⟨n + fs.length + 1 - (i + 1), by omega, i + 1, y', by omega, r1, r2, r3, r4, r5⟩
      · walk_at "go"
        refine ⟨i, rfl, by omega, ?_⟩
        walk_at "go"
        refine w_dnotinS ha2 ?_
        rw [hin.2]
        by_cases hmm : nmN i ∈ fs
        · rw [decide_eq_true hmm]
          walk_at "go"
          exact ⟨_, rfl, e2, ha2, by rw [own_yes hmm]; exact h2, by rw [own_yes hmm]; exact hl2⟩
        · rw [decide_eq_false hmm]
          walk_at "go"
          have e1 : own fs (i + 1) = own fs i ++ [nmN i] := own_no hmm
          have c1' : (own fs i).length < n := by omega
          refine ⟨_, rfl, e2.mut hp0, by rw [upd_ne na]; exact ha2, by rw [upd_same, e1]; simp [plcs], ?_⟩
          rw [e1, List.length_append, List.length_singleton]
          omega
    · walk_at "go"
      have := own_le fs i
      exact q H2 p0 (own fs i) i e2 hp0 h2 rfl (by omega) (by omega)
end
end Ly
set_option Elab.async false
set_option linter.all false
set_option maxRecDepth 100000
set_option maxHeartbeats 8000000
namespace Ly
open PySem PySem.Spec PyProof.Rows L2 Evl
local macro_rules | `(tactic| walk_at "ne") => `(tactic| first
  | assumption
  | ((refine' Ne.symm ?hq); (case hq => assumption))
  | ((refine' ne_of_none ?nh1 ?nh2); (case nh2 => assumption); (case nh1 => walk_at "hp"))
  | ((refine' Ne.symm (ne_of_none ?nh1 ?nh2)); (case nh2 => assumption); (case nh1 => walk_at "hp")))
local macro_rules | `(tactic| walk_at "hp") => `(tactic| first
  | assumption
  | exact upd_same
  | ((refine' SqL.of ?hq); (case hq => walk_at "hp"))
  | ((refine' SqT.of ?hq); (case hq => walk_at "hp"))
  | ((refine' (upd_ne ?hne).trans ?hrest); (case hne => walk_at "ne"); (case hrest => walk_at "hp"))
  | ((refine' ly_at ?hex ?hh); (case hex => assumption); (case hh => walk_at "hp"))
  | ((refine' ly_atF ?hex ?hnn ?hh); (case hex => assumption); (case hh => walk_at "hp"); (case hnn => walk_at "ne"))
  | ((refine' ex_t ?hex ?hh); (case hh => assumption); (case hex => walk_at "ex"))
  | ((refine' ex_l ?hex ?hh); (case hh => assumption); (case hex => walk_at "ex")))
local macro_rules | `(tactic| walk_at "ex") => `(tactic| first
  | assumption
  | exact Ex.refl _
  | ((refine' ex_new ?xa ?xb); (case xb => assumption); (case xa => walk_at "ex"))
  | ((refine' ex_upd ?xa ?xb); (case xb => walk_at "free"); (case xa => walk_at "ex"))
  | ((refine' Ex.trans ?xa ?xb); (case xb => assumption); (case xa => walk_at "ex")))
local macro_rules | `(tactic| walk_at "free") => `(tactic| first
  | assumption
  | ((refine' fresh_back ?xa ?xb); (case xb => assumption); (case xa => walk_at "ex")))
local macro_rules | `(tactic| walk_at "fr") => `(tactic| first
  | assumption
  | exact Fr.refl _ _
  | ((refine' Fr.own ?hq); (case hq => walk_at "fr"))
  | ((refine' Fr.new ?xa ?xb); (case xb => assumption); (case xa => walk_at "fr"))
  | ((refine' Fr.mut ?xa ?xb); (case xb => assumption); (case xa => walk_at "fr"))
  | ((refine' Fr.trans ?xa ?xb); (case xb => assumption); (case xa => walk_at "fr"))
  | ((refine' Fr.trans ?xa (Fr.ex ?xb)); (case xb => assumption); (case xa => walk_at "fr")))
local macro_rules | `(tactic| walk_at "go1") => `(tactic| first
  | (with_reducible refine' w_seq ?_)
  | (with_reducible refine' w_asg ?_)
  | (with_reducible refine' w_ret ?_)
  | (with_reducible refine' w_drop ?_)
  | (with_reducible refine' w_if ?_)
  | (with_reducible refine' w_next ?_)
  | (with_reducible refine' w_name ?_)
  | (with_reducible refine' w_sub ?_)
  | ((with_reducible refine' w_var ?hv ?_); (case hv => exact rfl))
  | (with_reducible refine' w_c ?_)
  | (with_reducible refine' w_op ?_)
  | (with_reducible refine' w_un ?_)
  | (with_reducible refine' w_ch ?_)
  | (with_reducible refine' w_I0 ?_)
  | ((with_reducible refine' w_I ?hc ?_); (case hc => first | (exact ly_mulL (by decide) (by decide)) | (exact ly_mulR (by decide) (by decide)) | (exact ly_mulL (by omega) (by omega)) | (show (_ : Int) ≠ 0; decide) | (show (_ : Int) ≠ 0; omega) | (exact ⟨by decide, by decide⟩) | (exact ⟨by omega, by omega⟩)))
  | (with_reducible refine' w_U ?_)
  | ((with_reducible refine' w_eq ?hs ?_); (case hs => exact rfl))
  | ((with_reducible refine' w_ne ?hs ?_); (case hs => exact rfl))
  | (with_reducible refine' w_isB ?_)
  | (with_reducible refine' w_notB ?_)
  | (with_reducible refine' w_nil ?_)
  | (with_reducible refine' w_cons ?_)
  | (with_reducible refine' w_tup ?_)
  | (with_reducible refine' w_lst ?_)
  | (with_reducible refine' w_cb ?_)
  | (with_reducible refine' w_call ?_)
  | (with_reducible refine' w_bm ?_)
  | (with_reducible refine' w_bm0 ?_)
  | ((with_reducible refine' w_app ?hh ?hz ?_); (case hh => walk_at "hp"); (case hz => first | exact ly_lt (by omega) | exact ly_lt (by simp only [List.length_append, List.length_map, List.length_cons, List.length_nil]; omega)))
  | ((with_reducible refine' w_popA ?hh ?_); (case hh => walk_at "hp"))
  | ((with_reducible refine' w_ext ?hh ?hh2 ?hz ?_); (case hh => walk_at "hp"); (case hh2 => walk_at "hp"))
  | ((with_reducible refine' w_ixL ?hh ?ha ?_); (case hh => walk_at "hp"); (case ha => first | exact rfl | exact at_map (by omega) | exact atI_last _ _ | ((refine' at_of ?ae ?ah); (case ah => assumption); (case ae => omega))))
  | ((with_reducible refine' w_ixT ?hh ?ha ?_); (case hh => walk_at "hp"); (case ha => first | exact rfl | exact at_map (by omega) | exact atI_last _ _ | ((refine' at_of ?ae ?ah); (case ah => assumption); (case ae => omega))))
  | ((with_reducible refine' w_cat ?hh ?hh2 ?hz ?_); (case hh => walk_at "hp"); (case hh2 => walk_at "hp"))
  | ((with_reducible refine' w_setL ?hh ?ha ?_); (case hh => walk_at "hp"); (case ha => exact rfl))
  | (with_reducible refine' w_test ?_)
  | (with_reducible refine' w_tB ?_)
  | (with_reducible refine' w_bl ?_)
  | (with_reducible refine' w_and ?_)
  | (with_reducible refine' w_or ?_)
  | (with_reducible refine' w_not ?_)
  | (with_reducible refine' w_andV ?_)
  | (with_reducible refine' w_orV ?_)
  | (with_reducible refine' w_notV ?_)
  | (with_reducible refine' w_ifE ?_)
  | (with_reducible refine' w_for ?_)
  | ((with_reducible refine' w_nin ?hh ?_); (case hh => walk_at "hp"))
  | ((with_reducible refine' w_sorted ?hh ?_); (case hh => walk_at "hp"))
  | (with_reducible refine' w_tsadd ?_)
  | ((with_reducible refine' w_tsadd1 ?hh ?_); (case hh => walk_at "hp"))
  | ((with_reducible refine' w_sadd ?hh ?hr ?_); (case hh => walk_at "hp"); (case hr => omega))
  | (with_reducible refine' w_iZ ?_)
  | ((with_reducible refine' w_iZ1 ?hh ?hh2 ?_); (case hh => walk_at "hp"); (case hh2 => walk_at "hp"))
  | (with_reducible refine' w_iS ?_)
  | (with_reducible refine' w_iS1 ?_)
  | ((with_reducible refine' w_gtup ?hh ?hn ?_); (case hh => walk_at "hp"); (case hn => exact rfl))
  | (with_reducible refine' w_gcons ?_)
  | (with_reducible refine' w_gnil ?_)
  | (with_reducible refine' w_js ?_)
  | (with_reducible refine' w_jsn ?_)
  | ((with_reducible refine' w_js1 ?hl ?_); (case hl => decide +kernel))
  | (with_reducible refine' w_fmt ?_)
  | ((with_reducible refine' w_fmt1 ?hl ?_); (case hl => decide +kernel))
  | (with_reducible refine' w_callS ?_)
  | ((with_reducible refine' w_truL ?hh ?_); (case hh => walk_at "hp"))
  | (with_reducible refine' w_lc ?_)
  | (with_reducible refine' w_yes ?_)
  | ((with_reducible refine' w_wipe ?he ?_); (case he => exact rfl))
  | (with_reducible refine' w_iL ?_)
  | (with_reducible refine' w_iT ?_)
  | (with_reducible refine' w_iR ?_)
  | ((with_reducible refine' w_iL1 ?hh ?_); (case hh => walk_at "hp"))
  | ((with_reducible refine' w_iT1 ?hh ?_); (case hh => walk_at "hp"))
  | ((with_reducible refine' w_iR1 ?h1 ?h2 ?_); (case h1 => omega); (case h2 => omega))
  | ((with_reducible refine' w_aug ?hv ?_); (case hv => exact rfl))
  | (with_reducible refine' w_ipI ?_)
  | ((with_reducible refine' w_isi ?hy ?hk ?_); (case hy => walk_at "ty"); (case hk => walk_at "kit"))
  | ((with_reducible refine' w_int ?_))
  | ((with_reducible refine' w_intB ?_))
  | ((with_reducible refine' w_abs ?_))
  | ((with_reducible refine' w_lenL ?hh ?_); (case hh => walk_at "hp"))
  | ((with_reducible refine' w_lenT ?hh ?_); (case hh => walk_at "hp"))
  | ((with_reducible refine' w_tupL ?hh ?_); (case hh => walk_at "hp"))
  | ((with_reducible refine' w_tupT ?hh ?_); (case hh => walk_at "hp"))
  | ((with_reducible refine' w_catA ?hh ?hh2 ?hz ?_); (case hh => walk_at "hp"); (case hh2 => walk_at "hp"); (case hz => walk_at "len"))
  | ((with_reducible refine' w_repB ?hh ?hne ?h2 ?h3 ?hz ?_); (case hh => walk_at "hp"); (case hne => simp); (case h2 => omega); (case h3 => omega); (case hz => exact Nat.le_of_ble_eq_true rfl))
  | ((with_reducible refine' w_eqN ?hh ?hh2 ?n1 ?n2 ?_); (case hh => walk_at "hp"); (case hh2 => walk_at "hp"); (case n1 => walk_at "nd"); (case n2 => walk_at "nd"))
  | ((with_reducible refine' w_neN ?hh ?hh2 ?n1 ?n2 ?_); (case hh => walk_at "hp"); (case hh2 => walk_at "hp"); (case n1 => walk_at "nd"); (case n2 => walk_at "nd"))
  | ((with_reducible refine' w_eqL ?hh ?hh2 ?n1 ?n2 ?_); (case hh => walk_at "hp"); (case hh2 => walk_at "hp"); (case n1 => walk_at "nd"); (case n2 => walk_at "nd"))
  | ((with_reducible refine' w_neL ?hh ?hh2 ?n1 ?n2 ?_); (case hh => walk_at "hp"); (case hh2 => walk_at "hp"); (case n1 => walk_at "nd"); (case n2 => walk_at "nd"))
  | ((with_reducible refine' w_neNon ?hh2 ?n2 ?_); (case hh2 => walk_at "hp"); (case n2 => walk_at "nd"))
  | ((with_reducible refine' w_eqNon ?hh2 ?n2 ?_); (case hh2 => walk_at "hp"); (case n2 => walk_at "nd"))
  | ((with_reducible refine' w_slA ?hh ?_); (case hh => walk_at "hp"))
  | ((with_reducible refine' w_disp ?hz ?_); (case hz => exact sz_of (Nat.le_of_ble_eq_true rfl)))
  | ((with_reducible refine' w_tyL ?hh ?_); (case hh => walk_at "hp"))
  | (with_reducible refine' iteT ?_)
  | (with_reducible refine' iteF ?_)
  | (with_reducible refine' w_nT ?_)
  | (with_reducible refine' w_nn ?_)
  | (with_reducible refine' w_nnT ?_)
  | (with_reducible refine' w_nnR ?_)
  | (with_reducible refine' w_neG ?_)
  | (with_reducible refine' w_eqG ?_)
  | (with_reducible refine' w_neS ?_)
  | (with_reducible refine' w_eqS ?_)
  | (with_reducible refine' w_neSb ?_)
  | (with_reducible refine' w_eqSb ?_)
  | (with_reducible refine' w_deIS ?_)
  | (with_reducible refine' w_deSI ?_)
  | (with_reducible refine' w_deISn ?_)
  | ((with_reducible refine' w_deST ?he ?_); (case he => decide +kernel))
  | ((with_reducible refine' w_deSF ?he ?_); (case he => decide +kernel))
  | ((with_reducible refine' w_deSTn ?he ?_); (case he => decide +kernel))
  | ((with_reducible refine' w_deSFn ?he ?_); (case he => decide +kernel))
  | (with_reducible refine' w_nF ?_)
  | dsimp only [Bool.not_true, Bool.not_false])
local macro_rules | `(tactic| walk_at "ty") => `(tactic| first
  | exact .base (.int _) | exact .base (.str _) | exact .base (.bl _) | exact .base .non
  | ((refine' tyx_t ?hq); (case hq => walk_at "hp")) | ((refine' tyx_l ?hq); (case hq => walk_at "hp")) | ((refine' .base (.tup ?hq)); (case hq => walk_at "hp")) | assumption)
local macro_rules | `(tactic| walk_at "go") => `(tactic| repeat walk_at "go1")
local macro_rules | `(tactic| walk_at "st") => `(tactic| try dsimp only [cxOf, Cx.nox, Cx.wish])
local macro_rules | `(tactic| walk_at "kit") => `(tactic| with_reducible first | exact kit_int_int | exact kit_int_str | exact kit_int_bool | exact kit_int_tuple | exact kit_int_list | exact kit_str_int | exact kit_str_str | exact kit_str_bool | exact kit_str_tuple | exact kit_str_list | exact kit_bool_int | exact kit_bool_str | exact kit_bool_bool | exact kit_bool_tuple | exact kit_bool_list | exact kit_NoneType_int | exact kit_NoneType_str | exact kit_NoneType_bool | exact kit_NoneType_tuple | exact kit_NoneType_list | exact kit_list_int | exact kit_list_str | exact kit_list_bool | exact kit_list_tuple | exact kit_list_list | exact kit_tuple_int | exact kit_tuple_str | exact kit_tuple_bool | exact kit_tuple_tuple | exact kit_tuple_list)
local macro_rules | `(tactic| walk_at "nd") => `(tactic| first
  | assumption
  | exact Tm.nds _
  | exact Nds.nil
  | exact Nds.ofInts _
  | ((refine' Nds.cons ?na ?nb); (case na => first | exact Nds.I _ | exact Nds.L | exact Nds.A); (case nb => walk_at "nd"))
  | ((refine' Nds.app ?na ?nb); (case na => walk_at "nd"); (case nb => walk_at "nd"))
  | ((refine' Nds.rep ?na _); (case na => walk_at "nd")))
local macro_rules | `(tactic| walk_at "len") => `(tactic| first
  | exact ly_sz (by omega)
  | ((simp only [List.length_append, List.length_cons, List.length_nil, List.length_map, PyProof.Rows.lm_len_rep_flat]); exact ly_sz (by omega)))
local macro_rules | `(tactic| walk_at "go1") => `(tactic| first
  | (with_reducible refine' w_kget2 ?_)
  | (with_reducible refine' w_isRN ?_)
  | (with_reducible refine' w_isNN ?_)
  | (with_reducible refine' w_isIN ?_)
  | ((with_reducible refine' w_kg ?hd ?_); (case hd => assumption)))
local macro_rules | `(tactic| walk_at "go1") => `(tactic| first
  | ((with_reducible refine' w_extT ?hh ?hh2 ?hz ?_); (case hh => walk_at "hp"); (case hh2 => walk_at "hp"))
  | ((with_reducible refine' w_I ?hc ?_); (case hc => exact ⟨by decide, by decide, by decide⟩))
  | (with_reducible refine' w_sl ?_)
  | (with_reducible refine' w_noP ?_)
  | (with_reducible refine' w_part ?_)
  | (with_reducible refine' w_part1 ?_)
  | (with_reducible refine' w_it ?_)
  | (with_reducible refine' w_it1 ?_)
  | ((with_reducible refine' w_lenZ ?hz ?_); (case hz => omega))
  | ((with_reducible refine' w_addZb ?hz ?_); (case hz => omega))
  | ((with_reducible refine' w_addZf ?hz ?_); (case hz => omega))
  | ((with_reducible refine' w_addZa ?hz ?_); (case hz => omega))
  | ((with_reducible refine' w_inS ?hh ?_); (case hh => walk_at "hp"))
  | ((with_reducible refine' w_ixT ?hh ?ha ?_); (case hh => assumption); (case ha => exact atI_nat (by assumption))))
local macro_rules | `(tactic| walk_at "go1") => `(tactic| first
  | (with_reducible refine' w_iR2 ?_)
  | ((with_reducible refine' w_iR21 ?h1 ?h2 ?h3 ?h4 ?_); (case h1 => omega); (case h2 => omega); (case h3 => omega); (case h4 => omega))
  | (with_reducible refine' w_nnI ?_)
  | (with_reducible refine' w_max ?_)
  | (with_reducible refine' w_break ?_)
  | (with_reducible refine' w_cont ?_))
local macro_rules | `(tactic| walk_at "go1") => `(tactic| first
  | (with_reducible refine' w_m1 ?_)
  | (with_reducible refine' w_m11 ?_)
  | (with_reducible refine' w_st2 ?_)
  | (with_reducible refine' w_sg ?_)
  | (with_reducible refine' w_sg2 ?_)
  | (with_reducible refine' w_sgSp ?_)
  | ((with_reducible refine' w_lcnt ?hh ?_); (case hh => walk_at "hp")))
section
variable {P : Program} {w : World} {K : PySem.W.Frag} {mg : Str → Option Value} {base : Heap} {tk : Nat → Tok} {cl : Nat → Addr}
def spWVar (C : Addr) : Sp := fun vs H Q E => ∃ (i d : Nat) (b1 b2 : Addr) (bs fs : List (List Nat)), vs = [.int (i : Int), .int (d : Int), .ref b1, .ref b2] ∧ H b1 = some (.lst (plcs bs)) ∧ H b2 = some (.lst (plcs fs)) ∧ d ≤ bs.length ∧
  (i < d + fs.length → Q (.str (pl (shw bs fs d (.var i)))) H) ∧ (¬ i < d + fs.length → E (.ref C) none H)
theorem ok_wvar {f : Addr} {fd : FuncData} {k : Nat} (F : Fun K "written_variable" "written_variable" s_written_variable f fd) (T : Txt w K mg tk cl) : FnOk P w K mg base (L2.CX P w) (k + 1) f fd ["number", "depth", "bound", "names"] (spWVar (cl 5)) := by
  refine F.okX sc_written_variable (fun vs H Q E h => ?_) (fun cdv A outer s H vs Q E hr h => ?_)
  · obtain ⟨i, d, b1, b2, bs, fs, rfl, _⟩ := h
    rfl
  · obtain ⟨i, d, b1, b2, bs, fs, rfl, h1, h2, hd, q, x⟩ := h
    refine ⟨_, (pss_cons (ps_if (pt_cmpR op_lt (pv 0) (pv 1) (nomark _)) (pss_one (ps_ret (pe_ix ix_list (pv 2) (pe_op op_sub (pe_op op_sub (pv 1) pe_int) (pv 0)) (fun _ _ => rfl)))) pss_nil) (pss_cons (ps_if (pt_cmpR op_ge (pe_op op_sub (pv 0) (pv 1)) (pe_callB call_len_seq (by rfl) T.n_len (by decide +kernel) (pa_cons (pv 3) pa_nil)) (nomark _)) (pss_one (ps_raise rfl (takes_of rfl rfl rfl rfl) (SkE.pmk_own1 PySem.F.excBase_ValueError T.x_BadNames T.g_BadNames T.k_BadNames (raises_own T.b_BadNames T.t_BadNames) rfl pe_str))) pss_nil) (pss_one (ps_ret (pe_ix ix_list (pv 3) (pe_op op_sub (pv 0) (pv 1)) (fun _ _ => rfl)))))), ?_⟩
    refine sl_of (σ2 := [some _, some _, some _, some _]) rfl ?_
    walk_at "st"
    walk_at "go"
    refine w_br (fun c1 => ?_) (fun c1 => ?_)
    · have hid : i < d := by omega
      have e : shw bs fs d (.var i) = bs.getD (d - 1 - i) [] := if_pos hid
      walk_at "go"
      refine w_ixL (SqL.of h1) (by rw [show ((d : Int) - 1 - (i : Int)) = ((d - 1 - i : Nat) : Int) by omega]; exact atI_nat (plcs_at (by omega))) ?_
      rw [← e]
      exact q (by omega)
    · have hid : ¬ i < d := by omega
      walk_at "go"
      rw [show (plcs fs).length = fs.length from List.length_map _]
      refine w_br (fun c2 => ?_) (fun c2 => ?_)
      · walk_at "go"
        exact x (by omega)
      · have e : shw bs fs d (.var i) = fs.getD (i - d) [] := if_neg hid
        walk_at "go"
        refine w_ixL (SqL.of h2) (by rw [show ((i : Int) - (d : Int)) = ((i - d : Nat) : Int) by omega]; exact atI_nat (plcs_at (by omega))) ?_
        rw [← e]
        exact q (by omega)
def spIsAbs : Sp := fun vs H Q _ => ∃ (c : Nat) (r : List Nat), vs = [.str (pl (c :: r))] ∧ Q (.bl (decide (c = 92))) H
theorem ok_isabs {f : Addr} {fd : FuncData} {k : Nat} (F : Fun K "is_abstraction" "is_abstraction" s_is_abstraction f fd) (T : Txt w K mg tk cl) : FnOk P w K mg base CX0 (k + 1) f fd ["text"] spIsAbs := by
  refine F.ok sc_is_abstraction (fun vs H Q E h => ?_) (fun cdv A outer s H vs Q E hr h => ?_)
  · obtain ⟨c, r, rfl, _⟩ := h
    rfl
  · obtain ⟨c, r, rfl, q⟩ := h
    refine ⟨_, (pss_one (ps_ret (pe_m1 PySem.F.slot_str_startswith PySem.F.type_str_startswith mt_startswith (pv 0) pe_str))), ?_⟩
    refine sl_of (σ2 := [some _]) rfl ?_
    walk_at "st"
    walk_at "go"
    rw [← pl_bs, starts_pl]
    exact q
def spWAbs : Sp := fun vs H Q _ => ∃ (n : List Nat) (c : Nat) (r : List Nat), vs = [.str (pl n), .str (pl (c :: r))] ∧ n.length ≤ 400000 ∧ r.length ≤ 400000 ∧ Q (.str (pl (abT (decide (c = 92)) n (c :: r)))) H
theorem ok_wabs {f : Addr} {fd : FuncData} (F : Fun K "written_abstraction" "written_abstraction" s_written_abstraction f fd) (T : Txt w K mg tk cl) (D1 : Def P w K mg base CX0 1 "is_abstraction" ["text"] spIsAbs) : FnOk P w K mg base CX0 2 f fd ["name", "body"] spWAbs := by
  obtain ⟨f1, fd1, g_is_abstraction, kp_is_abstraction, b_is_abstraction, G_is_abstraction⟩ := D1
  refine F.ok sc_written_abstraction (fun vs H Q E h => ?_) (fun cdv A outer s H vs Q E hr h => ?_)
  · obtain ⟨n, c, r, rfl, _⟩ := h
    rfl
  · obtain ⟨n, c, r, rfl, hn, hl, q⟩ := h
    refine ⟨_, (pss_cons (ps_if (pt_val (pe_call G_is_abstraction (hr.mono (by first | decide | omega)) (by rfl) g_is_abstraction kp_is_abstraction b_is_abstraction .nil pass0 (pa_cons (pv 1) pa_nil))) (pss_one (ps_ret (pe_op op_addZ (pe_op op_addZ (pe_op op_addZ pe_str (pv 0)) pe_str) (pe_slice sl_str (pv 1) (po_some pe_int) po_none)))) pss_nil) (pss_one (ps_ret (pe_op op_addZ (pe_op op_addZ (pe_op op_addZ pe_str (pv 0)) pe_str) (pv 1))))), ?_⟩
    refine sl_of (σ2 := [some _, some _]) rfl ?_
    walk_at "st"
    walk_at "go"
    refine ⟨c, r, rfl, ?_⟩
    walk_at "go"
    unfold abT at q
    refine w_br (fun c1 => ?_) (fun c1 => ?_)
    · rw [if_pos (decide_eq_true c1)] at q
      walk_at "go"
      rw [← pl_bs]
      refine w_addZ (by simp; omega) ?_
      walk_at "go"
      rw [pl_sp]
      refine w_addZ (by simp; omega) ?_
      walk_at "go"
      refine w_slHi (i := 1) (by simp; omega) ?_
      refine w_addZ (by simp; omega) ?_
      simpa using q
    · rw [if_neg (by simpa using c1)] at q
      walk_at "go"
      rw [← pl_bs]
      refine w_addZ (by simp; omega) ?_
      walk_at "go"
      rw [pl_dsp]
      refine w_addZ (by simp; omega) ?_
      walk_at "go"
      refine w_addZ (by simp; omega) ?_
      simpa using q
def spWApp : Sp := fun vs H Q _ => ∃ (c : Nat) (r : List Nat) (a : List Nat), vs = [.str (pl (c :: r)), .str (pl a)] ∧ r.length ≤ 400000 ∧ a.length ≤ 400000 ∧ Q (.str (pl (par (decide (c = 92)) (c :: r) ++ 32 :: par (decide (32 ∈ a)) a))) H
theorem ok_wapp {f : Addr} {fd : FuncData} (F : Fun K "written_application" "written_application" s_written_application f fd) (T : Txt w K mg tk cl) (D1 : Def P w K mg base CX0 1 "is_abstraction" ["text"] spIsAbs) : FnOk P w K mg base CX0 2 f fd ["function", "argument"] spWApp := by
  obtain ⟨f1, fd1, g_is_abstraction, kp_is_abstraction, b_is_abstraction, G_is_abstraction⟩ := D1
  refine F.ok sc_written_application (fun vs H Q E h => ?_) (fun cdv A outer s H vs Q E hr h => ?_)
  · obtain ⟨c, r, a, rfl, _⟩ := h
    rfl
  · obtain ⟨c, r, a, rfl, hl, ha, q⟩ := h
    refine ⟨_, (pss_cut (ps_if (pt_val (pe_call G_is_abstraction (hr.mono (by first | decide | omega)) (by rfl) g_is_abstraction kp_is_abstraction b_is_abstraction .nil pass0 (pa_cons (pv 0) pa_nil))) (pss_one (ps_set (i := 0) sc_written_application.nd rfl (.inl rfl) (pe_joined (.cons pe_str (.cons (pe_fmt (pv 0)) (.cons pe_str .nil)))))) pss_nil) (pss_cut (ps_if (pt_cmpR op_in_sign pe_str (pv 1) rfl) (pss_one (ps_set (i := 1) sc_written_application.nd rfl (.inl rfl) (pe_joined (.cons pe_str (.cons (pe_fmt (pv 1)) (.cons pe_str .nil)))))) pss_nil) (pss_one (ps_ret (pe_joined (.cons (pe_fmt (pv 0)) (.cons pe_str (.cons (pe_fmt (pv 1)) .nil)))))))), ?_⟩
    refine sl_of (σ2 := [some _, some _]) rfl ?_
    walk_at "st"
    walk_at "go"
    refine w_cut (M := fun σ' H' => H' = H ∧ σ' = [some (.str (pl (par (decide (c = 92)) (c :: r)))), some (.str (pl a))]) ?_ ?_
    · walk_at "go"
      refine ⟨c, r, rfl, ?_⟩
      walk_at "go"
      refine w_br (fun c1 => ?_) (fun c1 => ?_)
      · rw [decide_eq_true c1]
        walk_at "go"
        refine ⟨by decide +kernel, ?_⟩
        rw [em_lp]
        walk_at "go"
        refine w_fmtS (by simp; omega) ?_
        refine w_js2 (by simp; omega) ?_
        rw [pl_app]
        walk_at "go"
        rw [lp_rp]
        refine ⟨by rw [pl_len]; exact ly_sz (by simp; omega), ?_⟩
        walk_at "go"
        refine ⟨rfl, ?_⟩
        simp [par]
      · rw [decide_eq_false c1]
        walk_at "go"
        exact ⟨rfl, rfl⟩
    rintro σ' H' ⟨rfl, rfl⟩
    have lp : ∀ (b : Bool) (w : List Nat), (par b w).length ≤ w.length + 2 := fun b w => by
      unfold par
      split <;> simp
    have l1 := lp (decide (c = 92)) (c :: r)
    generalize par (decide (c = 92)) (c :: r) = F0 at *
    have l2 := lp (decide (32 ∈ a)) a
    refine w_cut (M := fun σ' H'' => H'' = H' ∧ σ' = [some (.str (pl F0)), some (.str (pl (par (decide (32 ∈ a)) a)))]) ?_ ?_
    · walk_at "go"
      show if decide (32 ∈ a) = true then _ else _
      refine w_br (fun c1 => ?_) (fun c1 => ?_)
      · rw [decide_eq_true c1]
        walk_at "go"
        refine ⟨by decide +kernel, ?_⟩
        rw [em_lp]
        walk_at "go"
        refine w_fmtS (by omega) ?_
        refine w_js2 (by simp; omega) ?_
        rw [pl_app]
        walk_at "go"
        rw [lp_rp]
        refine ⟨by rw [pl_len]; exact ly_sz (by simp; omega), ?_⟩
        walk_at "go"
        refine ⟨rfl, ?_⟩
        simp [par]
      · rw [decide_eq_false c1]
        walk_at "go"
        exact ⟨rfl, rfl⟩
    rintro σ' H'' ⟨rfl, rfl⟩
    generalize par (decide (32 ∈ a)) a = A0 at *
    walk_at "go"
    have l3 : (c :: r).length = r.length + 1 := rfl
    refine w_fmtS (by omega) ?_
    refine w_js0 (by omega) ?_
    rw [pl_em]
    walk_at "go"
    rw [sp_sp]
    refine ⟨by rw [pl_len]; exact ly_sz (by simp; omega), ?_⟩
    walk_at "go"
    refine w_fmtS (by omega) ?_
    refine w_js2 (by simp; omega) ?_
    rw [pl_app]
    walk_at "go"
    simpa using q
end
end Ly
set_option Elab.async false
set_option linter.all false
set_option maxRecDepth 100000
set_option maxHeartbeats 8000000
namespace Ly
open PySem PySem.Spec PyProof.Rows L2 Evl
local macro_rules | `(tactic| walk_at "ne") => `(tactic| first
  | assumption
  | ((refine' Ne.symm ?hq); (case hq => assumption))
  | ((refine' ne_of_none ?nh1 ?nh2); (case nh2 => assumption); (case nh1 => walk_at "hp"))
  | ((refine' Ne.symm (ne_of_none ?nh1 ?nh2)); (case nh2 => assumption); (case nh1 => walk_at "hp")))
local macro_rules | `(tactic| walk_at "hp") => `(tactic| first
  | assumption
  | exact upd_same
  | ((refine' SqL.of ?hq); (case hq => walk_at "hp"))
  | ((refine' SqT.of ?hq); (case hq => walk_at "hp"))
  | ((refine' (upd_ne ?hne).trans ?hrest); (case hne => walk_at "ne"); (case hrest => walk_at "hp"))
  | ((refine' ly_at ?hex ?hh); (case hex => assumption); (case hh => walk_at "hp"))
  | ((refine' ly_atF ?hex ?hnn ?hh); (case hex => assumption); (case hh => walk_at "hp"); (case hnn => walk_at "ne"))
  | ((refine' ex_t ?hex ?hh); (case hh => assumption); (case hex => walk_at "ex"))
  | ((refine' ex_l ?hex ?hh); (case hh => assumption); (case hex => walk_at "ex")))
local macro_rules | `(tactic| walk_at "ex") => `(tactic| first
  | assumption
  | exact Ex.refl _
  | ((refine' ex_new ?xa ?xb); (case xb => assumption); (case xa => walk_at "ex"))
  | ((refine' ex_upd ?xa ?xb); (case xb => walk_at "free"); (case xa => walk_at "ex"))
  | ((refine' Ex.trans ?xa ?xb); (case xb => assumption); (case xa => walk_at "ex")))
local macro_rules | `(tactic| walk_at "free") => `(tactic| first
  | assumption
  | ((refine' fresh_back ?xa ?xb); (case xb => assumption); (case xa => walk_at "ex")))
local macro_rules | `(tactic| walk_at "fr") => `(tactic| first
  | assumption
  | exact Fr.refl _ _
  | ((refine' Fr.own ?hq); (case hq => walk_at "fr"))
  | ((refine' Fr.new ?xa ?xb); (case xb => assumption); (case xa => walk_at "fr"))
  | ((refine' Fr.mut ?xa ?xb); (case xb => assumption); (case xa => walk_at "fr"))
  | ((refine' Fr.trans ?xa ?xb); (case xb => assumption); (case xa => walk_at "fr"))
  | ((refine' Fr.trans ?xa (Fr.ex ?xb)); (case xb => assumption); (case xa => walk_at "fr")))
local macro_rules | `(tactic| walk_at "go1") => `(tactic| first
  | (with_reducible refine' w_seq ?_)
  | (with_reducible refine' w_asg ?_)
  | (with_reducible refine' w_ret ?_)
  | (with_reducible refine' w_drop ?_)
  | (with_reducible refine' w_if ?_)
  | (with_reducible refine' w_next ?_)
  | (with_reducible refine' w_name ?_)
  | (with_reducible refine' w_sub ?_)
  | ((with_reducible refine' w_var ?hv ?_); (case hv => exact rfl))
  | (with_reducible refine' w_c ?_)
  | (with_reducible refine' w_op ?_)
  | (with_reducible refine' w_un ?_)
  | (with_reducible refine' w_ch ?_)
  | (with_reducible refine' w_I0 ?_)
  | ((with_reducible refine' w_I ?hc ?_); (case hc => first | (exact ly_mulL (by decide) (by decide)) | (exact ly_mulR (by decide) (by decide)) | (exact ly_mulL (by omega) (by omega)) | (show (_ : Int) ≠ 0; decide) | (show (_ : Int) ≠ 0; omega) | (exact ⟨by decide, by decide⟩) | (exact ⟨by omega, by omega⟩)))
  | (with_reducible refine' w_U ?_)
  | ((with_reducible refine' w_eq ?hs ?_); (case hs => exact rfl))
  | ((with_reducible refine' w_ne ?hs ?_); (case hs => exact rfl))
  | (with_reducible refine' w_isB ?_)
  | (with_reducible refine' w_notB ?_)
  | (with_reducible refine' w_nil ?_)
  | (with_reducible refine' w_cons ?_)
  | (with_reducible refine' w_tup ?_)
  | (with_reducible refine' w_lst ?_)
  | (with_reducible refine' w_cb ?_)
  | (with_reducible refine' w_call ?_)
  | (with_reducible refine' w_bm ?_)
  | (with_reducible refine' w_bm0 ?_)
  | ((with_reducible refine' w_app ?hh ?hz ?_); (case hh => walk_at "hp"); (case hz => first | exact ly_lt (by omega) | exact ly_lt (by simp only [List.length_append, List.length_map, List.length_cons, List.length_nil]; omega)))
  | ((with_reducible refine' w_popA ?hh ?_); (case hh => walk_at "hp"))
  | ((with_reducible refine' w_ext ?hh ?hh2 ?hz ?_); (case hh => walk_at "hp"); (case hh2 => walk_at "hp"))
  | ((with_reducible refine' w_ixL ?hh ?ha ?_); (case hh => walk_at "hp"); (case ha => first | exact rfl | exact at_map (by omega) | exact atI_last _ _ | ((refine' at_of ?ae ?ah); (case ah => assumption); (case ae => omega))))
  | ((with_reducible refine' w_ixT ?hh ?ha ?_); (case hh => walk_at "hp"); (case ha => first | exact rfl | exact at_map (by omega) | exact atI_last _ _ | ((refine' at_of ?ae ?ah); (case ah => assumption); (case ae => omega))))
  | ((with_reducible refine' w_cat ?hh ?hh2 ?hz ?_); (case hh => walk_at "hp"); (case hh2 => walk_at "hp"))
  | ((with_reducible refine' w_setL ?hh ?ha ?_); (case hh => walk_at "hp"); (case ha => exact rfl))
  | (with_reducible refine' w_test ?_)
  | (with_reducible refine' w_tB ?_)
  | (with_reducible refine' w_bl ?_)
  | (with_reducible refine' w_and ?_)
  | (with_reducible refine' w_or ?_)
  | (with_reducible refine' w_not ?_)
  | (with_reducible refine' w_andV ?_)
  | (with_reducible refine' w_orV ?_)
  | (with_reducible refine' w_notV ?_)
  | (with_reducible refine' w_ifE ?_)
  | (with_reducible refine' w_for ?_)
  | ((with_reducible refine' w_nin ?hh ?_); (case hh => walk_at "hp"))
  | ((with_reducible refine' w_sorted ?hh ?_); (case hh => walk_at "hp"))
  | (with_reducible refine' w_tsadd ?_)
  | ((with_reducible refine' w_tsadd1 ?hh ?_); (case hh => walk_at "hp"))
  | ((with_reducible refine' w_sadd ?hh ?hr ?_); (case hh => walk_at "hp"); (case hr => omega))
  | (with_reducible refine' w_iZ ?_)
  | ((with_reducible refine' w_iZ1 ?hh ?hh2 ?_); (case hh => walk_at "hp"); (case hh2 => walk_at "hp"))
  | (with_reducible refine' w_iS ?_)
  | (with_reducible refine' w_iS1 ?_)
  | ((with_reducible refine' w_gtup ?hh ?hn ?_); (case hh => walk_at "hp"); (case hn => exact rfl))
  | (with_reducible refine' w_gcons ?_)
  | (with_reducible refine' w_gnil ?_)
  | (with_reducible refine' w_js ?_)
  | (with_reducible refine' w_jsn ?_)
  | ((with_reducible refine' w_js1 ?hl ?_); (case hl => decide +kernel))
  | (with_reducible refine' w_fmt ?_)
  | ((with_reducible refine' w_fmt1 ?hl ?_); (case hl => decide +kernel))
  | (with_reducible refine' w_callS ?_)
  | ((with_reducible refine' w_truL ?hh ?_); (case hh => walk_at "hp"))
  | (with_reducible refine' w_lc ?_)
  | (with_reducible refine' w_yes ?_)
  | ((with_reducible refine' w_wipe ?he ?_); (case he => exact rfl))
  | (with_reducible refine' w_iL ?_)
  | (with_reducible refine' w_iT ?_)
  | (with_reducible refine' w_iR ?_)
  | ((with_reducible refine' w_iL1 ?hh ?_); (case hh => walk_at "hp"))
  | ((with_reducible refine' w_iT1 ?hh ?_); (case hh => walk_at "hp"))
  | ((with_reducible refine' w_iR1 ?h1 ?h2 ?_); (case h1 => omega); (case h2 => omega))
  | ((with_reducible refine' w_aug ?hv ?_); (case hv => exact rfl))
  | (with_reducible refine' w_ipI ?_)
  | ((with_reducible refine' w_isi ?hy ?hk ?_); (case hy => walk_at "ty"); (case hk => walk_at "kit"))
  | ((with_reducible refine' w_int ?_))
  | ((with_reducible refine' w_intB ?_))
  | ((with_reducible refine' w_abs ?_))
  | ((with_reducible refine' w_lenL ?hh ?_); (case hh => walk_at "hp"))
  | ((with_reducible refine' w_lenT ?hh ?_); (case hh => walk_at "hp"))
  | ((with_reducible refine' w_tupL ?hh ?_); (case hh => walk_at "hp"))
  | ((with_reducible refine' w_tupT ?hh ?_); (case hh => walk_at "hp"))
  | ((with_reducible refine' w_catA ?hh ?hh2 ?hz ?_); (case hh => walk_at "hp"); (case hh2 => walk_at "hp"); (case hz => walk_at "len"))
  | ((with_reducible refine' w_repB ?hh ?hne ?h2 ?h3 ?hz ?_); (case hh => walk_at "hp"); (case hne => simp); (case h2 => omega); (case h3 => omega); (case hz => exact Nat.le_of_ble_eq_true rfl))
  | ((with_reducible refine' w_eqN ?hh ?hh2 ?n1 ?n2 ?_); (case hh => walk_at "hp"); (case hh2 => walk_at "hp"); (case n1 => walk_at "nd"); (case n2 => walk_at "nd"))
  | ((with_reducible refine' w_neN ?hh ?hh2 ?n1 ?n2 ?_); (case hh => walk_at "hp"); (case hh2 => walk_at "hp"); (case n1 => walk_at "nd"); (case n2 => walk_at "nd"))
  | ((with_reducible refine' w_eqL ?hh ?hh2 ?n1 ?n2 ?_); (case hh => walk_at "hp"); (case hh2 => walk_at "hp"); (case n1 => walk_at "nd"); (case n2 => walk_at "nd"))
  | ((with_reducible refine' w_neL ?hh ?hh2 ?n1 ?n2 ?_); (case hh => walk_at "hp"); (case hh2 => walk_at "hp"); (case n1 => walk_at "nd"); (case n2 => walk_at "nd"))
  | ((with_reducible refine' w_neNon ?hh2 ?n2 ?_); (case hh2 => walk_at "hp"); (case n2 => walk_at "nd"))
  | ((with_reducible refine' w_eqNon ?hh2 ?n2 ?_); (case hh2 => walk_at "hp"); (case n2 => walk_at "nd"))
  | ((with_reducible refine' w_slA ?hh ?_); (case hh => walk_at "hp"))
  | ((with_reducible refine' w_disp ?hz ?_); (case hz => exact sz_of (Nat.le_of_ble_eq_true rfl)))
  | ((with_reducible refine' w_tyL ?hh ?_); (case hh => walk_at "hp"))
  | (with_reducible refine' iteT ?_)
  | (with_reducible refine' iteF ?_)
  | (with_reducible refine' w_nT ?_)
  | (with_reducible refine' w_nn ?_)
  | (with_reducible refine' w_nnT ?_)
  | (with_reducible refine' w_nnR ?_)
  | (with_reducible refine' w_neG ?_)
  | (with_reducible refine' w_eqG ?_)
  | (with_reducible refine' w_neS ?_)
  | (with_reducible refine' w_eqS ?_)
  | (with_reducible refine' w_neSb ?_)
  | (with_reducible refine' w_eqSb ?_)
  | (with_reducible refine' w_deIS ?_)
  | (with_reducible refine' w_deSI ?_)
  | (with_reducible refine' w_deISn ?_)
  | ((with_reducible refine' w_deST ?he ?_); (case he => decide +kernel))
  | ((with_reducible refine' w_deSF ?he ?_); (case he => decide +kernel))
  | ((with_reducible refine' w_deSTn ?he ?_); (case he => decide +kernel))
  | ((with_reducible refine' w_deSFn ?he ?_); (case he => decide +kernel))
  | (with_reducible refine' w_nF ?_)
  | dsimp only [Bool.not_true, Bool.not_false])
local macro_rules | `(tactic| walk_at "ty") => `(tactic| first
  | exact .base (.int _) | exact .base (.str _) | exact .base (.bl _) | exact .base .non
  | ((refine' tyx_t ?hq); (case hq => walk_at "hp")) | ((refine' tyx_l ?hq); (case hq => walk_at "hp")) | ((refine' .base (.tup ?hq)); (case hq => walk_at "hp")) | assumption)
local macro_rules | `(tactic| walk_at "go") => `(tactic| repeat walk_at "go1")
local macro_rules | `(tactic| walk_at "st") => `(tactic| try dsimp only [cxOf, Cx.nox, Cx.wish])
local macro_rules | `(tactic| walk_at "kit") => `(tactic| with_reducible first | exact kit_int_int | exact kit_int_str | exact kit_int_bool | exact kit_int_tuple | exact kit_int_list | exact kit_str_int | exact kit_str_str | exact kit_str_bool | exact kit_str_tuple | exact kit_str_list | exact kit_bool_int | exact kit_bool_str | exact kit_bool_bool | exact kit_bool_tuple | exact kit_bool_list | exact kit_NoneType_int | exact kit_NoneType_str | exact kit_NoneType_bool | exact kit_NoneType_tuple | exact kit_NoneType_list | exact kit_list_int | exact kit_list_str | exact kit_list_bool | exact kit_list_tuple | exact kit_list_list | exact kit_tuple_int | exact kit_tuple_str | exact kit_tuple_bool | exact kit_tuple_tuple | exact kit_tuple_list)
local macro_rules | `(tactic| walk_at "nd") => `(tactic| first
  | assumption
  | exact Tm.nds _
  | exact Nds.nil
  | exact Nds.ofInts _
  | ((refine' Nds.cons ?na ?nb); (case na => first | exact Nds.I _ | exact Nds.L | exact Nds.A); (case nb => walk_at "nd"))
  | ((refine' Nds.app ?na ?nb); (case na => walk_at "nd"); (case nb => walk_at "nd"))
  | ((refine' Nds.rep ?na _); (case na => walk_at "nd")))
local macro_rules | `(tactic| walk_at "len") => `(tactic| first
  | exact ly_sz (by omega)
  | ((simp only [List.length_append, List.length_cons, List.length_nil, List.length_map, PyProof.Rows.lm_len_rep_flat]); exact ly_sz (by omega)))
local macro_rules | `(tactic| walk_at "go1") => `(tactic| first
  | (with_reducible refine' w_kget2 ?_)
  | (with_reducible refine' w_isRN ?_)
  | (with_reducible refine' w_isNN ?_)
  | (with_reducible refine' w_isIN ?_)
  | ((with_reducible refine' w_kg ?hd ?_); (case hd => assumption)))
local macro_rules | `(tactic| walk_at "go1") => `(tactic| first
  | ((with_reducible refine' w_extT ?hh ?hh2 ?hz ?_); (case hh => walk_at "hp"); (case hh2 => walk_at "hp"))
  | ((with_reducible refine' w_I ?hc ?_); (case hc => exact ⟨by decide, by decide, by decide⟩))
  | (with_reducible refine' w_sl ?_)
  | (with_reducible refine' w_noP ?_)
  | (with_reducible refine' w_part ?_)
  | (with_reducible refine' w_part1 ?_)
  | (with_reducible refine' w_it ?_)
  | (with_reducible refine' w_it1 ?_)
  | ((with_reducible refine' w_lenZ ?hz ?_); (case hz => omega))
  | ((with_reducible refine' w_addZb ?hz ?_); (case hz => omega))
  | ((with_reducible refine' w_addZf ?hz ?_); (case hz => omega))
  | ((with_reducible refine' w_addZa ?hz ?_); (case hz => omega))
  | ((with_reducible refine' w_inS ?hh ?_); (case hh => walk_at "hp"))
  | ((with_reducible refine' w_ixT ?hh ?ha ?_); (case hh => assumption); (case ha => exact atI_nat (by assumption))))
local macro_rules | `(tactic| walk_at "go1") => `(tactic| first
  | (with_reducible refine' w_iR2 ?_)
  | ((with_reducible refine' w_iR21 ?h1 ?h2 ?h3 ?h4 ?_); (case h1 => omega); (case h2 => omega); (case h3 => omega); (case h4 => omega))
  | (with_reducible refine' w_nnI ?_)
  | (with_reducible refine' w_max ?_)
  | (with_reducible refine' w_break ?_)
  | (with_reducible refine' w_cont ?_))
local macro_rules | `(tactic| walk_at "go1") => `(tactic| first
  | (with_reducible refine' w_m1 ?_)
  | (with_reducible refine' w_m11 ?_)
  | (with_reducible refine' w_st2 ?_)
  | (with_reducible refine' w_sg ?_)
  | (with_reducible refine' w_sg2 ?_)
  | (with_reducible refine' w_sgSp ?_)
  | ((with_reducible refine' w_lcnt ?hh ?_); (case hh => walk_at "hp")))
local macro_rules | `(tactic| walk_at "go1") => `(tactic| first
  | (with_reducible refine' w_bmX ?_)
  | ((with_reducible refine' w_bmX1 ?hh ?_); (case hh => assumption))
  | ((with_reducible refine' w_tcnt ?hh ?hn ?_); (case hh => walk_at "hp"); (case hn => walk_at "nd")))
section
variable {P : Program} {w : World} {K : PySem.W.Frag} {mg : Str → Option Value} {base : Heap} {tk : Nat → Tok} {cl : Nat → Addr}
def spShow (K : PySem.W.Frag) (PT C : Addr) : Sp := fun vs H Q E => ∃ (a b : Addr) (t : Tm) (fs : List (List Nat)), vs = [.ref a, .ref b] ∧ SqX H a t.enc ∧ t.enc.length ≤ 1000 ∧ H b = some (.lst (plcs fs)) ∧ fs.length ≤ 1000 ∧ (∀ w ∈ fs, w.length ≤ 1000000) ∧ GxR.TabG H PT ∧
  (NmOk fs → okF fs.length 0 t → ∀ H' bs m, Tb PT H H' → bs = own fs m → bs.length = t.lams → m ≤ t.lams + fs.length → Q (.str (pl (shw bs fs 0 t))) H') ∧ (¬ (NmOk fs ∧ okF fs.length 0 t) → ∀ H', Tb PT H H' → E (.ref C) none H')
theorem decB {p : Prop} [Decidable p] {b : Bool} (h : b = true ↔ p) : decide p = b := by
  cases b with
  | true => exact decide_eq_true (h.mp rfl)
  | false => exact decide_eq_false fun z => nomatch (h.mpr z)
theorem sl_itv {K : PySem.W.Frag} {te : TE} {σ σ2 : L2.St} {H : Hp} {R : It → Hp → Prop} (e : σ = σ2) (h : te σ2 H fun v H1 => ∃ (a : Addr) (xs : List V), v = .ref a ∧ ((SqL K H1 a xs ∧ R (Itv K a xs.length) H1) ∨ (SqT K H1 a xs ∧ R (RT.ItvT K a xs.length) H1))) : RT.iRevA K te σ H R := by
  rw [e]; exact h
theorem ok_show {f : Addr} {fd : FuncData} {PT : Addr} (F : Fun K "show" "show" s_show f fd) (T : Txt w K mg tk cl) (D1 : Def P w K mg base CX0 2 "bound_names" ["count", "taken"] spBound) (D2 : Def P w K mg base (L2.CX P w) 3 "name_table" ["names"] (spTable PT (cl 5)))
    (D3 : Def P w K mg base CX0 1 "depths" ["term"] (spDepths K)) (D4 : Def P w K mg base CX0 2 "written_abstraction" ["name", "body"] spWAbs) (D5 : Def P w K mg base CX0 2 "written_application" ["function", "argument"] spWApp)
    (D6 : Def P w K mg base (L2.CX P w) 1 "written_variable" ["number", "depth", "bound", "names"] (spWVar (cl 5))) : FnOk P w K mg base (L2.CX P w) 6 f fd ["term", "names"] (spShow K PT (cl 5)) := by
  obtain ⟨f1, fd1, g_bound_names, kp_bound_names, b_bound_names, G_bound_names⟩ := D1
  obtain ⟨f2, fd2, g_name_table, kp_name_table, b_name_table, G_name_table⟩ := D2
  obtain ⟨f3, fd3, g_depths, kp_depths, b_depths, G_depths⟩ := D3
  obtain ⟨f4, fd4, g_written_abstraction, kp_written_abstraction, b_written_abstraction, G_written_abstraction⟩ := D4
  obtain ⟨f5, fd5, g_written_application, kp_written_application, b_written_application, G_written_application⟩ := D5
  obtain ⟨f6, fd6, g_written_variable, kp_written_variable, b_written_variable, G_written_variable⟩ := D6
  refine F.okX sc_show (fun vs H Q E h => ?_) (fun cdv A outer s H vs Q E hr h => ?_)
  · obtain ⟨a, b, t, fs, rfl, _⟩ := h
    rfl
  · obtain ⟨a, b, t, fs, rfl, hS, hlen, hb, hl, hwl, ht, q, x⟩ := h
    refine ⟨_, (pss_cons (ps_set (i := 2) sc_show.nd rfl (.inl rfl) (pe_call G_bound_names (hr.mono (by first | decide | omega)) (by rfl) g_bound_names kp_bound_names b_bound_names .nil pass0 (pa_cons (pe_bmX PySem.F.plainAttrs_tuple PySem.F.slot_tuple_count PySem.F.type_tuple_count mt_tcount (pv 0) (pa_cons pe_str pa_nil)) (pa_cons (pe_call G_name_table (hr.mono (by first | decide | omega)) (by rfl) g_name_table kp_name_table b_name_table .nil (passes_call (takes_of rfl rfl rfl rfl) (fun _ _ _ _ h => h)) (pa_cons (pv 1) pa_nil)) pa_nil)))) (pss_cons (ps_set (i := 3) sc_show.nd rfl (.inl rfl) (pe_lst pa_nil)) (pss_cons (ps_for (passes_of rfl) rfl (RT.pi_revA (by rfl) T.n_reversed (pe_listZip rfl (by rfl) T.n_list (by rfl) T.n_zip (pa_cons (pv 0) (pa_cons (pe_call G_depths (hr.mono (by first | decide | omega)) (by rfl) g_depths kp_depths b_depths .nil pass0 (pa_cons (pv 0) pa_nil)) pa_nil)))) (pg_tup (by rfl) (pgs_cons (pg_name (i := 4) sc_show.nd rfl (.inl rfl)) (pgs_cons (pg_name (i := 5) sc_show.nd rfl (.inl rfl)) pgs_nil))) (pss_one (ps_if (pt_cmpR op_eq (pv 4) pe_str (nomark _)) (pss_one (ps_expr (pe_bm PySem.F.plainAttrs_list PySem.F.slot_list_append PySem.F.type_list_append mt_append (pv 3) (pa_cons (pe_call G_written_abstraction (hr.mono (by first | decide | omega)) (by rfl) g_written_abstraction kp_written_abstraction b_written_abstraction .nil pass0 (pa_cons (pe_ix ix_list (pv 2) (pv 5) (fun _ _ => rfl)) (pa_cons (pe_bm0 PySem.F.plainAttrs_list PySem.F.slot_list_pop PySem.F.type_list_pop mt_pop (pv 3)) pa_nil))) pa_nil)))) (pss_one (ps_if (pt_cmpR op_eq (pv 4) pe_str (nomark _)) (pss_cons (ps_set (i := 6) sc_show.nd rfl (.inl rfl) (pe_bm0 PySem.F.plainAttrs_list PySem.F.slot_list_pop PySem.F.type_list_pop mt_pop (pv 3))) (pss_one (ps_expr (pe_bm PySem.F.plainAttrs_list PySem.F.slot_list_append PySem.F.type_list_append mt_append (pv 3) (pa_cons (pe_call G_written_application (hr.mono (by first | decide | omega)) (by rfl) g_written_application kp_written_application b_written_application .nil pass0 (pa_cons (pv 6) (pa_cons (pe_bm0 PySem.F.plainAttrs_list PySem.F.slot_list_pop PySem.F.type_list_pop mt_pop (pv 3)) pa_nil))) pa_nil))))) (pss_one (ps_expr (pe_bm PySem.F.plainAttrs_list PySem.F.slot_list_append PySem.F.type_list_append mt_append (pv 3) (pa_cons (pe_call G_written_variable (hr.mono (by first | decide | omega)) (by rfl) g_written_variable kp_written_variable b_written_variable .nil (passes_call (takes_of rfl rfl rfl rfl) (fun _ _ _ _ h => h)) (pa_cons (pv 4) (pa_cons (pv 5) (pa_cons (pv 2) (pa_cons (pv 1) pa_nil))))) pa_nil))))))))) (pss_one (ps_ret (pe_bm0 PySem.F.plainAttrs_list PySem.F.slot_list_pop PySem.F.type_list_pop mt_pop (pv 3))))))), ?_⟩
    refine sl_of (σ2 := [some _, some _, none, none, none, none, none]) rfl ?_
    walk_at "st"
    walk_at "go"
    refine w_tcnt hS.t (Tm.nds _) ?_
    rw [lams_count]
    have hll := lams_le t
    walk_at "go"
    refine ⟨b, fs, rfl, hb, hl, hwl, ht, fun hok H2 pt kvs t2 hpt ht2 hin => ?_, fun hno H2 t2 => x (fun z => hno z.1) H2 t2⟩
    have hS2 : SqX H2 a t.enc := by
      obtain ⟨ob, h1, h2, h3⟩ := hS
      exact ⟨ob, t2.at ht h1 (fun q z => nomatch z), h2, h3⟩
    have hb2 := t2.lst ht hb
    walk_at "go"
    refine ⟨t.lams, pt, kvs, fs, rfl, ht2, hin, by omega, fun H3 pb bs m e3 hpb hb3 hbs hbl hm => ?_⟩
    have t3 : Tb PT H H3 := t2.trans (Tb.ex t2.1 e3)
    have hS3 := hS2.ex e3
    have hf3 := e3 _ _ hb2
    clear hS2 hb2 hb hS
    walk_at "go"
    intro pw hpw
    have e4 := Ex.new hpw (o := .lst (plcs []))
    have hw4 : upd H3 pw (.lst (plcs [])) pw = some (.lst (plcs [])) := upd_same
    rw [show (HO.lst ([] : List V)) = .lst (plcs []) from rfl]
    have hpw0 := t3.free hpw
    have npb : pb ≠ pw := ne_of_none hb3 hpw
    have nbw : b ≠ pw := ne_of_none hf3 hpw
    have t4 := t3.trans (Tb.ex t3.1 e4)
    have hS4 := hS3.ex e4
    have hf4 := e4 _ _ hf3
    have hb4 := e4 _ _ hb3
    generalize upd H3 pw (.lst (plcs [])) = H4 at *
    clear hS3 hf3 hb3 e4 t3 e3 t2 ht2 hpt
    walk_at "go"
    refine sl_itv (σ2 := [some (.ref a), some (.ref b), some (.ref pb), some (.ref pw), none, none, none]) rfl ?_
    show tListZip K _ _ _ _
    refine w_listZip ?_
    walk_at "go"
    refine ⟨a, t, rfl, hS4.t, by omega, fun H5 pd e5 hpd hd5 => ?_⟩
    have t5 := t4.trans (Tb.ex t4.1 e5)
    have hS5 := hS4.ex e5
    have hf5 := e5 _ _ hf4
    have hb5 := e5 _ _ hb4
    have hw5 := e5 _ _ hw4
    walk_at "go"
    refine ⟨a, pd, t.enc, nums (t.deps 0), rfl, .inr hS5.t, .inl (SqL.of hd5), by rw [List.length_map, Tm.deps_len], fun H6 pz ts Z => ?_⟩
    have t6 := t5.trans (Tb.ex t5.1 Z.ex)
    have hf6 := Z.ex _ _ hf5
    have hb6 := Z.ex _ _ hb5
    have hw6 := Z.ex _ _ hw5
    have nz : pz ≠ pw := fun z => by rw [z] at Z; have := Z.new; rw [hw5] at this; cases this
    clear t5 hS5 hf5 hb5 hw5 t4 hS4 hf4 hb4 hw4 e5 hd5
    refine ⟨pz, _, rfl, .inl ⟨SqL.of Z.lst, ?_⟩⟩
    have hbn : Nms bs := fun w hw => by
      rw [hbs] at hw
      exact nmB_of (own_nm (by omega) w hw)
    have hfn := hok.1
    have hln : (ts.map V.ref).length = t.enc.length := by rw [List.length_map, Z.len]
    refine RT.for_Itv (K := K) (a := pz) (xs := ts.map V.ref) (fun i σ H' => ∃ (y4 y5 y6 : Option V), σ = [some (.ref a), some (.ref b), some (.ref pb), some (.ref pw), y4, y5, y6] ∧ Fr pw H6 H' ∧ H' pw = some (.lst (plcs (stk bs fs t (t.enc.length - i)))) ∧ (∀ p ∈ fo t (t.enc.length - i), okF fs.length p.2 p.1))
      ⟨none, none, none, rfl, Fr.refl _ _, by rw [Nat.sub_zero]; unfold stk; rw [fo_end]; exact hw6, by rw [Nat.sub_zero, fo_end]; simp⟩ (fun i σ H' ⟨_, _, _, _, fr, _⟩ => SqL.of (fr _ _ nz Z.lst)) ?_ ?_
    · rintro i x0 σ H7 hi hx ⟨y4, y5, y6, rfl, fr7, hw7, hok7⟩
      rw [hln] at hi hx
      rw [List.getElem?_map] at hx
      obtain ⟨tj, htj, rfl⟩ := Option.map_eq_some_iff.mp hx
      obtain ⟨v, hv⟩ : ∃ v, t.enc[t.enc.length - 1 - i]? = some v := ⟨_, List.getElem?_eq_getElem (by omega)⟩
      obtain ⟨d, hd⟩ : ∃ d, (t.deps 0)[t.enc.length - 1 - i]? = some d := ⟨_, List.getElem?_eq_getElem (by rw [Tm.deps_len]; omega)⟩
      have htp := Z.tup _ tj v (.int (d : Int)) htj hv (by rw [List.getElem?_map, hd]; rfl)
      have ntj : tj ≠ pw := fun z => by rw [z, hw6] at htp; cases htp
      have htp7 := fr7 _ _ ntj htp
      have hb7 := fr7 _ _ npb hb6
      have hf7 := fr7 _ _ nbw hf6
      have ei : t.enc.length - i = t.enc.length - 1 - i + 1 := by omega
      have ei2 : t.enc.length - (i + 1) = t.enc.length - 1 - i := by omega
      rw [ei] at hw7 hok7
      rw [ei2]
      generalize t.enc.length - 1 - i = j at *
      have hlm := fo_lams t j
      have sl := sizeLine_eq
      walk_at "go"
      have stE : ∀ k, stk bs fs t k = ((fo t k).map fun p => shw bs fs p.2 p.1).reverse := fun _ => rfl
      have hpos := hlm
      obtain ⟨fl1, fl2⟩ := fo_le (t := t) (i := j + 1) (by omega)
      have go_on : ∀ (u : Tm) (r : List (Tm × Nat)), fo t j = (u, d) :: r → stk bs fs t j = (r.map fun p => shw bs fs p.2 p.1).reverse ++ [shw bs fs d u] := fun u r e => by
        rw [stE, e]; simp
      rcases fo_at hv hd with ⟨n, r, rfl, e1, e2⟩ | ⟨u, r, rfl, e1, e2⟩ | ⟨g, u, r, rfl, e1, e2⟩
      · have hdl : d ≤ bs.length := by
          have := hlm _ (by rw [e1]; exact List.mem_cons_self)
          simp only [Tm.lams] at this
          omega
        have st1 : stk bs fs t (j + 1) = (r.map fun p => shw bs fs p.2 p.1).reverse := by rw [stE, e2]
        rw [st1] at hw7
        rw [e2] at hok7
        rw [go_on _ _ e1, e1]
        walk_at "go"
        rw [e2] at fl1
        refine ⟨n, d, pb, b, bs, fs, rfl, hb7, hf7, hdl, fun hin => ?_, fun hno => x (fun z => hno (fo_ok z.2 j (.var n, d) (by rw [e1]; exact List.mem_cons_self))) H7 (t6.own fr7 hpw0 hw6)⟩
        walk_at "go"
        refine w_app hw7 (ly_lt (by simp; omega)) ?_
        refine ⟨_, _, _, rfl, fr7.own, by rw [upd_same]; simp [plcs], fun p hp => ?_⟩
        rcases List.mem_cons.mp hp with rfl | hp
        · exact hin
        · exact hok7 p hp
      · have hdl := hlm _ (by rw [e1]; exact List.mem_cons_self)
        simp only [Tm.lams] at hdl
        have st1 : stk bs fs t (j + 1) = (r.map fun p => shw bs fs p.2 p.1).reverse ++ [shw bs fs (d + 1) u] := by rw [stE, e2]; simp
        rw [st1] at hw7
        rw [e2] at hok7
        rw [go_on _ _ e1, e1]
        walk_at "go"
        rw [e2] at fl1 fl2
        have oku := hok7 _ List.mem_cons_self
        obtain ⟨c, r2, ec, hc⟩ := shw_head hbn hfn u (d + 1) (by omega) oku
        have hlen2 := shw_len hbn hfn u (d + 1) (by omega) oku
        have hsz : u.enc.length ≤ t.enc.length := fl2 _ List.mem_cons_self
        obtain ⟨_, _, _, _, _, hnl⟩ := nm_head (hbn.get (i := d) (by omega))
        have hw8 : H7 pw = some (.lst (plcs (r.map fun p => shw bs fs p.2 p.1).reverse ++ [V.str (pl (c :: r2))])) := by rw [hw7, ec]; simp [plcs]
        rw [ec] at hlen2
        rw [List.length_cons] at hlen2 fl1
        refine w_ixL (SqL.of hb7) (atI_nat (plcs_at (by omega))) ?_
        walk_at "go"
        refine ⟨bs.getD d [], c, r2, rfl, by omega, by omega, ?_⟩
        walk_at "go"
        refine w_app upd_same (ly_lt (by simp; omega)) ?_
        refine ⟨_, _, _, rfl, (fr7.own).own, ?_, fun p hp => ?_⟩
        · rw [upd_same, decB hc, ← ec]
          simp [plcs, shw]
        · rcases List.mem_cons.mp hp with rfl | hp
          · exact oku
          · exact hok7 p (List.mem_cons_of_mem _ hp)
      · have hdl := hlm _ (by rw [e1]; exact List.mem_cons_self)
        simp only [Tm.lams] at hdl
        have st1 : stk bs fs t (j + 1) = (r.map fun p => shw bs fs p.2 p.1).reverse ++ [shw bs fs d u] ++ [shw bs fs d g] := by rw [stE, e2]; simp
        rw [st1] at hw7
        rw [e2] at hok7
        rw [go_on _ _ e1, e1]
        walk_at "go"
        rw [e2] at fl1 fl2
        have okg := hok7 _ List.mem_cons_self
        have oku := hok7 (u, d) (List.mem_cons_of_mem _ List.mem_cons_self)
        obtain ⟨c, r2, ec, hc⟩ := shw_head hbn hfn g d (by omega) okg
        have hsp := shw_space hbn hfn u d (by omega) oku
        have hlen2 := shw_len hbn hfn g d (by omega) okg
        have hlen3 := shw_len hbn hfn u d (by omega) oku
        have hsz : g.enc.length ≤ t.enc.length := fl2 _ List.mem_cons_self
        have hsz2 : u.enc.length ≤ t.enc.length := fl2 (u, d) (List.mem_cons_of_mem _ List.mem_cons_self)
        have hw8 : H7 pw = some (.lst ((plcs (r.map fun p => shw bs fs p.2 p.1).reverse ++ [V.str (pl (shw bs fs d u))]) ++ [V.str (pl (c :: r2))])) := by rw [hw7, ec]; simp [plcs]
        rw [ec] at hlen2
        rw [List.length_cons] at hlen2 fl1
        rw [List.length_cons] at fl1
        refine w_popA hw8 ?_
        walk_at "go"
        refine ⟨c, r2, shw bs fs d u, rfl, by omega, by omega, ?_⟩
        walk_at "go"
        refine w_app upd_same (ly_lt (by simp; omega)) ?_
        refine ⟨_, _, _, rfl, ((fr7.own).own).own, ?_, fun p hp => ?_⟩
        · have hsv : decide (32 ∈ shw bs fs d u) = !u.isV := by
            rw [decB (b := !u.isV) (by rw [Bool.not_eq_true']; exact hsp.symm)]
          rw [upd_same, decB hc, ← ec, hsv]
          simp [plcs, shw]
        · rcases List.mem_cons.mp hp with rfl | hp
          · exact ⟨okg, oku⟩
          · exact hok7 p (List.mem_cons_of_mem _ (List.mem_cons_of_mem _ hp))
    · rintro σ H7 ⟨y4, y5, y6, rfl, fr7, hw7, hok7⟩
      rw [hln, Nat.sub_self] at hw7 hok7
      have hw7 : H7 pw = some (.lst (plcs [shw bs fs 0 t])) := hw7
      have okt : okF fs.length 0 t := hok7 (t, 0) (by simp [fo])
      walk_at "go"
      refine w_popA (xs := []) hw7 ?_
      exact q hok okt _ bs m (Tb.mut (t := ht) (t6.own fr7 hpw0 hw6) hpw0) hbs hbl hm
end
end Ly
set_option Elab.async false
set_option linter.all false
set_option maxRecDepth 100000
set_option maxHeartbeats 8000000
namespace Ly
open PySem PySem.Spec PyProof.Rows L2 Evl
local macro_rules | `(tactic| walk_at "ne") => `(tactic| first
  | assumption
  | ((refine' Ne.symm ?hq); (case hq => assumption))
  | ((refine' ne_of_none ?nh1 ?nh2); (case nh2 => assumption); (case nh1 => walk_at "hp"))
  | ((refine' Ne.symm (ne_of_none ?nh1 ?nh2)); (case nh2 => assumption); (case nh1 => walk_at "hp")))
local macro_rules | `(tactic| walk_at "hp") => `(tactic| first
  | assumption
  | exact upd_same
  | ((refine' SqL.of ?hq); (case hq => walk_at "hp"))
  | ((refine' SqT.of ?hq); (case hq => walk_at "hp"))
  | ((refine' (upd_ne ?hne).trans ?hrest); (case hne => walk_at "ne"); (case hrest => walk_at "hp"))
  | ((refine' ly_at ?hex ?hh); (case hex => assumption); (case hh => walk_at "hp"))
  | ((refine' ly_atF ?hex ?hnn ?hh); (case hex => assumption); (case hh => walk_at "hp"); (case hnn => walk_at "ne"))
  | ((refine' ex_t ?hex ?hh); (case hh => assumption); (case hex => walk_at "ex"))
  | ((refine' ex_l ?hex ?hh); (case hh => assumption); (case hex => walk_at "ex")))
local macro_rules | `(tactic| walk_at "ex") => `(tactic| first
  | assumption
  | exact Ex.refl _
  | ((refine' ex_new ?xa ?xb); (case xb => assumption); (case xa => walk_at "ex"))
  | ((refine' ex_upd ?xa ?xb); (case xb => walk_at "free"); (case xa => walk_at "ex"))
  | ((refine' Ex.trans ?xa ?xb); (case xb => assumption); (case xa => walk_at "ex")))
local macro_rules | `(tactic| walk_at "free") => `(tactic| first
  | assumption
  | ((refine' fresh_back ?xa ?xb); (case xb => assumption); (case xa => walk_at "ex")))
local macro_rules | `(tactic| walk_at "fr") => `(tactic| first
  | assumption
  | exact Fr.refl _ _
  | ((refine' Fr.own ?hq); (case hq => walk_at "fr"))
  | ((refine' Fr.new ?xa ?xb); (case xb => assumption); (case xa => walk_at "fr"))
  | ((refine' Fr.mut ?xa ?xb); (case xb => assumption); (case xa => walk_at "fr"))
  | ((refine' Fr.trans ?xa ?xb); (case xb => assumption); (case xa => walk_at "fr"))
  | ((refine' Fr.trans ?xa (Fr.ex ?xb)); (case xb => assumption); (case xa => walk_at "fr")))
local macro_rules | `(tactic| walk_at "go1") => `(tactic| first
  | (with_reducible refine' w_seq ?_)
  | (with_reducible refine' w_asg ?_)
  | (with_reducible refine' w_ret ?_)
  | (with_reducible refine' w_drop ?_)
  | (with_reducible refine' w_if ?_)
  | (with_reducible refine' w_next ?_)
  | (with_reducible refine' w_name ?_)
  | (with_reducible refine' w_sub ?_)
  | ((with_reducible refine' w_var ?hv ?_); (case hv => exact rfl))
  | (with_reducible refine' w_c ?_)
  | (with_reducible refine' w_op ?_)
  | (with_reducible refine' w_un ?_)
  | (with_reducible refine' w_ch ?_)
  | (with_reducible refine' w_I0 ?_)
  | ((with_reducible refine' w_I ?hc ?_); (case hc => first | (exact ly_mulL (by decide) (by decide)) | (exact ly_mulR (by decide) (by decide)) | (exact ly_mulL (by omega) (by omega)) | (show (_ : Int) ≠ 0; decide) | (show (_ : Int) ≠ 0; omega) | (exact ⟨by decide, by decide⟩) | (exact ⟨by omega, by omega⟩)))
  | (with_reducible refine' w_U ?_)
  | ((with_reducible refine' w_eq ?hs ?_); (case hs => exact rfl))
  | ((with_reducible refine' w_ne ?hs ?_); (case hs => exact rfl))
  | (with_reducible refine' w_isB ?_)
  | (with_reducible refine' w_notB ?_)
  | (with_reducible refine' w_nil ?_)
  | (with_reducible refine' w_cons ?_)
  | (with_reducible refine' w_tup ?_)
  | (with_reducible refine' w_lst ?_)
  | (with_reducible refine' w_cb ?_)
  | (with_reducible refine' w_call ?_)
  | (with_reducible refine' w_bm ?_)
  | (with_reducible refine' w_bm0 ?_)
  | ((with_reducible refine' w_app ?hh ?hz ?_); (case hh => walk_at "hp"); (case hz => first | exact ly_lt (by omega) | exact ly_lt (by simp only [List.length_append, List.length_map, List.length_cons, List.length_nil]; omega)))
  | ((with_reducible refine' w_popA ?hh ?_); (case hh => walk_at "hp"))
  | ((with_reducible refine' w_ext ?hh ?hh2 ?hz ?_); (case hh => walk_at "hp"); (case hh2 => walk_at "hp"))
  | ((with_reducible refine' w_ixL ?hh ?ha ?_); (case hh => walk_at "hp"); (case ha => first | exact rfl | exact at_map (by omega) | exact atI_last _ _ | ((refine' at_of ?ae ?ah); (case ah => assumption); (case ae => omega))))
  | ((with_reducible refine' w_ixT ?hh ?ha ?_); (case hh => walk_at "hp"); (case ha => first | exact rfl | exact at_map (by omega) | exact atI_last _ _ | ((refine' at_of ?ae ?ah); (case ah => assumption); (case ae => omega))))
  | ((with_reducible refine' w_cat ?hh ?hh2 ?hz ?_); (case hh => walk_at "hp"); (case hh2 => walk_at "hp"))
  | ((with_reducible refine' w_setL ?hh ?ha ?_); (case hh => walk_at "hp"); (case ha => exact rfl))
  | (with_reducible refine' w_test ?_)
  | (with_reducible refine' w_tB ?_)
  | (with_reducible refine' w_bl ?_)
  | (with_reducible refine' w_and ?_)
  | (with_reducible refine' w_or ?_)
  | (with_reducible refine' w_not ?_)
  | (with_reducible refine' w_andV ?_)
  | (with_reducible refine' w_orV ?_)
  | (with_reducible refine' w_notV ?_)
  | (with_reducible refine' w_ifE ?_)
  | (with_reducible refine' w_for ?_)
  | ((with_reducible refine' w_nin ?hh ?_); (case hh => walk_at "hp"))
  | ((with_reducible refine' w_sorted ?hh ?_); (case hh => walk_at "hp"))
  | (with_reducible refine' w_tsadd ?_)
  | ((with_reducible refine' w_tsadd1 ?hh ?_); (case hh => walk_at "hp"))
  | ((with_reducible refine' w_sadd ?hh ?hr ?_); (case hh => walk_at "hp"); (case hr => omega))
  | (with_reducible refine' w_iZ ?_)
  | ((with_reducible refine' w_iZ1 ?hh ?hh2 ?_); (case hh => walk_at "hp"); (case hh2 => walk_at "hp"))
  | (with_reducible refine' w_iS ?_)
  | (with_reducible refine' w_iS1 ?_)
  | ((with_reducible refine' w_gtup ?hh ?hn ?_); (case hh => walk_at "hp"); (case hn => exact rfl))
  | (with_reducible refine' w_gcons ?_)
  | (with_reducible refine' w_gnil ?_)
  | (with_reducible refine' w_js ?_)
  | (with_reducible refine' w_jsn ?_)
  | ((with_reducible refine' w_js1 ?hl ?_); (case hl => decide +kernel))
  | (with_reducible refine' w_fmt ?_)
  | ((with_reducible refine' w_fmt1 ?hl ?_); (case hl => decide +kernel))
  | (with_reducible refine' w_callS ?_)
  | ((with_reducible refine' w_truL ?hh ?_); (case hh => walk_at "hp"))
  | (with_reducible refine' w_lc ?_)
  | (with_reducible refine' w_yes ?_)
  | ((with_reducible refine' w_wipe ?he ?_); (case he => exact rfl))
  | (with_reducible refine' w_iL ?_)
  | (with_reducible refine' w_iT ?_)
  | (with_reducible refine' w_iR ?_)
  | ((with_reducible refine' w_iL1 ?hh ?_); (case hh => walk_at "hp"))
  | ((with_reducible refine' w_iT1 ?hh ?_); (case hh => walk_at "hp"))
  | ((with_reducible refine' w_iR1 ?h1 ?h2 ?_); (case h1 => omega); (case h2 => omega))
  | ((with_reducible refine' w_aug ?hv ?_); (case hv => exact rfl))
  | (with_reducible refine' w_ipI ?_)
  | ((with_reducible refine' w_isi ?hy ?hk ?_); (case hy => walk_at "ty"); (case hk => walk_at "kit"))
  | ((with_reducible refine' w_int ?_))
  | ((with_reducible refine' w_intB ?_))
  | ((with_reducible refine' w_abs ?_))
  | ((with_reducible refine' w_lenL ?hh ?_); (case hh => walk_at "hp"))
  | ((with_reducible refine' w_lenT ?hh ?_); (case hh => walk_at "hp"))
  | ((with_reducible refine' w_tupL ?hh ?_); (case hh => walk_at "hp"))
  | ((with_reducible refine' w_tupT ?hh ?_); (case hh => walk_at "hp"))
  | ((with_reducible refine' w_catA ?hh ?hh2 ?hz ?_); (case hh => walk_at "hp"); (case hh2 => walk_at "hp"); (case hz => walk_at "len"))
  | ((with_reducible refine' w_repB ?hh ?hne ?h2 ?h3 ?hz ?_); (case hh => walk_at "hp"); (case hne => simp); (case h2 => omega); (case h3 => omega); (case hz => exact Nat.le_of_ble_eq_true rfl))
  | ((with_reducible refine' w_eqN ?hh ?hh2 ?n1 ?n2 ?_); (case hh => walk_at "hp"); (case hh2 => walk_at "hp"); (case n1 => walk_at "nd"); (case n2 => walk_at "nd"))
  | ((with_reducible refine' w_neN ?hh ?hh2 ?n1 ?n2 ?_); (case hh => walk_at "hp"); (case hh2 => walk_at "hp"); (case n1 => walk_at "nd"); (case n2 => walk_at "nd"))
  | ((with_reducible refine' w_eqL ?hh ?hh2 ?n1 ?n2 ?_); (case hh => walk_at "hp"); (case hh2 => walk_at "hp"); (case n1 => walk_at "nd"); (case n2 => walk_at "nd"))
  | ((with_reducible refine' w_neL ?hh ?hh2 ?n1 ?n2 ?_); (case hh => walk_at "hp"); (case hh2 => walk_at "hp"); (case n1 => walk_at "nd"); (case n2 => walk_at "nd"))
  | ((with_reducible refine' w_neNon ?hh2 ?n2 ?_); (case hh2 => walk_at "hp"); (case n2 => walk_at "nd"))
  | ((with_reducible refine' w_eqNon ?hh2 ?n2 ?_); (case hh2 => walk_at "hp"); (case n2 => walk_at "nd"))
  | ((with_reducible refine' w_slA ?hh ?_); (case hh => walk_at "hp"))
  | ((with_reducible refine' w_disp ?hz ?_); (case hz => exact sz_of (Nat.le_of_ble_eq_true rfl)))
  | ((with_reducible refine' w_tyL ?hh ?_); (case hh => walk_at "hp"))
  | (with_reducible refine' iteT ?_)
  | (with_reducible refine' iteF ?_)
  | (with_reducible refine' w_nT ?_)
  | (with_reducible refine' w_nn ?_)
  | (with_reducible refine' w_nnT ?_)
  | (with_reducible refine' w_nnR ?_)
  | (with_reducible refine' w_neG ?_)
  | (with_reducible refine' w_eqG ?_)
  | (with_reducible refine' w_neS ?_)
  | (with_reducible refine' w_eqS ?_)
  | (with_reducible refine' w_neSb ?_)
  | (with_reducible refine' w_eqSb ?_)
  | (with_reducible refine' w_deIS ?_)
  | (with_reducible refine' w_deSI ?_)
  | (with_reducible refine' w_deISn ?_)
  | ((with_reducible refine' w_deST ?he ?_); (case he => decide +kernel))
  | ((with_reducible refine' w_deSF ?he ?_); (case he => decide +kernel))
  | ((with_reducible refine' w_deSTn ?he ?_); (case he => decide +kernel))
  | ((with_reducible refine' w_deSFn ?he ?_); (case he => decide +kernel))
  | (with_reducible refine' w_nF ?_)
  | dsimp only [Bool.not_true, Bool.not_false])
local macro_rules | `(tactic| walk_at "ty") => `(tactic| first
  | exact .base (.int _) | exact .base (.str _) | exact .base (.bl _) | exact .base .non
  | ((refine' tyx_t ?hq); (case hq => walk_at "hp")) | ((refine' tyx_l ?hq); (case hq => walk_at "hp")) | ((refine' .base (.tup ?hq)); (case hq => walk_at "hp")) | assumption)
local macro_rules | `(tactic| walk_at "go") => `(tactic| repeat walk_at "go1")
local macro_rules | `(tactic| walk_at "st") => `(tactic| try dsimp only [cxOf, Cx.nox, Cx.wish])
local macro_rules | `(tactic| walk_at "kit") => `(tactic| with_reducible first | exact kit_int_int | exact kit_int_str | exact kit_int_bool | exact kit_int_tuple | exact kit_int_list | exact kit_str_int | exact kit_str_str | exact kit_str_bool | exact kit_str_tuple | exact kit_str_list | exact kit_bool_int | exact kit_bool_str | exact kit_bool_bool | exact kit_bool_tuple | exact kit_bool_list | exact kit_NoneType_int | exact kit_NoneType_str | exact kit_NoneType_bool | exact kit_NoneType_tuple | exact kit_NoneType_list | exact kit_list_int | exact kit_list_str | exact kit_list_bool | exact kit_list_tuple | exact kit_list_list | exact kit_tuple_int | exact kit_tuple_str | exact kit_tuple_bool | exact kit_tuple_tuple | exact kit_tuple_list)
local macro_rules | `(tactic| walk_at "nd") => `(tactic| first
  | assumption
  | exact Tm.nds _
  | exact Nds.nil
  | exact Nds.ofInts _
  | ((refine' Nds.cons ?na ?nb); (case na => first | exact Nds.I _ | exact Nds.L | exact Nds.A); (case nb => walk_at "nd"))
  | ((refine' Nds.app ?na ?nb); (case na => walk_at "nd"); (case nb => walk_at "nd"))
  | ((refine' Nds.rep ?na _); (case na => walk_at "nd")))
local macro_rules | `(tactic| walk_at "len") => `(tactic| first
  | exact ly_sz (by omega)
  | ((simp only [List.length_append, List.length_cons, List.length_nil, List.length_map, PyProof.Rows.lm_len_rep_flat]); exact ly_sz (by omega)))
local macro_rules | `(tactic| walk_at "go1") => `(tactic| first
  | (with_reducible refine' w_kget2 ?_)
  | (with_reducible refine' w_isRN ?_)
  | (with_reducible refine' w_isNN ?_)
  | (with_reducible refine' w_isIN ?_)
  | ((with_reducible refine' w_kg ?hd ?_); (case hd => assumption)))
local macro_rules | `(tactic| walk_at "go1") => `(tactic| first
  | ((with_reducible refine' w_extT ?hh ?hh2 ?hz ?_); (case hh => walk_at "hp"); (case hh2 => walk_at "hp"))
  | ((with_reducible refine' w_I ?hc ?_); (case hc => exact ⟨by decide, by decide, by decide⟩))
  | (with_reducible refine' w_sl ?_)
  | (with_reducible refine' w_noP ?_)
  | (with_reducible refine' w_part ?_)
  | (with_reducible refine' w_part1 ?_)
  | (with_reducible refine' w_it ?_)
  | (with_reducible refine' w_it1 ?_)
  | ((with_reducible refine' w_lenZ ?hz ?_); (case hz => omega))
  | ((with_reducible refine' w_addZb ?hz ?_); (case hz => omega))
  | ((with_reducible refine' w_addZf ?hz ?_); (case hz => omega))
  | ((with_reducible refine' w_addZa ?hz ?_); (case hz => omega))
  | ((with_reducible refine' w_inS ?hh ?_); (case hh => walk_at "hp"))
  | ((with_reducible refine' w_ixT ?hh ?ha ?_); (case hh => assumption); (case ha => exact atI_nat (by assumption))))
local macro_rules | `(tactic| walk_at "go1") => `(tactic| first
  | (with_reducible refine' w_iR2 ?_)
  | ((with_reducible refine' w_iR21 ?h1 ?h2 ?h3 ?h4 ?_); (case h1 => omega); (case h2 => omega); (case h3 => omega); (case h4 => omega))
  | (with_reducible refine' w_nnI ?_)
  | (with_reducible refine' w_max ?_)
  | (with_reducible refine' w_break ?_)
  | (with_reducible refine' w_cont ?_))
local macro_rules | `(tactic| walk_at "go1") => `(tactic| first
  | (with_reducible refine' w_m1 ?_)
  | (with_reducible refine' w_m11 ?_)
  | (with_reducible refine' w_st2 ?_)
  | (with_reducible refine' w_sg ?_)
  | (with_reducible refine' w_sg2 ?_)
  | (with_reducible refine' w_sgSp ?_)
  | ((with_reducible refine' w_lcnt ?hh ?_); (case hh => walk_at "hp")))
section
variable {P : Program} {w : World} {K : PySem.W.Frag} {mg : Str → Option Value} {base : Heap} {tk : Nat → Tok} {cl : Nat → Addr}
def spLOwn : Sp := fun vs H Q _ => ∃ (b : Addr) (fs : List (List Nat)) (m : Nat), vs = [.ref b, .int (m : Int)] ∧ H b = some (.lst (plcs fs)) ∧ fs.length + m ≤ 2600 ∧
  ∀ H' p, Ex H H' → H p = none → H' p = some (.lst (plcs (own fs (fs.length + m)))) → Q (.ref p) H'
theorem ok_lown {f : Addr} {fd : FuncData} {k : Nat} (F : Fun K "_law_own_names" "_law_own_names" s_law_own_names f fd) (T : Txt w K mg tk cl) : FnOk P w K mg base CX0 (k + 1) f fd ["names", "many"] spLOwn := by
  refine F.ok sc_law_own_names (fun vs H Q E h => ?_) (fun cdv A outer s H vs Q E hr h => ?_)
  · obtain ⟨b, fs, m, rfl, _⟩ := h
    rfl
  · obtain ⟨b, fs, m, rfl, hb, hm, q⟩ := h
    refine ⟨_, (pss_cons (ps_set (i := 2) sc_law_own_names.nd rfl (.inl rfl) (pe_lst pa_nil)) (pss_cons (ps_for PassesOwn.never rfl (pi_range1 (by rfl) T.n_range (pa_cons (pe_op op_add (pe_callB call_len_seq (by rfl) T.n_len (by decide +kernel) (pa_cons (pv 0) pa_nil)) (pv 1)) pa_nil)) (pg_name (i := 3) sc_law_own_names.nd rfl (.inl rfl)) (pss_cons (ps_set (i := 4) sc_law_own_names.nd rfl (.inl rfl) (pe_ix ix_str pe_str (pe_op op_modN (pe_callTy call_int1 (by rfl) T.n_int (by decide +kernel) (pa_cons (pv 3) pa_nil)) pe_int) (fun _ _ => rfl))) (pss_cons (ps_if (pt_cmpR op_gt (pv 3) pe_int (nomark _)) (pss_one (ps_set (i := 4) sc_law_own_names.nd rfl (.inl rfl) (pe_op op_addZ (pv 4) (pe_callTy call_str_int (by rfl) T.n_str (by decide +kernel) (pa_cons (pe_op op_fdivN (pv 3) pe_int) pa_nil))))) pss_nil) (pss_one (ps_if (pt_cmpR op_notIn_seq (pv 4) (pv 0) (by rfl)) (pss_one (ps_expr (pe_bm PySem.F.plainAttrs_list PySem.F.slot_list_append PySem.F.type_list_append mt_append (pv 2) (pa_cons (pv 4) pa_nil)))) pss_nil))))) (pss_one (ps_ret (pv 2))))), ?_⟩
    refine sl_of (σ2 := [some _, some _, none, none, none]) rfl ?_
    walk_at "st"
    walk_at "go"
    intro p0 hp0
    have e0 := Ex.new hp0 (o := .lst (plcs []))
    have h0 : upd H p0 (.lst (plcs [])) p0 = some (.lst (plcs [])) := upd_same
    rw [show (HO.lst ([] : List V)) = .lst (plcs []) from rfl]
    have hb0 := e0 _ _ hb
    have nb : b ≠ p0 := ne_of_none hb hp0
    generalize upd H p0 (.lst (plcs [])) = H1 at *
    have lb : (plcs fs).length = fs.length := List.length_map _
    walk_at "go"
    rw [lb]
    have en : ((fs.length : Int) + (m : Int)).toNat = fs.length + m := by omega
    refine for_range (lo := 0) (n := ((fs.length : Int) + (m : Int)).toNat) (fun i σ H' => ∃ y1 y2, σ = [some (.ref b), some (.int (m : Int)), some (.ref p0), y1, y2] ∧ Ex H H' ∧ H' b = some (.lst (plcs fs)) ∧ H' p0 = some (.lst (plcs (own fs i))))
      ⟨none, none, rfl, e0, hb0, h0⟩ ?_ ?_
    · rintro i σ H2 hi ⟨y1, y2, rfl, e2, hb2, h2⟩
      rw [en] at hi
      have hol := own_le fs i
      rw [pl_abc]
      walk_at "go"
      rw [show (0 + (i : Int)).fmod 26 = ((i % 26 : Nat) : Int) by rw [Int.zero_add]; exact fmod26 i]
      refine w_ixSt (by simp) (atI_nat (get_abc (Nat.mod_lt _ (by decide)))) ?_
      walk_at "go"
      refine w_br (fun c1 => ?_) (fun c1 => ?_)
      · have hd := digs_str (i / 26) (by omega)
        have hdo := digs_ok (d := i / 26) (by omega)
        walk_at "go"
        rw [show (0 + (i : Int)).fdiv 26 = ((i / 26 : Nat) : Int) by rw [Int.zero_add]; exact fdiv26 i]
        refine ⟨hd.2, ?_⟩
        rw [hd.1]
        refine w_addZ (by simp; omega) ?_
        have e : [97 + i % 26] ++ digs (i / 26) = nmN i := (if_neg (by omega)).symm
        rw [e]
        walk_at "go"
        refine w_ninS hb2 ?_
        by_cases hm2 : nmN i ∈ fs
        · rw [decide_eq_true hm2]
          walk_at "go"
          exact ⟨_, _, rfl, e2, hb2, by rw [own_yes hm2]; exact h2⟩
        · rw [decide_eq_false hm2]
          walk_at "go"
          exact ⟨_, _, rfl, e2.mut hp0, by rw [upd_ne nb]; exact hb2, by rw [upd_same, own_no hm2]; simp [plcs]⟩
      · have e : [97 + i % 26] = nmN i := (if_pos (by omega)).symm
        rw [e]
        walk_at "go"
        refine w_ninS hb2 ?_
        by_cases hm2 : nmN i ∈ fs
        · rw [decide_eq_true hm2]
          walk_at "go"
          exact ⟨_, _, rfl, e2, hb2, by rw [own_yes hm2]; exact h2⟩
        · rw [decide_eq_false hm2]
          walk_at "go"
          exact ⟨_, _, rfl, e2.mut hp0, by rw [upd_ne nb]; exact hb2, by rw [upd_same, own_no hm2]; simp [plcs]⟩
    · rintro σ H2 ⟨y1, y2, rfl, e2, hb2, h2⟩
      rw [en] at h2
      walk_at "go"
      exact q H2 p0 e2 hp0 h2
def Tm.hgt : Tm → Nat
  | .var _ => 0
  | .lam b => if b.isL = true then b.hgt else b.hgt + 1
  | .app f a => max f.hgt a.hgt + 1
theorem hgt_lamN {b : Tm} (hb : b.isL = false) : ∀ n, (Tm.lamN (n + 1) b).hgt = b.hgt + 1
  | 0 => by
    show (if b.isL = true then _ else _) = _
    rw [if_neg (by show ¬ b.isL = true; rw [hb]; exact Bool.false_ne_true)]
    rfl
  | n + 1 => by
    show (if (Tm.lamN (n + 1) b).isL = true then _ else _) = _
    have e : (Tm.lamN (n + 1) b).isL = true := rfl
    rw [if_pos e, hgt_lamN hb n]
theorem hgt_le : ∀ t : Tm, t.hgt + 1 ≤ t.enc.length
  | .var _ => Nat.le_refl _
  | .lam b => by
    have := hgt_le b
    simp only [Tm.hgt, Tm.enc, List.length_cons]
    split <;> omega
  | .app f a => by
    have := hgt_le f
    have := hgt_le a
    simp only [Tm.hgt, Tm.enc, List.length_cons, List.length_append]
    omega
def kdT : Tm → Str
  | .var _ => "name"
  | .lam _ => "lam"
  | .app _ _ => "app"
theorem kdT_lam : ∀ g : Tm, decide (V.str (kdT g) = V.str "lam") = g.isL
  | .var _ => (by decide +kernel : decide (V.str "name" = V.str "lam") = false)
  | .lam _ => (by decide +kernel : decide (V.str "lam" = V.str "lam") = true)
  | .app _ _ => (by decide +kernel : decide (V.str "app" = V.str "lam") = false)
theorem kdT_name : ∀ g : Tm, decide (V.str (kdT g) = V.str "name") = g.isV
  | .var _ => (by decide +kernel : decide (V.str "name" = V.str "name") = true)
  | .lam _ => (by decide +kernel : decide (V.str "lam" = V.str "name") = false)
  | .app _ _ => (by decide +kernel : decide (V.str "app" = V.str "name") = false)
theorem par_pl (c : Bool) (w : List Nat) : (par c w).length ≤ w.length + 2 := by
  unfold par
  split <;> simp
def spLShown (K : PySem.W.Frag) (n : Nat) : Sp := fun vs H Q _ => ∃ (a : Addr) (s d : Nat) (bo bn : Addr) (xs post : List V) (u : Tm) (bs fs : List (List Nat)), vs = [.ref a, .int (s : Int), .int (d : Int), .ref bo, .ref bn] ∧ SqT K H a xs ∧ xs.drop s = u.enc ++ post ∧ xs.length ≤ 2000 ∧
  H bo = some (.lst (plcs bs)) ∧ H bn = some (.lst (plcs fs)) ∧ d + u.lams ≤ bs.length ∧ bs.length ≤ 3000 ∧ fs.length ≤ 3000 ∧ okF fs.length d u ∧ Nms bs ∧ Nms fs ∧ u.hgt < n ∧
  ∀ H' p, Ex H H' → SqT K H' p [.str (pl (shw bs fs d u)), .int ((s + u.enc.length : Nat) : Int), .str (kdT u)] → Q (.ref p) H'
theorem ok_lshown {f : Addr} {fd : FuncData} (F : Fun K "_law_shown" "_law_shown" s_law_shown f fd) (T : Txt w K mg tk cl)
    (g_law_shown : mg "_law_shown" = some (.ref f)) (kp_law_shown : PySem.W.keepIn K (.ref f) = true) (b_law_shown : Binds K fd ["term", "at", "depth", "own", "names"] []) :
    ∀ n, FnOk P w K mg base CX0 (n + 1) f fd ["term", "at", "depth", "own", "names"] (spLShown K n) := by
  intro n
  induction n with
  | zero =>
    refine ⟨fun vs H Q E h => ?_, fun A outer s H args us vs Q E _ _ _ _ h => ?_⟩
    · obtain ⟨_, _, _, _, _, _, _, _, _, _, rfl, _, _, _, _, _, _, _, _, _, _, _, h, _⟩ := h
      exact absurd h (Nat.not_lt_zero _)
    · obtain ⟨_, _, _, _, _, _, _, _, _, _, rfl, _, _, _, _, _, _, _, _, _, _, _, h, _⟩ := h
      exact absurd h (Nat.not_lt_zero _)
  | succ n G_law_shown =>
    have FO : FnOk P w K mg base CX0 (n + 1 + 1) f fd ["term", "at", "depth", "own", "names"] (spLShown K (n + 1)) := by
      refine F.ok sc_law_shown (fun vs H Q E h => ?_) (fun cdv A outer s H vs Q E hr h => ?_)
      · obtain ⟨_, _, _, _, _, _, _, _, _, _, rfl, _⟩ := h
        rfl
      · obtain ⟨a, s1, d, bo, bn, xs, post, u, bs, fs, rfl, hS, hdr, hxl, hbo, hbn, hdl, hbl, hfl, hok, nbs, nfs, hn, q⟩ := h
        refine ⟨_, (pss_cons (ps_set (i := 5) sc_law_shown.nd rfl (.inl rfl) (pe_ix ix_tup (pv 0) (pv 1) (fun _ _ => rfl))) (pss_cons (ps_if (pt_cmpR op_eq (pv 5) pe_str (nomark _)) (pss_cons (ps_set (i := 6) sc_law_shown.nd rfl (.inl rfl) pe_int) (pss_cons (ps_while PassesOwn.never (pt_cmpR op_eq (pe_ix ix_tup (pv 0) (pe_op op_add (pv 1) (pv 6)) (fun _ _ => rfl)) pe_str (nomark _)) (pss_one (ps_set (i := 6) sc_law_shown.nd rfl (.inl rfl) (pe_op op_add (pv 6) pe_int)))) (pss_cons (ps_asg (pe_call G_law_shown (hr.mono (by first | decide | omega)) (by rfl) g_law_shown kp_law_shown b_law_shown .nil pass0 (pa_cons (pv 0) (pa_cons (pe_op op_add (pv 1) (pv 6)) (pa_cons (pe_op op_add (pv 2) (pv 6)) (pa_cons (pv 3) (pa_cons (pv 4) pa_nil)))))) (pg_tup (by rfl) (pgs_cons (pg_name (i := 7) sc_law_shown.nd rfl (.inl rfl)) (pgs_cons (pg_name (i := 8) sc_law_shown.nd rfl (.inl rfl)) (pgs_cons (pg_name (i := 9) sc_law_shown.nd rfl (.inl rfl)) pgs_nil))))) (pss_one (ps_ret (pe_tup (pa_cons (pe_op op_addZ (pe_op op_addZ (pe_op op_addZ pe_str (pe_join pe_str (pe_slice sl_list (pv 3) (po_some (pv 2)) (po_some (pe_op op_add (pv 2) (pv 6)))))) pe_str) (pv 7)) (pa_cons (pv 8) (pa_cons pe_str pa_nil))))))))) pss_nil) (pss_cons (ps_if (pt_cmpR op_eq (pv 5) pe_str (nomark _)) (pss_cons (ps_asg (pe_call G_law_shown (hr.mono (by first | decide | omega)) (by rfl) g_law_shown kp_law_shown b_law_shown .nil pass0 (pa_cons (pv 0) (pa_cons (pe_op op_add (pv 1) pe_int) (pa_cons (pv 2) (pa_cons (pv 3) (pa_cons (pv 4) pa_nil)))))) (pg_tup (by rfl) (pgs_cons (pg_name (i := 10) sc_law_shown.nd rfl (.inl rfl)) (pgs_cons (pg_name (i := 11) sc_law_shown.nd rfl (.inl rfl)) (pgs_cons (pg_name (i := 9) sc_law_shown.nd rfl (.inl rfl)) pgs_nil))))) (pss_cons (ps_asg (pe_call G_law_shown (hr.mono (by first | decide | omega)) (by rfl) g_law_shown kp_law_shown b_law_shown .nil pass0 (pa_cons (pv 0) (pa_cons (pv 11) (pa_cons (pv 2) (pa_cons (pv 3) (pa_cons (pv 4) pa_nil)))))) (pg_tup (by rfl) (pgs_cons (pg_name (i := 12) sc_law_shown.nd rfl (.inl rfl)) (pgs_cons (pg_name (i := 8) sc_law_shown.nd rfl (.inl rfl)) (pgs_cons (pg_name (i := 13) sc_law_shown.nd rfl (.inl rfl)) pgs_nil))))) (pss_cut (ps_if (pt_cmpR op_eq (pv 9) pe_str (nomark _)) (pss_one (ps_set (i := 10) sc_law_shown.nd rfl (.inl rfl) (pe_op op_addZ (pe_op op_addZ pe_str (pv 10)) pe_str))) pss_nil) (pss_cut (ps_if (pt_cmpR op_ne (pv 13) pe_str (nomark _)) (pss_one (ps_set (i := 12) sc_law_shown.nd rfl (.inl rfl) (pe_op op_addZ (pe_op op_addZ pe_str (pv 12)) pe_str))) pss_nil) (pss_one (ps_ret (pe_tup (pa_cons (pe_op op_addZ (pe_op op_addZ (pv 10) pe_str) (pv 12)) (pa_cons (pv 8) (pa_cons pe_str pa_nil)))))))))) pss_nil) (pss_cons (ps_if (pt_cmpR op_lt (pv 5) (pv 2) (nomark _)) (pss_one (ps_ret (pe_tup (pa_cons (pe_ix ix_list (pv 3) (pe_op op_sub (pe_op op_sub (pv 2) pe_int) (pv 5)) (fun _ _ => rfl)) (pa_cons (pe_op op_add (pv 1) pe_int) (pa_cons pe_str pa_nil)))))) pss_nil) (pss_one (ps_ret (pe_tup (pa_cons (pe_ix ix_list (pv 4) (pe_op op_sub (pv 5) (pv 2)) (fun _ _ => rfl)) (pa_cons (pe_op op_add (pv 1) pe_int) (pa_cons pe_str pa_nil)))))))))), ?_⟩
        refine sl_of (σ2 := [some _, some _, some _, some _, some _, none, none, none, none, none, none, none, none, none]) rfl ?_
        walk_at "st"
        have hv0 : xs[s1]? = u.enc.head? := by
          have e := congrArg (fun z => z[0]?) hdr
          simp at e
          rw [e]
          cases u <;> simp [Tm.enc]
        cases u with
        | var i =>
          have hv : xs[s1]? = some (.int (i : Int)) := hv0
          walk_at "go"
          refine w_br (fun c1 => ?_) (fun c1 => ?_)
          · have hid : i < d := by omega
            have e : shw bs fs d (.var i) = bs.getD (d - 1 - i) [] := if_pos hid
            walk_at "go"
            refine w_ixL (SqL.of hbo) (by rw [show ((d : Int) - 1 - (i : Int)) = ((d - 1 - i : Nat) : Int) by omega]; exact atI_nat (plcs_at (by simp only [Tm.lams] at hdl; omega))) ?_
            walk_at "go"
            intro p hp
            rw [e] at q
            exact q _ p (Ex.new hp) (SqT.of upd_same)
          · have hid : ¬ i < d := by omega
            have hok : i < d + fs.length := hok
            have e : shw bs fs d (.var i) = fs.getD (i - d) [] := if_neg hid
            walk_at "go"
            refine w_ixL (SqL.of hbn) (by rw [show ((i : Int) - (d : Int)) = ((i - d : Nat) : Int) by omega]; exact atI_nat (plcs_at (by omega))) ?_
            walk_at "go"
            intro p hp
            rw [e] at q
            exact q _ p (Ex.new hp) (SqT.of upd_same)
        | lam u0 =>
          have hv : xs[s1]? = some (.str "lam") := hv0
          walk_at "go"
          obtain ⟨n1, b, e, hb⟩ := lamN_ex (.lam u0) rfl
          rw [e] at hdr hdl hok hn q
          have hkd : kdT (Tm.lamN (n1 + 1) b) = "lam" := rfl
          rw [lamN_lams] at hdl
          have hok2 := lamN_ok _ _ hok
          rw [hgt_lamN hb] at hn
          have hsh := shw_lamN (bs := bs) (fs := fs) hb n1 d (by omega)
          rw [hsh, hkd, lamN_len] at q
          have hget : ∀ k, xs[s1 + k]? = ((Tm.lamN (n1 + 1) b).enc ++ post)[k]? := fun k => by rw [← hdr, List.getElem?_drop]
          have hdrop : xs.drop (s1 + (n1 + 1)) = b.enc ++ post := by rw [← List.drop_drop, hdr, lamN_drop]
          have hbh : ∃ v, xs[s1 + (n1 + 1)]? = some v ∧ (v = .str "app" ∨ ∃ i : Nat, v = .int (i : Int)) := by
            have e0 := congrArg (fun z => z[0]?) hdrop
            rw [List.getElem?_drop] at e0
            simp only [Nat.add_zero] at e0
            rw [e0]
            cases b with
            | var i => exact ⟨_, rfl, .inr ⟨i, rfl⟩⟩
            | lam _ => cases hb
            | app _ _ => exact ⟨_, rfl, .inl rfl⟩
          have hkl : n1 + 1 ≤ xs.length := by
            have := congrArg List.length hdr
            rw [List.length_drop, List.length_append, lamN_len] at this
            omega
          clear hv0 e
          refine w_while (fun m σ H' => ∃ k, m = n1 + 1 - k ∧ k ≤ n1 + 1 ∧ H' = H ∧ σ = [some (.ref a), some (.int (s1 : Int)), some (.int (d : Int)), some (.ref bo), some (.ref bn), some (.str "lam"), some (.int (k : Int)), none, none, none, none, none, none, none]) (n1 + 1) ⟨0, rfl, Nat.zero_le _, rfl, rfl⟩ ?_
          rintro m σ H' ⟨k, rfl, hk, rfl, rfl⟩
          by_cases hkn : k < n1 + 1
          · have hv1 : xs[s1 + k]? = some (.str "lam") := by rw [hget, lamN_lo _ _ hkn]
            walk_at "go"
            refine ⟨fun σ' H'' => H'' = H' ∧ σ' = [some (.ref a), some (.int (s1 : Int)), some (.int (d : Int)), some (.ref bo), some (.ref bn), some (.str "lam"), some (.int ((k + 1 : Nat) : Int)), none, none, none, none, none, none, none], ?_, ?_⟩
            · rintro σ' H'' ⟨rfl, rfl⟩
              exact ⟨n1 + 1 - (k + 1), by omega, k + 1, rfl, hkn, rfl, rfl⟩
            · walk_at "go"
              exact ⟨rfl, rfl⟩
          · obtain rfl : k = n1 + 1 := by omega
            obtain ⟨v, hv1, hvc⟩ := hbh
            walk_at "go"
            have hs : scal v (V.str "lam") = true := by rcases hvc with rfl | ⟨i, rfl⟩ <;> rfl
            have hne : decide (v = V.str "lam") = false := by
              rcases hvc with rfl | ⟨i, rfl⟩
              · decide +kernel
              · exact decide_eq_false (fun z => nomatch z)
            refine w_eq hs ?_
            rw [hne]
            walk_at "go"
            refine ⟨a, s1 + (n1 + 1), d + (n1 + 1), bo, bn, xs, post, b, bs, fs, rfl, hS, hdrop, hxl, hbo, hbn, by omega, hbl, hfl, hok2, nbs, nfs, by omega, fun H1 p1 e1 hp1 => ?_⟩
            have hbo1 := e1 _ _ hbo
            have hlen2 := shw_len nbs nfs b (d + (n1 + 1)) (by omega) hok2
            have hbx : b.enc.length ≤ xs.length := by
              have := congrArg List.length hdrop
              rw [List.length_drop, List.length_append] at this
              omega
            walk_at "go"
            refine w_slL (SqL.of hbo1) fun p2 hp2 => ?_
            rw [show ((d : Int) + ((n1 + 1 : Nat) : Int)) = ((d + (n1 + 1) : Nat) : Int) from rfl, cut_plcs bs (by omega)]
            have hws : Nms ((bs.drop d).take (n1 + 1)) := fun w hw => nbs w (List.mem_of_mem_drop (List.mem_of_mem_take hw))
            have hwl : ((bs.drop d).take (n1 + 1)).length ≤ n1 + 1 := by rw [List.length_take]; omega
            have hsm := nms_sum hws
            have hjl := join_len ((bs.drop d).take (n1 + 1))
            generalize (bs.drop d).take (n1 + 1) = ws at *
            refine w_join upd_same (by omega) ?_
            rw [join_pl, ← pl_bs]
            refine w_addZ (by simp; omega) ?_
            walk_at "go"
            rw [pl_dsp]
            refine w_addZ (by simp; omega) ?_
            walk_at "go"
            refine w_addZ (by simp; omega) ?_
            walk_at "go"
            intro p3 hp3
            refine q _ p3 ((e1.trans (Ex.new hp2)).trans (Ex.new hp3)) (SqT.of ?_)
            rw [upd_same, show s1 + (n1 + 1 + b.enc.length) = s1 + (n1 + 1) + b.enc.length by omega, show d + n1 + 1 = d + (n1 + 1) by omega]
            simp
        | app g u =>
          have hv : xs[s1]? = some (.str "app") := hv0
          walk_at "go"
          have hdr : xs.drop s1 = V.str "app" :: (g.enc ++ u.enc) ++ post := hdr
          have hd1 : xs.drop (s1 + 1) = g.enc ++ (u.enc ++ post) := by
            rw [← List.drop_drop, hdr]
            simp
          have hd2 : xs.drop (s1 + 1 + g.enc.length) = u.enc ++ post := by
            rw [← List.drop_drop, hd1]
            simp
          simp only [Tm.lams] at hdl
          simp only [Tm.hgt] at hn
          obtain ⟨okg, oku⟩ := hok
          have hlen2 := shw_len nbs nfs g d (by omega) okg
          have hlen3 := shw_len nbs nfs u d (by omega) oku
          have hgl : g.enc.length + u.enc.length ≤ xs.length := by
            have := congrArg List.length hdr
            simp at this
            omega
          refine ⟨a, s1 + 1, d, bo, bn, xs, _, g, bs, fs, rfl, hS, hd1, hxl, hbo, hbn, by omega, hbl, hfl, okg, nbs, nfs, by omega, fun H1 p1 e1 hp1 => ?_⟩
          have hS1 := ex_t e1 hS
          have hbo1 := e1 _ _ hbo
          have hbn1 := e1 _ _ hbn
          walk_at "go"
          refine ⟨a, s1 + 1 + g.enc.length, d, bo, bn, xs, _, u, bs, fs, rfl, hS1, hd2, hxl, hbo1, hbn1, by omega, hbl, hfl, oku, nbs, nfs, by omega, fun H2 p2 e2 hp2 => ?_⟩
          walk_at "go"
          have l1 := par_pl g.isL (shw bs fs d g)
          have l2 := par_pl (!u.isV) (shw bs fs d u)
          refine w_cut (M := fun σ' H' => H' = H2 ∧ σ' = [some (.ref a), some (.int (s1 : Int)), some (.int (d : Int)), some (.ref bo), some (.ref bn), some (.str "app"), none, none, some (.int ((s1 + 1 + g.enc.length + u.enc.length : Nat) : Int)), some (.str (kdT g)), some (.str (pl (par g.isL (shw bs fs d g)))), some (.int ((s1 + 1 + g.enc.length : Nat) : Int)), some (.str (pl (shw bs fs d u))), some (.str (kdT u))]) ?_ ?_
          · walk_at "go"
            rw [kdT_lam]
            cases hgL : g.isL with
            | true =>
              walk_at "go"
              rw [← pl_lp]
              refine w_addZ (by simp; omega) ?_
              walk_at "go"
              rw [← pl_rp]
              refine w_addZ (by simp; omega) ?_
              walk_at "go"
              exact ⟨rfl, by simp [par]⟩
            | false =>
              walk_at "go"
              exact ⟨rfl, rfl⟩
          rintro σ' H' ⟨rfl, rfl⟩
          refine w_cut (M := fun σ' H'' => H'' = H' ∧ σ' = [some (.ref a), some (.int (s1 : Int)), some (.int (d : Int)), some (.ref bo), some (.ref bn), some (.str "app"), none, none, some (.int ((s1 + 1 + g.enc.length + u.enc.length : Nat) : Int)), some (.str (kdT g)), some (.str (pl (par g.isL (shw bs fs d g)))), some (.int ((s1 + 1 + g.enc.length : Nat) : Int)), some (.str (pl (par (!u.isV) (shw bs fs d u)))), some (.str (kdT u))]) ?_ ?_
          · walk_at "go"
            rw [kdT_name]
            cases hgV : u.isV with
            | false =>
              walk_at "go"
              rw [← pl_lp]
              refine w_addZ (by simp; omega) ?_
              walk_at "go"
              rw [← pl_rp]
              refine w_addZ (by simp; omega) ?_
              walk_at "go"
              exact ⟨rfl, by simp [par]⟩
            | true =>
              walk_at "go"
              exact ⟨rfl, rfl⟩
          rintro σ' H'' ⟨rfl, rfl⟩
          walk_at "go"
          rw [pl_sp]
          refine w_addZ (by simp; omega) ?_
          walk_at "go"
          refine w_addZ (by simp; omega) ?_
          walk_at "go"
          intro p3 hp3
          refine q _ p3 ((e1.trans e2).trans (Ex.new hp3)) (SqT.of ?_)
          rw [upd_same, show s1 + (Tm.app g u).enc.length = s1 + 1 + g.enc.length + u.enc.length by simp [Tm.enc]; omega]
          show _ = some (HO.tup [V.str (pl (par _ _ ++ 32 :: par _ _)), _, _])
          simp [kdT]
    exact FO
def spLIsName : Sp := fun vs H Q _ => ∃ (w : List Nat), vs = [.str (pl w)] ∧ w.length ≤ 1000000 ∧ ∀ H', Ex H H' → Q (.bl (nmB w)) H'
theorem ok_lisname {f : Addr} {fd : FuncData} {k : Nat} (F : Fun K "_law_is_name" "_law_is_name" s_law_is_name f fd) (T : Txt w K mg tk cl) : FnOk P w K mg base CX0 (k + 1) f fd ["name"] spLIsName := by
  refine F.ok sc_law_is_name (fun vs H Q E h => ?_) (fun cdv A outer s H vs Q E hr h => ?_)
  · obtain ⟨w, rfl, _⟩ := h
    rfl
  · obtain ⟨w, rfl, hl, q⟩ := h
    refine ⟨_, (pss_cons (ps_if (PW.pt (pw_or (pt_not (pt_chain op_le op_le pe_int (pe_callB call_lenZ (by rfl) T.n_len (by decide +kernel) (pa_cons (pv 0) pa_nil)) pe_int)) (pw_or1 (pt_cmpR op_notIn_sign (pe_ix ix_str (pv 0) pe_int (fun _ _ => rfl)) pe_str rfl)))) (pss_one (ps_ret pe_bl)) pss_nil) (pss_one (ps_ret (pe_callB (cr_all rfl) (by rfl) T.n_all (by decide +kernel) (pa_cons (pe_lc (own := [("sign", 1)]) (g := gName 1) (tt := tYes) rfl sc_law_is_name.nd (pi_str (pe_slice sl_str (pv 0) (po_some pe_int) po_none)) (blkOk_by (N := N_law_is_name) (sc := defScope s_law_is_name) (by decide +kernel)) (fun _ _ _ _ _ => pg_name (i := 1) sc_law_is_name.nd rfl (Or.inl rfl)) (fun _ _ _ _ _ => pts_nil) (fun _ _ _ _ _ => (pe_cmpR op_in_sign (pv 1) pe_str rfl))) pa_nil))))), ?_⟩
    refine sl_of (σ2 := [some _, none]) rfl ?_
    walk_at "st"
    walk_at "go"
    cases w with
    | nil =>
      refine w_br (fun c1 => absurd c1 (by decide)) (fun _ => ?_)
      walk_at "go"
      exact q H (Ex.refl _)
    | cons c ds =>
      refine w_br (fun _ => ?_) (fun c1 => ?_)
      rotate_left
      · exact absurd (by simp; omega) c1
      walk_at "go"
      have lz : (c :: ds).length = ds.length + 1 := rfl
      by_cases c1 : ((c :: ds).length : Int) ≤ 10
      · rw [decide_eq_true c1]
        walk_at "go"
        refine w_ixSt hl (atI_nat (xs := c :: ds) (j := 0) (v := c) rfl) ?_
        walk_at "go"
        rw [let_in]
        cases hlow : isLow c with
        | false =>
          walk_at "go"
          have e : nmB (c :: ds) = false := by
            show (isLow c && _ && _) = false
            rw [hlow]; rfl
          rw [← e]
          exact q H (Ex.refl _)
        | true =>
          walk_at "go"
          refine w_slHi (i := 1) hl ?_
          walk_at "go"
          intro Dl hDl
          refine lc_str (fun i H' => Ex H H' ∧ H' Dl = some (.lst ((ds.take i).map fun c => V.bl (isDig c)))) ⟨Ex.new hDl, upd_same⟩ ?_ ?_
          · rintro i x H2 hx ⟨e2, h2⟩
            have hx2 : ds[i]? = some x := by simpa [pl] using hx
            have hil := (List.getElem?_eq_some_iff.mp hx2).1
            walk_at "go"
            refine ⟨_, h2, ly_lt (by simp; omega), e2.mut hDl, ?_⟩
            rw [upd_same, dig_in, List.take_add_one, hx2]
            simp
          · rintro H2 ⟨e2, h2⟩
            have e : nmB (c :: ds) = ds.all isDig := by
              show (isLow c && ds.all isDig && decide (ds.length ≤ 9)) = ds.all isDig
              rw [hlow, decide_eq_true (by omega), Bool.and_true, Bool.true_and]
            have hsz : (pl (List.drop 1 (c :: ds))).cps.size = ds.length := by simp [pl]
            rw [hsz, List.take_length] at h2
            rw [e] at q
            walk_at "go"
            refine ⟨Dl, ds.map isDig, rfl, SqL.of (by rw [h2, List.map_map]; rfl), ?_⟩
            have e3 : (ds.map isDig).all id = ds.all isDig := by simp
            rw [e3]
            exact q H2 e2
      · rw [decide_eq_false c1]
        walk_at "go"
        have e : nmB (c :: ds) = false := by
          show (_ && _ && decide (ds.length ≤ 9)) = false
          rw [decide_eq_false (by omega), Bool.and_false]
        rw [← e]
        exact q H (Ex.refl _)
end
end Ly
set_option Elab.async false
set_option linter.all false
set_option maxRecDepth 100000
set_option maxHeartbeats 8000000
namespace Ly
open PySem PySem.Spec PyProof.Rows L2 Evl
local macro_rules | `(tactic| walk_at "ne") => `(tactic| first
  | assumption
  | ((refine' Ne.symm ?hq); (case hq => assumption))
  | ((refine' ne_of_none ?nh1 ?nh2); (case nh2 => assumption); (case nh1 => walk_at "hp"))
  | ((refine' Ne.symm (ne_of_none ?nh1 ?nh2)); (case nh2 => assumption); (case nh1 => walk_at "hp")))
local macro_rules | `(tactic| walk_at "hp") => `(tactic| first
  | assumption
  | exact upd_same
  | ((refine' SqL.of ?hq); (case hq => walk_at "hp"))
  | ((refine' SqT.of ?hq); (case hq => walk_at "hp"))
  | ((refine' (upd_ne ?hne).trans ?hrest); (case hne => walk_at "ne"); (case hrest => walk_at "hp"))
  | ((refine' ly_at ?hex ?hh); (case hex => assumption); (case hh => walk_at "hp"))
  | ((refine' ly_atF ?hex ?hnn ?hh); (case hex => assumption); (case hh => walk_at "hp"); (case hnn => walk_at "ne"))
  | ((refine' ex_t ?hex ?hh); (case hh => assumption); (case hex => walk_at "ex"))
  | ((refine' ex_l ?hex ?hh); (case hh => assumption); (case hex => walk_at "ex")))
local macro_rules | `(tactic| walk_at "ex") => `(tactic| first
  | assumption
  | exact Ex.refl _
  | ((refine' ex_new ?xa ?xb); (case xb => assumption); (case xa => walk_at "ex"))
  | ((refine' ex_upd ?xa ?xb); (case xb => walk_at "free"); (case xa => walk_at "ex"))
  | ((refine' Ex.trans ?xa ?xb); (case xb => assumption); (case xa => walk_at "ex")))
local macro_rules | `(tactic| walk_at "free") => `(tactic| first
  | assumption
  | ((refine' fresh_back ?xa ?xb); (case xb => assumption); (case xa => walk_at "ex")))
local macro_rules | `(tactic| walk_at "fr") => `(tactic| first
  | assumption
  | exact Fr.refl _ _
  | ((refine' Fr.own ?hq); (case hq => walk_at "fr"))
  | ((refine' Fr.new ?xa ?xb); (case xb => assumption); (case xa => walk_at "fr"))
  | ((refine' Fr.mut ?xa ?xb); (case xb => assumption); (case xa => walk_at "fr"))
  | ((refine' Fr.trans ?xa ?xb); (case xb => assumption); (case xa => walk_at "fr"))
  | ((refine' Fr.trans ?xa (Fr.ex ?xb)); (case xb => assumption); (case xa => walk_at "fr")))
local macro_rules | `(tactic| walk_at "go1") => `(tactic| first
  | (with_reducible refine' w_seq ?_)
  | (with_reducible refine' w_asg ?_)
  | (with_reducible refine' w_ret ?_)
  | (with_reducible refine' w_drop ?_)
  | (with_reducible refine' w_if ?_)
  | (with_reducible refine' w_next ?_)
  | (with_reducible refine' w_name ?_)
  | (with_reducible refine' w_sub ?_)
  | ((with_reducible refine' w_var ?hv ?_); (case hv => exact rfl))
  | (with_reducible refine' w_c ?_)
  | (with_reducible refine' w_op ?_)
  | (with_reducible refine' w_un ?_)
  | (with_reducible refine' w_ch ?_)
  | (with_reducible refine' w_I0 ?_)
  | ((with_reducible refine' w_I ?hc ?_); (case hc => first | (exact ly_mulL (by decide) (by decide)) | (exact ly_mulR (by decide) (by decide)) | (exact ly_mulL (by omega) (by omega)) | (show (_ : Int) ≠ 0; decide) | (show (_ : Int) ≠ 0; omega) | (exact ⟨by decide, by decide⟩) | (exact ⟨by omega, by omega⟩)))
  | (with_reducible refine' w_U ?_)
  | ((with_reducible refine' w_eq ?hs ?_); (case hs => exact rfl))
  | ((with_reducible refine' w_ne ?hs ?_); (case hs => exact rfl))
  | (with_reducible refine' w_isB ?_)
  | (with_reducible refine' w_notB ?_)
  | (with_reducible refine' w_nil ?_)
  | (with_reducible refine' w_cons ?_)
  | (with_reducible refine' w_tup ?_)
  | (with_reducible refine' w_lst ?_)
  | (with_reducible refine' w_cb ?_)
  | (with_reducible refine' w_call ?_)
  | (with_reducible refine' w_bm ?_)
  | (with_reducible refine' w_bm0 ?_)
  | ((with_reducible refine' w_app ?hh ?hz ?_); (case hh => walk_at "hp"); (case hz => first | exact ly_lt (by omega) | exact ly_lt (by simp only [List.length_append, List.length_map, List.length_cons, List.length_nil]; omega)))
  | ((with_reducible refine' w_popA ?hh ?_); (case hh => walk_at "hp"))
  | ((with_reducible refine' w_ext ?hh ?hh2 ?hz ?_); (case hh => walk_at "hp"); (case hh2 => walk_at "hp"))
  | ((with_reducible refine' w_ixL ?hh ?ha ?_); (case hh => walk_at "hp"); (case ha => first | exact rfl | exact at_map (by omega) | exact atI_last _ _ | ((refine' at_of ?ae ?ah); (case ah => assumption); (case ae => omega))))
  | ((with_reducible refine' w_ixT ?hh ?ha ?_); (case hh => walk_at "hp"); (case ha => first | exact rfl | exact at_map (by omega) | exact atI_last _ _ | ((refine' at_of ?ae ?ah); (case ah => assumption); (case ae => omega))))
  | ((with_reducible refine' w_cat ?hh ?hh2 ?hz ?_); (case hh => walk_at "hp"); (case hh2 => walk_at "hp"))
  | ((with_reducible refine' w_setL ?hh ?ha ?_); (case hh => walk_at "hp"); (case ha => exact rfl))
  | (with_reducible refine' w_test ?_)
  | (with_reducible refine' w_tB ?_)
  | (with_reducible refine' w_bl ?_)
  | (with_reducible refine' w_and ?_)
  | (with_reducible refine' w_or ?_)
  | (with_reducible refine' w_not ?_)
  | (with_reducible refine' w_andV ?_)
  | (with_reducible refine' w_orV ?_)
  | (with_reducible refine' w_notV ?_)
  | (with_reducible refine' w_ifE ?_)
  | (with_reducible refine' w_for ?_)
  | ((with_reducible refine' w_nin ?hh ?_); (case hh => walk_at "hp"))
  | ((with_reducible refine' w_sorted ?hh ?_); (case hh => walk_at "hp"))
  | (with_reducible refine' w_tsadd ?_)
  | ((with_reducible refine' w_tsadd1 ?hh ?_); (case hh => walk_at "hp"))
  | ((with_reducible refine' w_sadd ?hh ?hr ?_); (case hh => walk_at "hp"); (case hr => omega))
  | (with_reducible refine' w_iZ ?_)
  | ((with_reducible refine' w_iZ1 ?hh ?hh2 ?_); (case hh => walk_at "hp"); (case hh2 => walk_at "hp"))
  | (with_reducible refine' w_iS ?_)
  | (with_reducible refine' w_iS1 ?_)
  | ((with_reducible refine' w_gtup ?hh ?hn ?_); (case hh => walk_at "hp"); (case hn => exact rfl))
  | (with_reducible refine' w_gcons ?_)
  | (with_reducible refine' w_gnil ?_)
  | (with_reducible refine' w_js ?_)
  | (with_reducible refine' w_jsn ?_)
  | ((with_reducible refine' w_js1 ?hl ?_); (case hl => decide +kernel))
  | (with_reducible refine' w_fmt ?_)
  | ((with_reducible refine' w_fmt1 ?hl ?_); (case hl => decide +kernel))
  | (with_reducible refine' w_callS ?_)
  | ((with_reducible refine' w_truL ?hh ?_); (case hh => walk_at "hp"))
  | (with_reducible refine' w_lc ?_)
  | (with_reducible refine' w_yes ?_)
  | ((with_reducible refine' w_wipe ?he ?_); (case he => exact rfl))
  | (with_reducible refine' w_iL ?_)
  | (with_reducible refine' w_iT ?_)
  | (with_reducible refine' w_iR ?_)
  | ((with_reducible refine' w_iL1 ?hh ?_); (case hh => walk_at "hp"))
  | ((with_reducible refine' w_iT1 ?hh ?_); (case hh => walk_at "hp"))
  | ((with_reducible refine' w_iR1 ?h1 ?h2 ?_); (case h1 => omega); (case h2 => omega))
  | ((with_reducible refine' w_aug ?hv ?_); (case hv => exact rfl))
  | (with_reducible refine' w_ipI ?_)
  | ((with_reducible refine' w_isi ?hy ?hk ?_); (case hy => walk_at "ty"); (case hk => walk_at "kit"))
  | ((with_reducible refine' w_int ?_))
  | ((with_reducible refine' w_intB ?_))
  | ((with_reducible refine' w_abs ?_))
  | ((with_reducible refine' w_lenL ?hh ?_); (case hh => walk_at "hp"))
  | ((with_reducible refine' w_lenT ?hh ?_); (case hh => walk_at "hp"))
  | ((with_reducible refine' w_tupL ?hh ?_); (case hh => walk_at "hp"))
  | ((with_reducible refine' w_tupT ?hh ?_); (case hh => walk_at "hp"))
  | ((with_reducible refine' w_catA ?hh ?hh2 ?hz ?_); (case hh => walk_at "hp"); (case hh2 => walk_at "hp"); (case hz => walk_at "len"))
  | ((with_reducible refine' w_repB ?hh ?hne ?h2 ?h3 ?hz ?_); (case hh => walk_at "hp"); (case hne => simp); (case h2 => omega); (case h3 => omega); (case hz => exact Nat.le_of_ble_eq_true rfl))
  | ((with_reducible refine' w_eqN ?hh ?hh2 ?n1 ?n2 ?_); (case hh => walk_at "hp"); (case hh2 => walk_at "hp"); (case n1 => walk_at "nd"); (case n2 => walk_at "nd"))
  | ((with_reducible refine' w_neN ?hh ?hh2 ?n1 ?n2 ?_); (case hh => walk_at "hp"); (case hh2 => walk_at "hp"); (case n1 => walk_at "nd"); (case n2 => walk_at "nd"))
  | ((with_reducible refine' w_eqL ?hh ?hh2 ?n1 ?n2 ?_); (case hh => walk_at "hp"); (case hh2 => walk_at "hp"); (case n1 => walk_at "nd"); (case n2 => walk_at "nd"))
  | ((with_reducible refine' w_neL ?hh ?hh2 ?n1 ?n2 ?_); (case hh => walk_at "hp"); (case hh2 => walk_at "hp"); (case n1 => walk_at "nd"); (case n2 => walk_at "nd"))
  | ((with_reducible refine' w_neNon ?hh2 ?n2 ?_); (case hh2 => walk_at "hp"); (case n2 => walk_at "nd"))
  | ((with_reducible refine' w_eqNon ?hh2 ?n2 ?_); (case hh2 => walk_at "hp"); (case n2 => walk_at "nd"))
  | ((with_reducible refine' w_slA ?hh ?_); (case hh => walk_at "hp"))
  | ((with_reducible refine' w_disp ?hz ?_); (case hz => exact sz_of (Nat.le_of_ble_eq_true rfl)))
  | ((with_reducible refine' w_tyL ?hh ?_); (case hh => walk_at "hp"))
  | (with_reducible refine' iteT ?_)
  | (with_reducible refine' iteF ?_)
  | (with_reducible refine' w_nT ?_)
  | (with_reducible refine' w_nn ?_)
  | (with_reducible refine' w_nnT ?_)
  | (with_reducible refine' w_nnR ?_)
  | (with_reducible refine' w_neG ?_)
  | (with_reducible refine' w_eqG ?_)
  | (with_reducible refine' w_neS ?_)
  | (with_reducible refine' w_eqS ?_)
  | (with_reducible refine' w_neSb ?_)
  | (with_reducible refine' w_eqSb ?_)
  | (with_reducible refine' w_deIS ?_)
  | (with_reducible refine' w_deSI ?_)
  | (with_reducible refine' w_deISn ?_)
  | ((with_reducible refine' w_deST ?he ?_); (case he => decide +kernel))
  | ((with_reducible refine' w_deSF ?he ?_); (case he => decide +kernel))
  | ((with_reducible refine' w_deSTn ?he ?_); (case he => decide +kernel))
  | ((with_reducible refine' w_deSFn ?he ?_); (case he => decide +kernel))
  | (with_reducible refine' w_nF ?_)
  | dsimp only [Bool.not_true, Bool.not_false])
local macro_rules | `(tactic| walk_at "ty") => `(tactic| first
  | exact .base (.int _) | exact .base (.str _) | exact .base (.bl _) | exact .base .non
  | ((refine' tyx_t ?hq); (case hq => walk_at "hp")) | ((refine' tyx_l ?hq); (case hq => walk_at "hp")) | ((refine' .base (.tup ?hq)); (case hq => walk_at "hp")) | assumption)
local macro_rules | `(tactic| walk_at "go") => `(tactic| repeat walk_at "go1")
local macro_rules | `(tactic| walk_at "st") => `(tactic| try dsimp only [cxOf, Cx.nox, Cx.wish])
local macro_rules | `(tactic| walk_at "kit") => `(tactic| with_reducible first | exact kit_int_int | exact kit_int_str | exact kit_int_bool | exact kit_int_tuple | exact kit_int_list | exact kit_str_int | exact kit_str_str | exact kit_str_bool | exact kit_str_tuple | exact kit_str_list | exact kit_bool_int | exact kit_bool_str | exact kit_bool_bool | exact kit_bool_tuple | exact kit_bool_list | exact kit_NoneType_int | exact kit_NoneType_str | exact kit_NoneType_bool | exact kit_NoneType_tuple | exact kit_NoneType_list | exact kit_list_int | exact kit_list_str | exact kit_list_bool | exact kit_list_tuple | exact kit_list_list | exact kit_tuple_int | exact kit_tuple_str | exact kit_tuple_bool | exact kit_tuple_tuple | exact kit_tuple_list)
local macro_rules | `(tactic| walk_at "nd") => `(tactic| first
  | assumption
  | exact Tm.nds _
  | exact Nds.nil
  | exact Nds.ofInts _
  | ((refine' Nds.cons ?na ?nb); (case na => first | exact Nds.I _ | exact Nds.L | exact Nds.A); (case nb => walk_at "nd"))
  | ((refine' Nds.app ?na ?nb); (case na => walk_at "nd"); (case nb => walk_at "nd"))
  | ((refine' Nds.rep ?na _); (case na => walk_at "nd")))
local macro_rules | `(tactic| walk_at "len") => `(tactic| first
  | exact ly_sz (by omega)
  | ((simp only [List.length_append, List.length_cons, List.length_nil, List.length_map, PyProof.Rows.lm_len_rep_flat]); exact ly_sz (by omega)))
local macro_rules | `(tactic| walk_at "go1") => `(tactic| first
  | (with_reducible refine' w_kget2 ?_)
  | (with_reducible refine' w_isRN ?_)
  | (with_reducible refine' w_isNN ?_)
  | (with_reducible refine' w_isIN ?_)
  | ((with_reducible refine' w_kg ?hd ?_); (case hd => assumption)))
local macro_rules | `(tactic| walk_at "go1") => `(tactic| first
  | ((with_reducible refine' w_extT ?hh ?hh2 ?hz ?_); (case hh => walk_at "hp"); (case hh2 => walk_at "hp"))
  | ((with_reducible refine' w_I ?hc ?_); (case hc => exact ⟨by decide, by decide, by decide⟩))
  | (with_reducible refine' w_sl ?_)
  | (with_reducible refine' w_noP ?_)
  | (with_reducible refine' w_part ?_)
  | (with_reducible refine' w_part1 ?_)
  | (with_reducible refine' w_it ?_)
  | (with_reducible refine' w_it1 ?_)
  | ((with_reducible refine' w_lenZ ?hz ?_); (case hz => omega))
  | ((with_reducible refine' w_addZb ?hz ?_); (case hz => omega))
  | ((with_reducible refine' w_addZf ?hz ?_); (case hz => omega))
  | ((with_reducible refine' w_addZa ?hz ?_); (case hz => omega))
  | ((with_reducible refine' w_inS ?hh ?_); (case hh => walk_at "hp"))
  | ((with_reducible refine' w_ixT ?hh ?ha ?_); (case hh => assumption); (case ha => exact atI_nat (by assumption))))
local macro_rules | `(tactic| walk_at "go1") => `(tactic| first
  | (with_reducible refine' w_iR2 ?_)
  | ((with_reducible refine' w_iR21 ?h1 ?h2 ?h3 ?h4 ?_); (case h1 => omega); (case h2 => omega); (case h3 => omega); (case h4 => omega))
  | (with_reducible refine' w_nnI ?_)
  | (with_reducible refine' w_max ?_)
  | (with_reducible refine' w_break ?_)
  | (with_reducible refine' w_cont ?_))
section
variable {P : Program} {w : World} {K : PySem.W.Frag} {mg : Str → Option Value} {base : Heap} {tk : Nat → Tok} {cl : Nat → Addr}
def spTold (K : PySem.W.Frag) (PT : Addr) : Sp := fun vs H Q _ => ∃ (a b : Addr) (t : Tm) (fs : List (List Nat)), vs = [.ref a, .ref b] ∧ SqX H a t.enc ∧ t.enc.length ≤ 1000 ∧ H b = some (.lst (plcs fs)) ∧ fs.length ≤ 1000 ∧ (∀ w ∈ fs, w.length ≤ 1000000) ∧ GxR.TabG H PT ∧
  (NmOk fs → okF fs.length 0 t → ∀ H' bs m, Tb PT H H' → bs = own fs m → bs.length = t.lams → m ≤ t.lams + fs.length → Q (.str (pl (shw bs fs 0 t))) H') ∧ (¬ (NmOk fs ∧ okF fs.length 0 t) → ∀ H', Tb PT H H' → Q .non H')
theorem ok_told {f : Addr} {fd : FuncData} {PT : Addr} (F : Fun K "_law_told" "_law_told" s_law_told f fd) (T : Txt w K mg tk cl) (D1 : Def P w K mg base (L2.CX P w) 6 "show" ["term", "names"] (spShow K PT (cl 5))) : FnOk P w K mg base CX0 7 f fd ["term", "names"] (spTold K PT) := by
  obtain ⟨f1, fd1, g_show, kp_show, b_show, G_show⟩ := D1
  refine F.ok sc_law_told (fun vs H Q E h => ?_) (fun cdv A outer s H vs Q E hr h => ?_)
  · obtain ⟨a, b, t, fs, rfl, _⟩ := h
    rfl
  · obtain ⟨a, b, t, fs, rfl, hS, hlen, hb, hl, hwl, ht, q, x⟩ := h
    refine ⟨_, (pss_cons (ps_try_as (i := 2) rfl rfl sc_law_told.nd rfl rfl ⟨rfl, by decide, .inl T.g_BadNames⟩ takes0 (fun W pn xe tk po => (pss_one (ps_ret (pe_callS G_show (hr.mono (by first | decide | omega)) (by rfl) g_show kp_show b_show (fun σ => passAt tk σ) (pa_cons (pv 0) (pa_cons (pv 1) pa_nil)))))) (fun a oe cls d pn hz hf => (pss_one (ps_if (pt_val (pe_callB (call_isEa hz hf) (by rfl) T.n_isinstance (by decide +kernel) (pa_cons (pv 2) (pa_cons (pe_glob (v := .ref (cl 0)) (by rfl) T.g_LyditeError (by rfl)) pa_nil)))) (pss_one (ps_ret pe_non)) pss_nil)))) (pss_one (ps_ret pe_int))), ?_⟩
    refine sl_of (σ2 := [some _, some _, none]) rfl ?_
    walk_at "st"
    walk_at "go"
    refine ⟨a, b, t, fs, rfl, hS, hlen, hb, hl, hwl, ht, fun h1 h2 H' bs m t' e1 e2 e3 => ?_, fun hno H' t' => ?_⟩
    · walk_at "go"
      exact q h1 h2 H' bs m t' e1 e2 e3
    · refine ⟨true, T.e_BadNames_BadNames, fun _ a1 ha1 => ?_, fun z => nomatch z⟩
      walk_at "go"
      refine ⟨cl 5, rfl, rfl, T.exc_BadNames, .ref (cl 0), .ref (cl 0), true, rfl, fun u r => r, T.i_BadNames_L, ?_⟩
      walk_at "go"
      exact x hno H' t'
end
end Ly
set_option Elab.async false
set_option linter.all false
set_option maxRecDepth 100000
set_option maxHeartbeats 8000000
namespace Ly
open PySem PySem.Spec PyProof.Rows L2 Evl
local macro_rules | `(tactic| walk_at "ne") => `(tactic| first
  | assumption
  | ((refine' Ne.symm ?hq); (case hq => assumption))
  | ((refine' ne_of_none ?nh1 ?nh2); (case nh2 => assumption); (case nh1 => walk_at "hp"))
  | ((refine' Ne.symm (ne_of_none ?nh1 ?nh2)); (case nh2 => assumption); (case nh1 => walk_at "hp")))
local macro_rules | `(tactic| walk_at "hp") => `(tactic| first
  | assumption
  | exact upd_same
  | ((refine' SqL.of ?hq); (case hq => walk_at "hp"))
  | ((refine' SqT.of ?hq); (case hq => walk_at "hp"))
  | ((refine' (upd_ne ?hne).trans ?hrest); (case hne => walk_at "ne"); (case hrest => walk_at "hp"))
  | ((refine' ly_at ?hex ?hh); (case hex => assumption); (case hh => walk_at "hp"))
  | ((refine' ly_atF ?hex ?hnn ?hh); (case hex => assumption); (case hh => walk_at "hp"); (case hnn => walk_at "ne"))
  | ((refine' ex_t ?hex ?hh); (case hh => assumption); (case hex => walk_at "ex"))
  | ((refine' ex_l ?hex ?hh); (case hh => assumption); (case hex => walk_at "ex")))
local macro_rules | `(tactic| walk_at "ex") => `(tactic| first
  | assumption
  | exact Ex.refl _
  | ((refine' ex_new ?xa ?xb); (case xb => assumption); (case xa => walk_at "ex"))
  | ((refine' ex_upd ?xa ?xb); (case xb => walk_at "free"); (case xa => walk_at "ex"))
  | ((refine' Ex.trans ?xa ?xb); (case xb => assumption); (case xa => walk_at "ex")))
local macro_rules | `(tactic| walk_at "free") => `(tactic| first
  | assumption
  | ((refine' fresh_back ?xa ?xb); (case xb => assumption); (case xa => walk_at "ex")))
local macro_rules | `(tactic| walk_at "fr") => `(tactic| first
  | assumption
  | exact Fr.refl _ _
  | ((refine' Fr.own ?hq); (case hq => walk_at "fr"))
  | ((refine' Fr.new ?xa ?xb); (case xb => assumption); (case xa => walk_at "fr"))
  | ((refine' Fr.mut ?xa ?xb); (case xb => assumption); (case xa => walk_at "fr"))
  | ((refine' Fr.trans ?xa ?xb); (case xb => assumption); (case xa => walk_at "fr"))
  | ((refine' Fr.trans ?xa (Fr.ex ?xb)); (case xb => assumption); (case xa => walk_at "fr")))
local macro_rules | `(tactic| walk_at "go1") => `(tactic| first
  | (with_reducible refine' w_seq ?_)
  | (with_reducible refine' w_asg ?_)
  | (with_reducible refine' w_ret ?_)
  | (with_reducible refine' w_drop ?_)
  | (with_reducible refine' w_if ?_)
  | (with_reducible refine' w_next ?_)
  | (with_reducible refine' w_name ?_)
  | (with_reducible refine' w_sub ?_)
  | ((with_reducible refine' w_var ?hv ?_); (case hv => exact rfl))
  | (with_reducible refine' w_c ?_)
  | (with_reducible refine' w_op ?_)
  | (with_reducible refine' w_un ?_)
  | (with_reducible refine' w_ch ?_)
  | (with_reducible refine' w_I0 ?_)
  | ((with_reducible refine' w_I ?hc ?_); (case hc => first | (exact ly_mulL (by decide) (by decide)) | (exact ly_mulR (by decide) (by decide)) | (exact ly_mulL (by omega) (by omega)) | (show (_ : Int) ≠ 0; decide) | (show (_ : Int) ≠ 0; omega) | (exact ⟨by decide, by decide⟩) | (exact ⟨by omega, by omega⟩)))
  | (with_reducible refine' w_U ?_)
  | ((with_reducible refine' w_eq ?hs ?_); (case hs => exact rfl))
  | ((with_reducible refine' w_ne ?hs ?_); (case hs => exact rfl))
  | (with_reducible refine' w_isB ?_)
  | (with_reducible refine' w_notB ?_)
  | (with_reducible refine' w_nil ?_)
  | (with_reducible refine' w_cons ?_)
  | (with_reducible refine' w_tup ?_)
  | (with_reducible refine' w_lst ?_)
  | (with_reducible refine' w_cb ?_)
  | (with_reducible refine' w_call ?_)
  | (with_reducible refine' w_bm ?_)
  | (with_reducible refine' w_bm0 ?_)
  | ((with_reducible refine' w_app ?hh ?hz ?_); (case hh => walk_at "hp"); (case hz => first | exact ly_lt (by omega) | exact ly_lt (by simp only [List.length_append, List.length_map, List.length_cons, List.length_nil]; omega)))
  | ((with_reducible refine' w_popA ?hh ?_); (case hh => walk_at "hp"))
  | ((with_reducible refine' w_ext ?hh ?hh2 ?hz ?_); (case hh => walk_at "hp"); (case hh2 => walk_at "hp"))
  | ((with_reducible refine' w_ixL ?hh ?ha ?_); (case hh => walk_at "hp"); (case ha => first | exact rfl | exact at_map (by omega) | exact atI_last _ _ | ((refine' at_of ?ae ?ah); (case ah => assumption); (case ae => omega))))
  | ((with_reducible refine' w_ixT ?hh ?ha ?_); (case hh => walk_at "hp"); (case ha => first | exact rfl | exact at_map (by omega) | exact atI_last _ _ | ((refine' at_of ?ae ?ah); (case ah => assumption); (case ae => omega))))
  | ((with_reducible refine' w_cat ?hh ?hh2 ?hz ?_); (case hh => walk_at "hp"); (case hh2 => walk_at "hp"))
  | ((with_reducible refine' w_setL ?hh ?ha ?_); (case hh => walk_at "hp"); (case ha => exact rfl))
  | (with_reducible refine' w_test ?_)
  | (with_reducible refine' w_tB ?_)
  | (with_reducible refine' w_bl ?_)
  | (with_reducible refine' w_and ?_)
  | (with_reducible refine' w_or ?_)
  | (with_reducible refine' w_not ?_)
  | (with_reducible refine' w_andV ?_)
  | (with_reducible refine' w_orV ?_)
  | (with_reducible refine' w_notV ?_)
  | (with_reducible refine' w_ifE ?_)
  | (with_reducible refine' w_for ?_)
  | ((with_reducible refine' w_nin ?hh ?_); (case hh => walk_at "hp"))
  | ((with_reducible refine' w_sorted ?hh ?_); (case hh => walk_at "hp"))
  | (with_reducible refine' w_tsadd ?_)
  | ((with_reducible refine' w_tsadd1 ?hh ?_); (case hh => walk_at "hp"))
  | ((with_reducible refine' w_sadd ?hh ?hr ?_); (case hh => walk_at "hp"); (case hr => omega))
  | (with_reducible refine' w_iZ ?_)
  | ((with_reducible refine' w_iZ1 ?hh ?hh2 ?_); (case hh => walk_at "hp"); (case hh2 => walk_at "hp"))
  | (with_reducible refine' w_iS ?_)
  | (with_reducible refine' w_iS1 ?_)
  | ((with_reducible refine' w_gtup ?hh ?hn ?_); (case hh => walk_at "hp"); (case hn => exact rfl))
  | (with_reducible refine' w_gcons ?_)
  | (with_reducible refine' w_gnil ?_)
  | (with_reducible refine' w_js ?_)
  | (with_reducible refine' w_jsn ?_)
  | ((with_reducible refine' w_js1 ?hl ?_); (case hl => decide +kernel))
  | (with_reducible refine' w_fmt ?_)
  | ((with_reducible refine' w_fmt1 ?hl ?_); (case hl => decide +kernel))
  | (with_reducible refine' w_callS ?_)
  | ((with_reducible refine' w_truL ?hh ?_); (case hh => walk_at "hp"))
  | (with_reducible refine' w_lc ?_)
  | (with_reducible refine' w_yes ?_)
  | ((with_reducible refine' w_wipe ?he ?_); (case he => exact rfl))
  | (with_reducible refine' w_iL ?_)
  | (with_reducible refine' w_iT ?_)
  | (with_reducible refine' w_iR ?_)
  | ((with_reducible refine' w_iL1 ?hh ?_); (case hh => walk_at "hp"))
  | ((with_reducible refine' w_iT1 ?hh ?_); (case hh => walk_at "hp"))
  | ((with_reducible refine' w_iR1 ?h1 ?h2 ?_); (case h1 => omega); (case h2 => omega))
  | ((with_reducible refine' w_aug ?hv ?_); (case hv => exact rfl))
  | (with_reducible refine' w_ipI ?_)
  | ((with_reducible refine' w_isi ?hy ?hk ?_); (case hy => walk_at "ty"); (case hk => walk_at "kit"))
  | ((with_reducible refine' w_int ?_))
  | ((with_reducible refine' w_intB ?_))
  | ((with_reducible refine' w_abs ?_))
  | ((with_reducible refine' w_lenL ?hh ?_); (case hh => walk_at "hp"))
  | ((with_reducible refine' w_lenT ?hh ?_); (case hh => walk_at "hp"))
  | ((with_reducible refine' w_tupL ?hh ?_); (case hh => walk_at "hp"))
  | ((with_reducible refine' w_tupT ?hh ?_); (case hh => walk_at "hp"))
  | ((with_reducible refine' w_catA ?hh ?hh2 ?hz ?_); (case hh => walk_at "hp"); (case hh2 => walk_at "hp"); (case hz => walk_at "len"))
  | ((with_reducible refine' w_repB ?hh ?hne ?h2 ?h3 ?hz ?_); (case hh => walk_at "hp"); (case hne => simp); (case h2 => omega); (case h3 => omega); (case hz => exact Nat.le_of_ble_eq_true rfl))
  | ((with_reducible refine' w_eqN ?hh ?hh2 ?n1 ?n2 ?_); (case hh => walk_at "hp"); (case hh2 => walk_at "hp"); (case n1 => walk_at "nd"); (case n2 => walk_at "nd"))
  | ((with_reducible refine' w_neN ?hh ?hh2 ?n1 ?n2 ?_); (case hh => walk_at "hp"); (case hh2 => walk_at "hp"); (case n1 => walk_at "nd"); (case n2 => walk_at "nd"))
  | ((with_reducible refine' w_eqL ?hh ?hh2 ?n1 ?n2 ?_); (case hh => walk_at "hp"); (case hh2 => walk_at "hp"); (case n1 => walk_at "nd"); (case n2 => walk_at "nd"))
  | ((with_reducible refine' w_neL ?hh ?hh2 ?n1 ?n2 ?_); (case hh => walk_at "hp"); (case hh2 => walk_at "hp"); (case n1 => walk_at "nd"); (case n2 => walk_at "nd"))
  | ((with_reducible refine' w_neNon ?hh2 ?n2 ?_); (case hh2 => walk_at "hp"); (case n2 => walk_at "nd"))
  | ((with_reducible refine' w_eqNon ?hh2 ?n2 ?_); (case hh2 => walk_at "hp"); (case n2 => walk_at "nd"))
  | ((with_reducible refine' w_slA ?hh ?_); (case hh => walk_at "hp"))
  | ((with_reducible refine' w_disp ?hz ?_); (case hz => exact sz_of (Nat.le_of_ble_eq_true rfl)))
  | ((with_reducible refine' w_tyL ?hh ?_); (case hh => walk_at "hp"))
  | (with_reducible refine' iteT ?_)
  | (with_reducible refine' iteF ?_)
  | (with_reducible refine' w_nT ?_)
  | (with_reducible refine' w_nn ?_)
  | (with_reducible refine' w_nnT ?_)
  | (with_reducible refine' w_nnR ?_)
  | (with_reducible refine' w_neG ?_)
  | (with_reducible refine' w_eqG ?_)
  | (with_reducible refine' w_neS ?_)
  | (with_reducible refine' w_eqS ?_)
  | (with_reducible refine' w_neSb ?_)
  | (with_reducible refine' w_eqSb ?_)
  | (with_reducible refine' w_deIS ?_)
  | (with_reducible refine' w_deSI ?_)
  | (with_reducible refine' w_deISn ?_)
  | ((with_reducible refine' w_deST ?he ?_); (case he => decide +kernel))
  | ((with_reducible refine' w_deSF ?he ?_); (case he => decide +kernel))
  | ((with_reducible refine' w_deSTn ?he ?_); (case he => decide +kernel))
  | ((with_reducible refine' w_deSFn ?he ?_); (case he => decide +kernel))
  | (with_reducible refine' w_nF ?_)
  | dsimp only [Bool.not_true, Bool.not_false])
local macro_rules | `(tactic| walk_at "ty") => `(tactic| first
  | exact .base (.int _) | exact .base (.str _) | exact .base (.bl _) | exact .base .non
  | ((refine' tyx_t ?hq); (case hq => walk_at "hp")) | ((refine' tyx_l ?hq); (case hq => walk_at "hp")) | ((refine' .base (.tup ?hq)); (case hq => walk_at "hp")) | assumption)
local macro_rules | `(tactic| walk_at "go") => `(tactic| repeat walk_at "go1")
local macro_rules | `(tactic| walk_at "st") => `(tactic| try dsimp only [cxOf, Cx.nox, Cx.wish])
local macro_rules | `(tactic| walk_at "kit") => `(tactic| with_reducible first | exact kit_int_int | exact kit_int_str | exact kit_int_bool | exact kit_int_tuple | exact kit_int_list | exact kit_str_int | exact kit_str_str | exact kit_str_bool | exact kit_str_tuple | exact kit_str_list | exact kit_bool_int | exact kit_bool_str | exact kit_bool_bool | exact kit_bool_tuple | exact kit_bool_list | exact kit_NoneType_int | exact kit_NoneType_str | exact kit_NoneType_bool | exact kit_NoneType_tuple | exact kit_NoneType_list | exact kit_list_int | exact kit_list_str | exact kit_list_bool | exact kit_list_tuple | exact kit_list_list | exact kit_tuple_int | exact kit_tuple_str | exact kit_tuple_bool | exact kit_tuple_tuple | exact kit_tuple_list)
local macro_rules | `(tactic| walk_at "nd") => `(tactic| first
  | assumption
  | exact Tm.nds _
  | exact Nds.nil
  | exact Nds.ofInts _
  | ((refine' Nds.cons ?na ?nb); (case na => first | exact Nds.I _ | exact Nds.L | exact Nds.A); (case nb => walk_at "nd"))
  | ((refine' Nds.app ?na ?nb); (case na => walk_at "nd"); (case nb => walk_at "nd"))
  | ((refine' Nds.rep ?na _); (case na => walk_at "nd")))
local macro_rules | `(tactic| walk_at "len") => `(tactic| first
  | exact ly_sz (by omega)
  | ((simp only [List.length_append, List.length_cons, List.length_nil, List.length_map, PyProof.Rows.lm_len_rep_flat]); exact ly_sz (by omega)))
local macro_rules | `(tactic| walk_at "go1") => `(tactic| first
  | (with_reducible refine' w_kget2 ?_)
  | (with_reducible refine' w_isRN ?_)
  | (with_reducible refine' w_isNN ?_)
  | (with_reducible refine' w_isIN ?_)
  | ((with_reducible refine' w_kg ?hd ?_); (case hd => assumption)))
local macro_rules | `(tactic| walk_at "go1") => `(tactic| first
  | ((with_reducible refine' w_extT ?hh ?hh2 ?hz ?_); (case hh => walk_at "hp"); (case hh2 => walk_at "hp"))
  | ((with_reducible refine' w_I ?hc ?_); (case hc => exact ⟨by decide, by decide, by decide⟩))
  | (with_reducible refine' w_sl ?_)
  | (with_reducible refine' w_noP ?_)
  | (with_reducible refine' w_part ?_)
  | (with_reducible refine' w_part1 ?_)
  | (with_reducible refine' w_it ?_)
  | (with_reducible refine' w_it1 ?_)
  | ((with_reducible refine' w_lenZ ?hz ?_); (case hz => omega))
  | ((with_reducible refine' w_addZb ?hz ?_); (case hz => omega))
  | ((with_reducible refine' w_addZf ?hz ?_); (case hz => omega))
  | ((with_reducible refine' w_addZa ?hz ?_); (case hz => omega))
  | ((with_reducible refine' w_inS ?hh ?_); (case hh => walk_at "hp"))
  | ((with_reducible refine' w_ixT ?hh ?ha ?_); (case hh => assumption); (case ha => exact atI_nat (by assumption))))
local macro_rules | `(tactic| walk_at "go1") => `(tactic| first
  | (with_reducible refine' w_iR2 ?_)
  | ((with_reducible refine' w_iR21 ?h1 ?h2 ?h3 ?h4 ?_); (case h1 => omega); (case h2 => omega); (case h3 => omega); (case h4 => omega))
  | (with_reducible refine' w_nnI ?_)
  | (with_reducible refine' w_max ?_)
  | (with_reducible refine' w_break ?_)
  | (with_reducible refine' w_cont ?_))
local macro_rules | `(tactic| walk_at "go1") => `(tactic| first
  | (with_reducible refine' w_m1 ?_)
  | (with_reducible refine' w_m11 ?_)
  | (with_reducible refine' w_st2 ?_)
  | (with_reducible refine' w_sg ?_)
  | (with_reducible refine' w_sg2 ?_)
  | (with_reducible refine' w_sgSp ?_)
  | ((with_reducible refine' w_lcnt ?hh ?_); (case hh => walk_at "hp")))
local macro_rules | `(tactic| walk_at "go1") => `(tactic| first
  | (with_reducible refine' w_bmX ?_)
  | ((with_reducible refine' w_bmX1 ?hh ?_); (case hh => assumption))
  | ((with_reducible refine' w_tcnt ?hh ?hn ?_); (case hh => walk_at "hp"); (case hn => walk_at "nd")))
section
variable {P : Program} {w : World} {K : PySem.W.Frag} {mg : Str → Option Value} {base : Heap} {tk : Nat → Tok} {cl : Nat → Addr}
abbrev Gw (w : List Nat) : Prop := w.length ≤ 20 ∧ ∀ c ∈ w, c < 200
def rows13 : List (List Nat) := [[120], [97], [98], [121, 50], [99], [97, 49], [122], [100], [98, 49, 50, 51, 52, 53, 54, 55, 56, 57], [120, 48], [122, 48, 57], [97, 48, 48], [98, 49]]
def wrong13 : List (List Nat) := [[65], [], [49, 97], [97, 32, 98], [120, 95], [98, 49, 50, 51, 52, 53, 54, 55, 56, 57, 48], [97, 97], [99, 45], [97, 10], [48], [120, 48, 121]]
theorem rows13_eq : [V.str "x", V.str "a", V.str "b", V.str "y2", V.str "c", V.str "a1", V.str "z", V.str "d", V.str "b123456789", V.str "x0", V.str "z09", V.str "a00", V.str "b1"] = plcs rows13 := by decide +kernel
theorem wrong13_eq : [V.str "A", V.str "", V.str "1a", V.str "a b", V.str "x_", V.str "b1234567890", V.str "aa", V.str "c-", V.str "a\n", V.str "0", V.str "x0y"] = plcs wrong13 := by decide +kernel
/-- the names serve -/
def nokB (fs : List (List Nat)) : Bool := fs.all nmB && fs.all fun w => fs.count w == 1
theorem nokB_iff (fs : List (List Nat)) : nokB fs = true ↔ NmOk fs := by
  unfold nokB NmOk Nms
  rw [Bool.and_eq_true, List.all_eq_true, List.all_eq_true]
  refine and_congr Iff.rfl ⟨fun h => ?_, fun h w hw => ?_⟩
  · refine List.nodup_iff_count.mpr fun w => ?_
    by_cases hw : w ∈ fs
    · have := h w hw
      simp at this
      omega
    · rw [List.count_eq_zero.mpr hw]
      exact Nat.zero_le _
  · have h1 := List.nodup_iff_count.mp h w
    have h2 := List.count_pos_iff.mpr hw
    simp
    omega
def spLaw (K : PySem.W.Frag) (PT : Addr) : Sp := fun vs H Q _ => ∃ (a : Addr) (ns : List Int), vs = [.ref a] ∧ SqL K H a (ns.map V.int) ∧ ns.length ≤ 63 ∧ GxR.TabG H PT ∧ ∀ H', Q (.bl true) H'
theorem ok_law {f : Addr} {fd : FuncData} {PT : Addr} (F : Fun K "law" "law" s_law f fd) (T : Txt w K mg tk cl)
    (D1 : Def P w K mg base CX0 1 "_law_stream" ["script"] (spStream K)) (D2 : Def P w K mg base CX0 1 "_law_draw" ["stream", "many"] spDraw) (D3 : Def P w K mg base CX0 2 "_law_term" ["stream", "size", "loose"] spTerm)
    (D4 : Def P w K mg base CX0 1 "_law_depths" ["term"] (spDepths K)) (D5 : Def P w K mg base CX0 1 "_law_is_name" ["name"] spLIsName) (D6 : Def P w K mg base CX0 7 "_law_told" ["term", "names"] (spTold K PT))
    (D7 : Def P w K mg base CX0 52 "_law_shown" ["term", "at", "depth", "own", "names"] (spLShown K 51)) (D8 : Def P w K mg base CX0 1 "_law_own_names" ["names", "many"] spLOwn) : FnOk P w K mg base CX0 60 f fd ["script"] (spLaw K PT) := by
  obtain ⟨f1, fd1, g_law_stream, kp_law_stream, b_law_stream, G_law_stream⟩ := D1
  obtain ⟨f2, fd2, g_law_draw, kp_law_draw, b_law_draw, G_law_draw⟩ := D2
  obtain ⟨f3, fd3, g_law_term, kp_law_term, b_law_term, G_law_term⟩ := D3
  obtain ⟨f4, fd4, g_law_depths, kp_law_depths, b_law_depths, G_law_depths⟩ := D4
  obtain ⟨f5, fd5, g_law_is_name, kp_law_is_name, b_law_is_name, G_law_is_name⟩ := D5
  obtain ⟨f6, fd6, g_law_told, kp_law_told, b_law_told, G_law_told⟩ := D6
  obtain ⟨f7, fd7, g_law_shown, kp_law_shown, b_law_shown, G_law_shown⟩ := D7
  obtain ⟨f8, fd8, g_law_own_names, kp_law_own_names, b_law_own_names, G_law_own_names⟩ := D8
  refine F.ok sc_law (fun vs H Q E h => ?_) (fun cdv A outer s H vs Q E hr h => ?_)
  · obtain ⟨a, ns, rfl, _⟩ := h
    rfl
  · obtain ⟨a, ns, rfl, hS, hlen, tab, q⟩ := h
    refine ⟨_, (pss_cons (ps_set (i := 1) sc_law.nd rfl (.inl rfl) (pe_call G_law_stream (hr.mono (by first | decide | omega)) (by rfl) g_law_stream kp_law_stream b_law_stream .nil pass0 (pa_cons (pv 0) pa_nil))) (pss_cons (ps_set (i := 2) sc_law.nd rfl (.inl rfl) (pe_lst (pa_cons pe_str (pa_cons pe_str (pa_cons pe_str (pa_cons pe_str (pa_cons pe_str (pa_cons pe_str (pa_cons pe_str (pa_cons pe_str (pa_cons pe_str (pa_cons pe_str (pa_cons pe_str (pa_cons pe_str (pa_cons pe_str pa_nil))))))))))))))) (pss_cons (ps_set (i := 3) sc_law.nd rfl (.inr rfl) (pe_lst pa_nil)) (pss_cons (ps_for PassesOwn.never rfl (pi_range1 (by rfl) T.n_range (pa_cons (pe_call G_law_draw (hr.mono (by first | decide | omega)) (by rfl) g_law_draw kp_law_draw b_law_draw .nil pass0 (pa_cons (pv 1) (pa_cons pe_int pa_nil))) pa_nil)) (pg_name (i := 4) sc_law.nd rfl (.inl rfl)) (pss_one (ps_expr (pe_bm PySem.F.plainAttrs_list PySem.F.slot_list_append PySem.F.type_list_append mt_append (pv 3) (pa_cons (pe_bm PySem.F.plainAttrs_list PySem.F.slot_list_pop PySem.F.type_list_pop mt_popAt (pv 2) (pa_cons (pe_call G_law_draw (hr.mono (by first | decide | omega)) (by rfl) g_law_draw kp_law_draw b_law_draw .nil pass0 (pa_cons (pv 1) (pa_cons (pe_callB call_len_seq (by rfl) T.n_len (by decide +kernel) (pa_cons (pv 2) pa_nil)) pa_nil))) pa_nil)) pa_nil))))) (pss_cons (ps_set (i := 5) sc_law.nd rfl (.inl rfl) (pe_call G_law_term (hr.mono (by first | decide | omega)) (by rfl) g_law_term kp_law_term b_law_term .nil pass0 (pa_cons (pv 1) (pa_cons (pe_op op_add pe_int (pe_call G_law_draw (hr.mono (by first | decide | omega)) (by rfl) g_law_draw kp_law_draw b_law_draw .nil pass0 (pa_cons (pv 1) (pa_cons pe_int pa_nil)))) (pa_cons (pe_call G_law_draw (hr.mono (by first | decide | omega)) (by rfl) g_law_draw kp_law_draw b_law_draw .nil pass0 (pa_cons (pv 1) (pa_cons pe_int pa_nil))) pa_nil))))) (pss_cut (ps_if (pt_cmpR op_eq (pe_call G_law_draw (hr.mono (by first | decide | omega)) (by rfl) g_law_draw kp_law_draw b_law_draw .nil pass0 (pa_cons (pv 1) (pa_cons pe_int pa_nil))) pe_int (nomark _)) (pss_cons (ps_set (i := 6) sc_law.nd rfl (.inl rfl) (pe_op op_add pe_int (pe_call G_law_draw (hr.mono (by first | decide | omega)) (by rfl) g_law_draw kp_law_draw b_law_draw .nil pass0 (pa_cons (pv 1) (pa_cons pe_int pa_nil))))) (pss_one (ps_set (i := 5) sc_law.nd rfl (.inl rfl) (pe_op op_catF (pe_op op_repB (pe_tup (pa_cons pe_str pa_nil)) (pv 6)) (pe_tup (pa_cons pe_str (pa_cons (pe_call G_law_draw (hr.mono (by first | decide | omega)) (by rfl) g_law_draw kp_law_draw b_law_draw .nil pass0 (pa_cons (pv 1) (pa_cons (pv 6) pa_nil))) (pa_cons pe_str (pa_cons (pe_call G_law_draw (hr.mono (by first | decide | omega)) (by rfl) g_law_draw kp_law_draw b_law_draw .nil pass0 (pa_cons (pv 1) (pa_cons (pe_op op_add (pv 6) pe_int) pa_nil))) pa_nil))))))))) pss_nil) (pss_cut (ps_if (pt_cmpR op_eq (pe_call G_law_draw (hr.mono (by first | decide | omega)) (by rfl) g_law_draw kp_law_draw b_law_draw .nil pass0 (pa_cons (pv 1) (pa_cons pe_int pa_nil))) pe_int (nomark _)) (pss_cons (ps_set (i := 7) sc_law.nd rfl (.inl rfl) (pe_ix ix_list (pe_lst (pa_cons pe_str (pa_cons pe_str (pa_cons pe_str (pa_cons pe_str (pa_cons pe_str (pa_cons pe_str (pa_cons pe_str (pa_cons pe_str (pa_cons pe_str (pa_cons pe_str (pa_cons pe_str pa_nil)))))))))))) (pe_call G_law_draw (hr.mono (by first | decide | omega)) (by rfl) g_law_draw kp_law_draw b_law_draw .nil pass0 (pa_cons (pv 1) (pa_cons pe_int pa_nil))) (fun _ _ => rfl))) (pss_cut (ps_if (PW.pt (pw_and (pt_truth (pv 3) (by intro _; rfl)) (pw_and1 (pt_cmpR op_eq (pe_call G_law_draw (hr.mono (by first | decide | omega)) (by rfl) g_law_draw kp_law_draw b_law_draw .nil pass0 (pa_cons (pv 1) (pa_cons pe_int pa_nil))) pe_int (nomark _))))) (pss_one (ps_set (i := 7) sc_law.nd rfl (.inl rfl) (pe_ix ix_list (pv 3) pe_int (fun _ _ => rfl)))) pss_nil) (pss_cons (ps_set (i := 8) sc_law.nd rfl (.inl rfl) (pe_call G_law_draw (hr.mono (by first | decide | omega)) (by rfl) g_law_draw kp_law_draw b_law_draw .nil pass0 (pa_cons (pv 1) (pa_cons (pe_op op_add (pe_callB call_len_seq (by rfl) T.n_len (by decide +kernel) (pa_cons (pv 3) pa_nil)) pe_int) pa_nil)))) (pss_one (ps_set (i := 3) sc_law.nd rfl (.inr rfl) (pe_op op_cat (pe_op op_cat (pe_slice sl_list (pv 3) po_none (po_some (pv 8))) (pe_lst (pa_cons (pv 7) pa_nil))) (pe_slice sl_list (pv 3) (po_some (pv 8)) po_none))))))) pss_nil) (pss_cons (ps_set (i := 9) sc_law.nd rfl (.inl rfl) (pe_call G_law_depths (hr.mono (by first | decide | omega)) (by rfl) g_law_depths kp_law_depths b_law_depths .nil pass0 (pa_cons (pv 5) pa_nil))) (pss_cut (ps_set (i := 10) sc_law.nd rfl (.inl rfl) (pe_and (pe_callB (cr_all rfl) (by rfl) T.n_all (by decide +kernel) (pa_cons (pe_lc (own := [("name", 11)]) (g := gName 11) (tt := tYes) rfl sc_law.nd (pi_list (pv 3)) (blkOk_by (N := N_law) (sc := defScope s_law) (by decide +kernel)) (fun _ _ _ _ _ => pg_name (i := 11) sc_law.nd rfl (Or.inl rfl)) (fun _ _ _ _ _ => pts_nil) (fun _ _ _ _ _ => (pe_call G_law_is_name (hr.mono (by first | decide | omega)) (by rfl) g_law_is_name kp_law_is_name b_law_is_name .nil pass0 (pa_cons (pv 11) pa_nil)))) pa_nil)) (pe_one (pe_callB (cr_all rfl) (by rfl) T.n_all (by decide +kernel) (pa_cons (pe_lc (own := [("name", 11)]) (g := gName 11) (tt := tYes) rfl sc_law.nd (pi_list (pv 3)) (blkOk_by (N := N_law) (sc := defScope s_law) (by decide +kernel)) (fun _ _ _ _ _ => pg_name (i := 11) sc_law.nd rfl (Or.inl rfl)) (fun _ _ _ _ _ => pts_nil) (fun _ _ _ _ _ => (pe_cmpR op_eq (pe_bmK (K := K) (by rfl) PySem.F.plainAttrs_list PySem.F.slot_list_count PySem.F.type_list_count (mt_lcountS (K := K) (by rfl)) (pv 3) (pa_cons (pv 11) pa_nil)) pe_int (nomark _)))) pa_nil))))) (pss_cons (ps_for PassesOwn.never rfl (pi_range1 (by rfl) T.n_range (pa_cons (pe_callB call_len_seq (by rfl) T.n_len (by decide +kernel) (pa_cons (pv 5) pa_nil)) pa_nil)) (pg_name (i := 4) sc_law.nd rfl (.inl rfl)) (pss_one (ps_if (PW.pt (pw_and (pt_val (pe_callB call_isi (by rfl) T.n_isinstance (by decide +kernel) (pa_cons (pe_ix ix_tup (pv 5) (pv 4) (fun _ _ => rfl)) (pa_cons (pe_bltn (v := .ty "int") (by rfl) T.n_int (by decide +kernel) rfl) pa_nil)))) (pw_and1 (pt_cmpR op_ge (pe_op op_sub (pe_ix ix_tup (pv 5) (pv 4) (fun _ _ => rfl)) (pe_ix ix_list (pv 9) (pv 4) (fun _ _ => rfl))) (pe_callB call_len_seq (by rfl) T.n_len (by decide +kernel) (pa_cons (pv 3) pa_nil)) (nomark _))))) (pss_one (ps_set (i := 10) sc_law.nd rfl (.inl rfl) pe_bl)) pss_nil))) (pss_cons (ps_set (i := 12) sc_law.nd rfl (.inl rfl) (pe_callTy call_list_of (by rfl) T.n_list (by decide +kernel) (pa_cons (pv 3) pa_nil))) (pss_cons (ps_set (i := 13) sc_law.nd rfl (.inl rfl) (pe_call G_law_told (hr.mono (by first | decide | omega)) (by rfl) g_law_told kp_law_told b_law_told .nil pass0 (pa_cons (pv 5) (pa_cons (pv 12) pa_nil)))) (pss_cons (ps_if (pt_not (pt_val (pv 10))) (pss_one (ps_ret (pe_and (pe_cmpR op_isN (pv 13) pe_non (nomark _)) (pe_one (pe_cmpR (op_eqD hr.units) (pv 12) (pv 3) (nomark _)))))) pss_nil) (pss_cons (ps_set (i := 14) sc_law.nd rfl (.inl rfl) (pe_ix ix_tup (pe_call G_law_shown (hr.mono (by first | decide | omega)) (by rfl) g_law_shown kp_law_shown b_law_shown .nil pass0 (pa_cons (pv 5) (pa_cons pe_int (pa_cons pe_int (pa_cons (pe_call G_law_own_names (hr.mono (by first | decide | omega)) (by rfl) g_law_own_names kp_law_own_names b_law_own_names .nil pass0 (pa_cons (pv 3) (pa_cons (pe_op op_add (pe_bmX PySem.F.plainAttrs_tuple PySem.F.slot_tuple_count PySem.F.type_tuple_count mt_tcount (pv 5) (pa_cons pe_str pa_nil)) pe_int) pa_nil))) (pa_cons (pv 3) pa_nil)))))) pe_int (fun _ _ => rfl))) (pss_one (ps_ret (pe_and (pe_cmpR (op_eqD hr.units) (pv 13) (pv 14) (nomark _)) (pe_one (pe_cmpR (op_eqD hr.units) (pv 12) (pv 3) (nomark _)))))))))))))))))))), ?_⟩
    refine sl_of (σ2 := [some _, none, none, none, none, none, none, none, none, none, none, none, none, none, none]) rfl ?_
    walk_at "st"
    walk_at "go"
    refine ⟨a, ns, rfl, hS, hlen, fun H1 s1 l e1 hs1 st1 => ?_⟩
    have tab1 := tab_ex tab e1
    generalize (⟨l, ns, 0, 0, mixOf ns⟩ : Stm) = m1 at *
    clear hs1 e1 hS tab
    walk_at "go"
    intro pr hpr
    rw [rows13_eq]
    have hr1 : upd H1 pr (.lst (plcs rows13)) pr = some (.lst (plcs rows13)) := upd_same
    have e2 := Ex.new hpr (o := .lst (plcs rows13))
    have nr := st1.ne hpr
    have st2 := st1.ex e2
    have tab2 := tab_ex tab1 e2
    generalize upd H1 pr (.lst (plcs rows13)) = H2 at *
    clear e2 st1 tab1 hpr
    walk_at "go"
    intro pn hpn
    have e3 := Ex.new hpn (o := .lst (plcs []))
    have hn3 : upd H2 pn (.lst (plcs [])) pn = some (.lst (plcs [])) := upd_same
    have npr : pr ≠ pn := ne_of_none hr1 hpn
    have hr3 := e3 _ _ hr1
    have st3 := st2.ex e3
    have tab3 := tab_ex tab2 e3
    have nn := st2.ne hpn
    rw [show (HO.lst ([] : List V)) = .lst (plcs []) from rfl]
    generalize upd H2 pn (.lst (plcs [])) = H3 at *
    clear e3 st2 tab2 hpn hr1
    walk_at "go"
    refine ⟨s1, m1, 6, rfl, st3, by decide, by decide, fun H4 fr4 st4 => ?_⟩
    have v4 := m1.val_lt (n := 6) (by decide)
    have hr4 := fr4 _ _ nr.1 hr3
    have hn4 := fr4 _ _ nn.1 hn3
    have fol4 := Fol.next m1 6
    have tab4 := tab_fr tab3 fr4 st3.2.1
    generalize m1.val 6 = n4 at *
    generalize m1.next 6 = m4 at *
    clear fr4 st3 hr3 hn3 tab3
    walk_at "go"
    refine for_range (lo := 0) (n := n4.toNat) (fun i σ H' => ∃ (m' : Stm) (rs fs : List (List Nat)) (y : Option V), σ = [some (.ref a), some (.ref s1), some (.ref pr), some (.ref pn), y, none, none, none, none, none, none, none, none, none, none] ∧ StAt H' s1 m' ∧ Fol m1 m' ∧ GxR.TabG H' PT ∧ H' pr = some (.lst (plcs rs)) ∧ H' pn = some (.lst (plcs fs)) ∧
        rs.length + i = 13 ∧ fs.length = i ∧ (∀ w ∈ rs, Gw w) ∧ (∀ w ∈ fs, Gw w))
      ⟨m4, rows13, [], none, rfl, st4, fol4, tab4, hr4, hn4, rfl, rfl, by decide, by simp⟩ ?_ ?_
    · rintro i σ H5 hi ⟨m5, rs, fs, y, rfl, st5, fol5, tab5, hr5, hn5, hrl, hfl, hrw, hfw⟩
      have lr : (plcs rs).length = rs.length := List.length_map _
      walk_at "go"
      rw [lr]
      refine ⟨s1, m5, (rs.length : Int), rfl, st5, by omega, by omega, fun H6 fr6 st6 => ?_⟩
      have v6 := m5.val_lt (n := (rs.length : Int)) (by omega)
      have hr6 := fr6 _ _ nr.1 hr5
      have hn6 := fr6 _ _ nn.1 hn5
      have fol6 := fol5.trans (Fol.next m5 (rs.length : Int))
      have tab6 := tab_fr tab5 fr6 st5.2.1
      generalize m5.val (rs.length : Int) = n6 at *
      generalize m5.next (rs.length : Int) = m6 at *
      obtain ⟨d, rfl⟩ : ∃ k : Nat, n6 = (k : Int) := ⟨n6.toNat, (Int.toNat_of_nonneg v6.1).symm⟩
      clear fr6 st5 hr5 hn5 tab5 fol5
      have hd : d < rs.length := by omega
      walk_at "go"
      refine w_popAt hr6 (getD_at hd) (by omega) ?_
      have hh : m6.home = m1.home := fol6.1
      have nr2 : pr ≠ m6.home := by rw [hh]; exact nr.2
      have nn2 : pn ≠ m6.home := by rw [hh]; exact nn.2
      have st7 := st6.put (o := .lst (plcs (rs.eraseIdx d))) nr.1 nr2
      have tab7 := tab_up (o := .lst (plcs (rs.eraseIdx d))) tab6 hr6
      have hr7 : upd H6 pr (.lst (plcs (rs.eraseIdx d))) pr = some (.lst (plcs (rs.eraseIdx d))) := upd_same
      have hn7 : upd H6 pr (.lst (plcs (rs.eraseIdx d))) pn = some (.lst (plcs fs)) := by rw [upd_ne npr.symm]; exact hn6
      generalize upd H6 pr (.lst (plcs (rs.eraseIdx d))) = H7 at *
      have hwd : Gw (rs.getD d []) := by
        rw [List.getD_eq_getElem?_getD, List.getElem?_eq_getElem hd]
        exact hrw _ (List.getElem_mem hd)
      walk_at "go"
      refine ⟨m6, rs.eraseIdx d, fs ++ [rs.getD d []], _, rfl, st7.put nn.1 nn2, fol6, tab_up tab7 hn7, by rw [upd_ne npr]; exact hr7, by rw [upd_same]; simp [plcs], ?_, by simp; omega, ?_, ?_⟩
      · have := List.length_eraseIdx_of_lt hd
        omega
      · intro w hw
        exact hrw w (List.mem_of_mem_eraseIdx hw)
      · intro w hw
        rcases List.mem_append.mp hw with hw | hw
        · exact hfw w hw
        · rw [List.mem_singleton.mp hw]
          exact hwd
    · rintro σ H5 ⟨m5, rs, fs, y, rfl, st5, fol5, tab5, hr5, hn5, hrl, hfl, hrw, hfw⟩
      have hf6 : fs.length ≤ 6 := by omega
      clear hrl hfl hrw hr5 hr4 hn4 tab4 st4
      walk_at "go"
      refine ⟨s1, m5, 24, rfl, st5, by decide, by decide, fun H6 fr6 st6 => ?_⟩
      have v6 := m5.val_lt (n := 24) (by decide)
      have hn6 := fr6 _ _ nn.1 hn5
      have fol6 := fol5.trans (Fol.next m5 24)
      have tab6 := tab_fr tab5 fr6 st5.2.1
      generalize m5.val 24 = n6 at *
      generalize m5.next 24 = m6 at *
      obtain ⟨sz, rfl⟩ : ∃ k : Nat, n6 = (k : Int) := ⟨n6.toNat, (Int.toNat_of_nonneg v6.1).symm⟩
      clear fr6 st5 hn5 tab5 fol5
      walk_at "go"
      refine ⟨s1, m6, 5, rfl, st6, by decide, by decide, fun H7 fr7 st7 => ?_⟩
      have v7 := m6.val_lt (n := 5) (by decide)
      have hn7 := fr7 _ _ nn.1 hn6
      have fol7 := fol6.trans (Fol.next m6 5)
      have tab7 := tab_fr tab6 fr7 st6.2.1
      generalize m6.val 5 = n7 at *
      generalize m6.next 5 = m7 at *
      obtain ⟨lo, rfl⟩ : ∃ k : Nat, n7 = (k : Int) := ⟨n7.toNat, (Int.toNat_of_nonneg v7.1).symm⟩
      clear fr7 st6 hn6 tab6 fol6
      walk_at "go"
      refine ⟨s1, m7, 1 + sz, lo, rfl, st7, by omega, by omega, by omega, fun H8 pt m8 t fr8 st8 fol8 hpt8 ht8 _ htl _ => ?_⟩
      have hn8 := fr8 _ _ nn.1 hn7
      have fol8 := fol7.trans fol8
      have tab8 := tab_fr tab7 fr8 st7.2.1
      have hth := hgt_le t
      have htl : t.enc.length ≤ 48 := by omega
      clear fr8 st7 hn7 tab7 fol7 hpt8
      walk_at "go"
      refine w_cut (M := fun σ' H' => ∃ (pt : Addr) (t : Tm) (m' : Stm) (y6 : Option V), σ' = [some (.ref a), some (.ref s1), some (.ref pr), some (.ref pn), y, some (.ref pt), y6, none, none, none, none, none, none, none, none] ∧ StAt H' s1 m' ∧ Fol m1 m' ∧ GxR.TabG H' PT ∧ H' pn = some (.lst (plcs fs)) ∧ SqX H' pt t.enc ∧ t.enc.length ≤ 200 ∧ t.hgt ≤ 50) ?_ ?_
      · walk_at "go"
        refine ⟨s1, m8, 6, rfl, st8, by decide, by decide, fun H9 fr9 st9 => ?_⟩
        have hn9 := fr9 _ _ nn.1 hn8
        have fol9 := fol8.trans (Fol.next m8 6)
        have tab9 := tab_fr tab8 fr9 st8.2.1
        have ht9 := ht8.fr fr9 st8.2.1
        generalize m8.val 6 = n9 at *
        generalize m8.next 6 = m9 at *
        clear fr9 st8 hn8 tab8 fol8 ht8
        walk_at "go"
        refine w_brI (fun c1 => ?_) (fun c1 => ?_)
        · walk_at "go"
          refine ⟨s1, m9, 71, rfl, st9, by decide, by decide, fun H10 fr10 st10 => ?_⟩
          have v10 := m9.val_lt (n := 71) (by decide)
          have hn10 := fr10 _ _ nn.1 hn9
          have fol10 := fol9.trans (Fol.next m9 71)
          have tab10 := tab_fr tab9 fr10 st9.2.1
          generalize m9.val 71 = n10 at *
          generalize m9.next 71 = m10 at *
          obtain ⟨k0, rfl⟩ : ∃ k : Nat, n10 = (k : Int) := ⟨n10.toNat, (Int.toNat_of_nonneg v10.1).symm⟩
          clear fr10 st9 hn9 tab9 fol9 ht9
          walk_at "go"
          intro pa hpa
          have e11 := Ex.new hpa (o := .tup [V.str "lam"])
          have h11 : upd H10 pa (.tup [V.str "lam"]) pa = some (.tup [V.str "lam"]) := upd_same
          have hn11 := e11 _ _ hn10
          have st11 := st10.ex e11
          have tab11 := tab_ex tab10 e11
          generalize upd H10 pa (.tup [V.str "lam"]) = H11 at *
          clear e11 hpa hn10 st10 tab10
          walk_at "go"
          refine fun pb H12 e12 hb12 => ?_
          have hn12 := e12 _ _ hn11
          have st12 := st11.ex e12
          have tab12 := tab_ex tab11 e12
          clear h11 e12 hn11 st11 tab11
          have en : (20 + (k0 : Int)).toNat = 20 + k0 := by omega
          rw [en] at hb12
          walk_at "go"
          refine ⟨s1, m10, 20 + (k0 : Int), rfl, st12, by omega, by omega, fun H13 fr13 st13 => ?_⟩
          have v13 := m10.val_lt (n := 20 + (k0 : Int)) (by omega)
          have hn13 := fr13 _ _ nn.1 hn12
          have fol13 := fol10.trans (Fol.next m10 (20 + (k0 : Int)))
          have tab13 := tab_fr tab12 fr13 st12.2.1
          have hb13 := fr_t fr13 st12.2.1 hb12
          generalize m10.val (20 + (k0 : Int)) = n13 at *
          generalize m10.next (20 + (k0 : Int)) = m13 at *
          obtain ⟨i, rfl⟩ : ∃ k : Nat, n13 = (k : Int) := ⟨n13.toNat, (Int.toNat_of_nonneg v13.1).symm⟩
          clear fr13 st12 hn12 tab12 fol10 hb12
          walk_at "go"
          refine ⟨s1, m13, 20 + (k0 : Int) + 1, rfl, st13, by omega, by omega, fun H14 fr14 st14 => ?_⟩
          have v14 := m13.val_lt (n := 20 + (k0 : Int) + 1) (by omega)
          have hn14 := fr14 _ _ nn.1 hn13
          have fol14 := fol13.trans (Fol.next m13 (20 + (k0 : Int) + 1))
          have tab14 := tab_fr tab13 fr14 st13.2.1
          have hb14 := fr_t fr14 st13.2.1 hb13
          generalize m13.val (20 + (k0 : Int) + 1) = n14 at *
          generalize m13.next (20 + (k0 : Int) + 1) = m14 at *
          obtain ⟨j, rfl⟩ : ∃ k : Nat, n14 = (k : Int) := ⟨n14.toNat, (Int.toNat_of_nonneg v14.1).symm⟩
          clear fr14 st13 hn13 tab13 fol13 hb13
          walk_at "go"
          intro pc hpc
          have e15 := Ex.new hpc (o := .tup [V.str "app", V.int (i : Int), V.str "lam", V.int (j : Int)])
          have h15 : upd H14 pc (.tup [V.str "app", V.int (i : Int), V.str "lam", V.int (j : Int)]) pc = some (.tup [V.str "app", V.int (i : Int), V.str "lam", V.int (j : Int)]) := upd_same
          have hb15 := ex_t e15 hb14
          have hn15 := e15 _ _ hn14
          have st15 := st14.ex e15
          have tab15 := tab_ex tab14 e15
          generalize upd H14 pc (.tup [V.str "app", V.int (i : Int), V.str "lam", V.int (j : Int)]) = H15 at *
          have eE : (Tm.lamN (19 + k0 + 1) (.app (.var i) (.lam (.var j)))).enc = (List.replicate (20 + k0) [V.str "lam"]).flatten ++ [V.str "app", V.int (i : Int), V.str "lam", V.int (j : Int)] := by
            rw [Tm.enc_lamN, show 19 + k0 + 1 = 20 + k0 by omega]
            rfl
          have eL := congrArg List.length eE
          rw [lamN_len, List.length_append] at eL
          have eL2 : (Tm.app (.var i) (.lam (.var j))).enc.length = 4 := rfl
          have eL3 : [V.str "app", V.int (i : Int), V.str "lam", V.int (j : Int)].length = 4 := rfl
          refine w_catF hb15 (SqT.of h15) (fun z => ?_) (by simp) (ly_sz (by omega)) fun pz H16 e16 hz16 => ?_
          · rw [z] at eL
            simp at eL
            omega
          rw [← eE] at hz16
          walk_at "go"
          refine ⟨pz, _, m14, _, rfl, st15.ex e16, fol14, tab_ex tab15 e16, e16 _ _ hn15, hz16, by rw [lamN_len]; omega, ?_⟩
          rw [hgt_lamN rfl]
          show max 0 1 + 1 + 1 ≤ 50
          decide
        · walk_at "go"
          exact ⟨pt, t, m9, _, rfl, st9, fol9, tab9, hn9, ht9, by omega, by omega⟩
      rintro σ' H9 ⟨pt, t, m9, y6, rfl, st9, fol9, tab9, hn9, ht9, htl, hth⟩
      clear st8 fol8 tab8 hn8 ht8
      walk_at "go"
      refine w_cut (M := fun σ' H' => ∃ (pn' : Addr) (fs' : List (List Nat)) (m' : Stm) (y7 y8 : Option V), σ' = [some (.ref a), some (.ref s1), some (.ref pr), some (.ref pn'), y, some (.ref pt), y6, y7, y8, none, none, none, none, none, none] ∧ StAt H' s1 m' ∧ GxR.TabG H' PT ∧ H' pn' = some (.lst (plcs fs')) ∧ SqX H' pt t.enc ∧ fs'.length ≤ 7 ∧ ∀ w ∈ fs', Gw w) ?_ ?_
      · walk_at "go"
        refine ⟨s1, m9, 5, rfl, st9, by decide, by decide, fun H10 fr10 st10 => ?_⟩
        have hn10 := fr10 _ _ nn.1 hn9
        have fol10 := fol9.trans (Fol.next m9 5)
        have tab10 := tab_fr tab9 fr10 st9.2.1
        have ht10 := ht9.fr fr10 st9.2.1
        generalize m9.val 5 = n10 at *
        generalize m9.next 5 = m10 at *
        clear fr10 st9 hn9 tab9 fol9 ht9
        walk_at "go"
        refine w_brI (fun c1 => ?_) (fun c1 => ?_)
        · walk_at "go"
          intro pw hpw
          rw [wrong13_eq]
          have e11 := Ex.new hpw (o := .lst (plcs wrong13))
          have hw11 : upd H10 pw (.lst (plcs wrong13)) pw = some (.lst (plcs wrong13)) := upd_same
          have hn11 := e11 _ _ hn10
          have st11 := st10.ex e11
          have tab11 := tab_ex tab10 e11
          have ht11 := ht10.ex e11
          have npw := (st10.ne hpw).1
          generalize upd H10 pw (.lst (plcs wrong13)) = H11 at *
          clear e11 hpw hn10 st10 tab10 ht10
          walk_at "go"
          refine ⟨s1, m10, 11, rfl, st11, by decide, by decide, fun H12 fr12 st12 => ?_⟩
          have v12 := m10.val_lt (n := 11) (by decide)
          have hn12 := fr12 _ _ nn.1 hn11
          have hw12 := fr12 _ _ npw hw11
          have fol12 := fol10.trans (Fol.next m10 11)
          have tab12 := tab_fr tab11 fr12 st11.2.1
          have ht12 := ht11.fr fr12 st11.2.1
          generalize m10.val 11 = n12 at *
          generalize m10.next 11 = m12 at *
          obtain ⟨d, rfl⟩ : ∃ k : Nat, n12 = (k : Int) := ⟨n12.toNat, (Int.toNat_of_nonneg v12.1).symm⟩
          clear fr12 st11 hn11 hw11 tab11 fol10 ht11
          have hd : d < wrong13.length := by show d < 11; omega
          have hwd : Gw (wrong13.getD d []) := by
            have : ∀ w ∈ wrong13, Gw w := by decide
            rw [List.getD_eq_getElem?_getD, List.getElem?_eq_getElem hd]
            exact this _ (List.getElem_mem hd)
          refine w_ixL (SqL.of hw12) (atI_nat (plcs_at hd)) ?_
          generalize wrong13.getD d [] = wr at *
          clear hw12
          walk_at "go"
          refine w_cut (M := fun σ' H' => ∃ (m' : Stm) (wr' : List Nat), σ' = [some (.ref a), some (.ref s1), some (.ref pr), some (.ref pn), y, some (.ref pt), y6, some (.str (pl wr')), none, none, none, none, none, none, none] ∧ StAt H' s1 m' ∧ Fol m1 m' ∧ GxR.TabG H' PT ∧ H' pn = some (.lst (plcs fs)) ∧ SqX H' pt t.enc ∧ Gw wr') ?_ ?_
          · walk_at "go"
            by_cases hfe : fs = []
            · rw [hfe]
              refine iteF ?_
              walk_at "go"
              exact ⟨m12, wr, rfl, st12, fol12, tab12, by rw [← hfe]; exact hn12, ht12, hwd⟩
            · have he : (plcs fs).isEmpty = false := by
                cases fs with
                | nil => exact absurd rfl hfe
                | cons _ _ => rfl
              have hpos : 0 < fs.length := List.length_pos_iff.mpr hfe
              rw [he]
              walk_at "go"
              refine ⟨s1, m12, 2, rfl, st12, by decide, by decide, fun H13 fr13 st13 => ?_⟩
              have hn13 := fr13 _ _ nn.1 hn12
              have fol13 := fol12.trans (Fol.next m12 2)
              have tab13 := tab_fr tab12 fr13 st12.2.1
              have ht13 := ht12.fr fr13 st12.2.1
              generalize m12.val 2 = n13 at *
              generalize m12.next 2 = m13 at *
              clear fr13 st12 hn12 tab12 fol12 ht12
              walk_at "go"
              refine w_brI (fun c2 => ?_) (fun c2 => ?_)
              · walk_at "go"
                refine w_ixL (SqL.of hn13) (atI_nat (j := 0) (plcs_at hpos)) ?_
                walk_at "go"
                refine ⟨m13, fs.getD 0 [], rfl, st13, fol13, tab13, hn13, ht13, ?_⟩
                rw [List.getD_eq_getElem?_getD, List.getElem?_eq_getElem hpos]
                exact hfw _ (List.getElem_mem hpos)
              · walk_at "go"
                exact ⟨m13, wr, rfl, st13, fol13, tab13, hn13, ht13, hwd⟩
          rintro σ' H13 ⟨m13, wr', rfl, st13, fol13, tab13, hn13, ht13, hwr⟩
          clear hn12 ht12 st12 tab12 fol12 hwd
          have lf : (plcs fs).length = fs.length := List.length_map _
          walk_at "go"
          rw [lf]
          refine ⟨s1, m13, (fs.length : Int) + 1, rfl, st13, by omega, by omega, fun H14 fr14 st14 => ?_⟩
          have v14 := m13.val_lt (n := (fs.length : Int) + 1) (by omega)
          have hn14 := fr14 _ _ nn.1 hn13
          have tab14 := tab_fr tab13 fr14 st13.2.1
          have ht14 := ht13.fr fr14 st13.2.1
          generalize m13.val ((fs.length : Int) + 1) = n14 at *
          generalize m13.next ((fs.length : Int) + 1) = m14 at *
          obtain ⟨k8, rfl⟩ : ∃ k : Nat, n14 = (k : Int) := ⟨n14.toNat, (Int.toNat_of_nonneg v14.1).symm⟩
          clear fr14 st13 hn13 tab13 fol13 ht13
          walk_at "go"
          refine w_slL (SqL.of hn14) fun pa1 hpa1 => ?_
          have ct1 : cutV (plcs fs) none (some (k8 : Int)) = plcs (fs.take k8) := by rw [cut_lo]; exact List.map_take.symm
          rw [ct1]
          have e15 := Ex.new hpa1 (o := .lst (plcs (fs.take k8)))
          have h15 : upd H14 pa1 (.lst (plcs (fs.take k8))) pa1 = some (.lst (plcs (fs.take k8))) := upd_same
          have hn15 := e15 _ _ hn14
          have st15 := st14.ex e15
          have tab15 := tab_ex tab14 e15
          have ht15 := ht14.ex e15
          generalize upd H14 pa1 (.lst (plcs (fs.take k8))) = H15 at *
          clear e15 hpa1 hn14 st14 tab14 ht14
          walk_at "go"
          intro pb1 hpb1
          have e16 := Ex.new hpb1 (o := .lst (plcs [wr']))
          have h16 : upd H15 pb1 (.lst (plcs [wr'])) pb1 = some (.lst (plcs [wr'])) := upd_same
          have hn16 := e16 _ _ hn15
          have st16 := st15.ex e16
          have tab16 := tab_ex tab15 e16
          have ht16 := ht15.ex e16
          have ha16 := e16 _ _ h15
          rw [show (HO.lst [V.str (pl wr')]) = .lst (plcs [wr']) from rfl]
          generalize upd H15 pb1 (.lst (plcs [wr'])) = H16 at *
          clear e16 hpb1 hn15 st15 tab15 ht15 h15
          refine w_cat ha16 h16 (ly_sz (by simp; omega)) fun pc1 hpc1 => ?_
          have e17 := Ex.new hpc1 (o := .lst (plcs (fs.take k8) ++ plcs [wr']))
          have h17 : upd H16 pc1 (.lst (plcs (fs.take k8) ++ plcs [wr'])) pc1 = some (.lst (plcs (fs.take k8) ++ plcs [wr'])) := upd_same
          have hn17 := e17 _ _ hn16
          have st17 := st16.ex e17
          have tab17 := tab_ex tab16 e17
          have ht17 := ht16.ex e17
          generalize upd H16 pc1 (.lst (plcs (fs.take k8) ++ plcs [wr'])) = H17 at *
          clear e17 hpc1 hn16 st16 tab16 ht16 ha16 h16
          walk_at "go"
          refine w_slL (SqL.of hn17) fun pd1 hpd1 => ?_
          rw [cut_hi]
          have e18 := Ex.new hpd1 (o := .lst ((plcs fs).drop k8))
          have h18 : upd H17 pd1 (.lst ((plcs fs).drop k8)) pd1 = some (.lst ((plcs fs).drop k8)) := upd_same
          have st18 := st17.ex e18
          have tab18 := tab_ex tab17 e18
          have ht18 := ht17.ex e18
          have hc18 := e18 _ _ h17
          generalize upd H17 pd1 (.lst ((plcs fs).drop k8)) = H18 at *
          clear e18 hpd1 hn17 st17 tab17 ht17 h17
          refine w_cat hc18 h18 (ly_sz (by simp; omega)) fun pe1 hpe1 => ?_
          walk_at "go"
          have e19 := Ex.new hpe1 (o := .lst (plcs (fs.take k8) ++ plcs [wr'] ++ (plcs fs).drop k8))
          refine ⟨pe1, fs.take k8 ++ [wr'] ++ fs.drop k8, m14, _, _, rfl, st18.ex e19, tab_ex tab18 e19, by rw [upd_same]; simp [plcs], ht18.ex e19, by simp; omega, ?_⟩
          intro w hw
          rcases List.mem_append.mp hw with hw | hw
          · rcases List.mem_append.mp hw with hw | hw
            · exact hfw w (List.mem_of_mem_take hw)
            · rw [List.mem_singleton.mp hw]; exact hwr
          · exact hfw w (List.mem_of_mem_drop hw)
        · walk_at "go"
          exact ⟨pn, fs, m10, _, _, rfl, st10, tab10, hn10, ht10, by omega, hfw⟩
      rintro σ' H10 ⟨pn', fs', m10, y7, y8, rfl, st10, tab10, hn10, ht10, hfl', hfw'⟩
      clear hn9 ht9 st9 tab9 fol9 hfw hf6 nn
      walk_at "go"
      refine ⟨pt, t, rfl, ht10.t, by omega, fun H11 pd e11 hpd hd11 => ?_⟩
      have hn11 := e11 _ _ hn10
      have tab11 := tab_ex tab10 e11
      have ht11 := ht10.ex e11
      clear hn10 ht10 st10 tab10 e11 hpd
      walk_at "go"
      refine w_cut (M := fun σ' H' => ∃ y11, σ' = [some (.ref a), some (.ref s1), some (.ref pr), some (.ref pn'), y, some (.ref pt), y6, y7, y8, some (.ref pd), some (.bl (nokB fs')), y11, none, none, none] ∧ Ex H11 H') ?_ ?_
      · walk_at "go"
        intro Dl hDl
        refine lc_list (K := K) (a := pn') (xs := plcs fs') (fun i H' => Ex H11 H' ∧ H' Dl = some (.lst ((fs'.take i).map fun w => V.bl (nmB w)))) ⟨Ex.new hDl, upd_same⟩ (fun i H' _ h => SqL.of (h.1 _ _ hn11)) ?_ ?_
        · rintro i v H12 hv ⟨e12, h12⟩
          rw [List.getElem?_map] at hv
          obtain ⟨w, hw, rfl⟩ := Option.map_eq_some_iff.mp hv
          have hwl := (hfw' w (List.mem_of_getElem? hw)).1
          walk_at "go"
          refine ⟨w, rfl, by omega, fun H13 e13 => ?_⟩
          have hil := (List.getElem?_eq_some_iff.mp hw).1
          refine ⟨_, e13 _ _ h12, ly_lt (by simp; omega), (e12.trans e13).mut hDl, ?_⟩
          rw [upd_same, List.take_add_one, hw]
          simp
        · rintro H12 ⟨e12, h12⟩
          rw [show (plcs fs').length = fs'.length from List.length_map _, List.take_length] at h12
          have hn12 := e12 _ _ hn11
          walk_at "go"
          refine ⟨Dl, fs'.map nmB, rfl, SqL.of (by rw [h12, List.map_map]; rfl), ?_⟩
          have e3 : (fs'.map nmB).all id = fs'.all nmB := by simp
          rw [e3]
          cases hall : fs'.all nmB with
          | false =>
            walk_at "go"
            have e4 : nokB fs' = false := by unfold nokB; rw [hall]; rfl
            exact ⟨none, by rw [e4]; rfl, e12⟩
          | true =>
            walk_at "go"
            intro D2 hD2
            refine lc_list (K := K) (a := pn') (xs := plcs fs') (fun i H' => Ex H12 H' ∧ H' D2 = some (.lst ((fs'.take i).map fun w => V.bl (fs'.count w == 1)))) ⟨Ex.new hD2, upd_same⟩ (fun i H' _ h => SqL.of (h.1 _ _ hn12)) ?_ ?_
            · rintro i v H13 hv ⟨e13, h13⟩
              rw [List.getElem?_map] at hv
              obtain ⟨w, hw, rfl⟩ := Option.map_eq_some_iff.mp hv
              have hil := (List.getElem?_eq_some_iff.mp hw).1
              have hn13 := e13 _ _ hn12
              walk_at "go"
              refine ⟨_, h13, ly_lt (by simp; omega), e13.mut hD2, ?_⟩
              rw [upd_same, List.take_add_one, hw]
              have e6 : decide (V.int ((fs'.count w : Nat) : Int) = V.int 1) = (fs'.count w == 1) := by
                by_cases h1 : fs'.count w = 1
                · rw [h1]; rfl
                · rw [beq_eq_false_iff_ne.mpr h1]
                  exact decide_eq_false fun z => h1 (by have := V.int.inj z; omega)
              rw [e6]
              simp
            · rintro H13 ⟨e13, h13⟩
              rw [show (plcs fs').length = fs'.length from List.length_map _, List.take_length] at h13
              walk_at "go"
              refine ⟨D2, fs'.map (fun w => fs'.count w == 1), rfl, SqL.of (by rw [h13, List.map_map]; rfl), ?_⟩
              have e5 : (fs'.map (fun w => fs'.count w == 1)).all id = fs'.all fun w => fs'.count w == 1 := by simp
              rw [e5]
              walk_at "go"
              have e4 : nokB fs' = fs'.all fun w => fs'.count w == 1 := by unfold nokB; rw [hall]; rfl
              exact ⟨none, by rw [e4]; rfl, e12.trans e13⟩
      rintro σ' H12 ⟨y11, rfl, e12⟩
      have hn12 := e12 _ _ hn11
      have tab12 := tab_ex tab11 e12
      have ht12 := ht11.ex e12
      have hd12 := e12 _ _ hd11
      have lf : (plcs fs').length = fs'.length := List.length_map _
      walk_at "go"
      refine ⟨pt, t.enc, rfl, .inr ht12.t, ?_⟩
      walk_at "go"
      have en : ((t.enc.length : Nat) : Int).toNat = t.enc.length := Int.toNat_natCast _
      refine for_range (lo := 0) (n := ((t.enc.length : Nat) : Int).toNat) (fun i σ H' => ∃ y4, σ = [some (.ref a), some (.ref s1), some (.ref pr), some (.ref pn'), y4, some (.ref pt), y6, y7, y8, some (.ref pd), some (.bl (nokB fs' && okL fs'.length (t.enc.take i) ((t.deps 0).take i))), y11, none, none, none] ∧ H' = H12)
        ⟨y, by simp [okL], rfl⟩ ?_ ?_
      · rintro i σ H' hi ⟨y4, rfl, rfl⟩
        rw [en] at hi
        obtain ⟨v, hv⟩ : ∃ v, t.enc[i]? = some v := ⟨_, List.getElem?_eq_getElem hi⟩
        obtain ⟨d, hd⟩ : ∃ d, (t.deps 0)[i]? = some d := ⟨_, List.getElem?_eq_getElem (by rw [Tm.deps_len]; exact hi)⟩
        have hlen : (t.enc.take i).length = ((t.deps 0).take i).length := by rw [List.length_take, List.length_take, Tm.deps_len]
        have e1 : t.enc.take (i + 1) = t.enc.take i ++ [v] := by rw [List.take_add_one, hv]; rfl
        have e2 : (t.deps 0).take (i + 1) = (t.deps 0).take i ++ [d] := by rw [List.take_add_one, hd]; rfl
        rw [e1, e2, okL_app _ _ _ _ _ hlen]
        walk_at "go"
        refine w_ixT ht12.t (by rw [Int.zero_add]; exact atI_nat hv) ?_
        have nsE : (nums (t.deps 0))[i]? = some (V.int (d : Int)) := by rw [List.getElem?_map, hd]; rfl
        rcases t.nds v (List.mem_of_getElem? hv) with ⟨n, rfl⟩ | rfl | rfl
        · walk_at "go"
          refine w_ixT ht12.t (by rw [Int.zero_add]; exact atI_nat hv) ?_
          walk_at "go"
          rw [lf]
          have eS : okL fs'.length [V.int n] [d] = decide (n - (d : Int) < (fs'.length : Int)) := by
            show (decide _ && true) = _
            rw [Bool.and_true]
          rw [eS]
          refine w_br (fun c1 => ?_) (fun c1 => ?_)
          · rw [decide_eq_false (by omega), Bool.and_false, Bool.and_false]
            walk_at "go"
            exact ⟨some (.int (0 + (i : Int))), rfl, rfl⟩
          · rw [decide_eq_true (by omega), Bool.and_true]
            walk_at "go"
            exact ⟨some (.int (0 + (i : Int))), rfl, rfl⟩
        · walk_at "go"
          refine ⟨some (.int (0 + (i : Int))), ?_, rfl⟩
          rw [show okL fs'.length [V.str "lam"] [d] = true from rfl, Bool.and_true]
          rfl
        · walk_at "go"
          refine ⟨some (.int (0 + (i : Int))), ?_, rfl⟩
          rw [show okL fs'.length [V.str "app"] [d] = true from rfl, Bool.and_true]
          rfl
      · rintro σ H' ⟨y4, rfl, rfl⟩
        rw [en]
        rw [List.take_of_length_le (Nat.le_refl _), List.take_of_length_le (by rw [Tm.deps_len]; exact Nat.le_refl _)]
        walk_at "go"
        intro l hl
        have e13 := Ex.new hl (o := .lst (plcs fs'))
        have hg13 : upd H' l (.lst (plcs fs')) l = some (.lst (plcs fs')) := upd_same
        have hn13 := e13 _ _ hn12
        have tab13 := tab_ex tab12 e13
        have ht13 := ht12.ex e13
        generalize upd H' l (.lst (plcs fs')) = H13 at *
        clear e13 e12 hn12 tab12 ht12 hd12 hl
        have hR : (nokB fs' && okL fs'.length t.enc (t.deps 0)) = true ↔ NmOk fs' ∧ okF fs'.length 0 t := by
          rw [Bool.and_eq_true, nokB_iff, okL_tm]
        generalize (nokB fs' && okL fs'.length t.enc (t.deps 0)) = nB at *
        have hsm : Small fs' := fun w hw => (hfw' w hw).2
        walk_at "go"
        refine ⟨pt, l, t, fs', rfl, ht13, by omega, hg13, by omega, fun w hw => by have := (hfw' w hw).1; omega, tab13, fun h1 h2 H14 bs m tb14 hbs hbl hm => ?_, fun hno H14 tb14 => ?_⟩
        · have hg14 := tb14.lst tab13 hg13
          have hn14 := tb14.lst tab13 hn13
          have ht14 : SqX H14 pt t.enc := by
            obtain ⟨ob, g1, g2, g3⟩ := ht13
            exact ⟨ob, tb14.at tab13 g1 (fun q z => nomatch z), g2, g3⟩
          rw [hR.mpr ⟨h1, h2⟩]
          walk_at "go"
          have hcl := ht14
          refine w_tcnt ht14.t (Tm.nds _) ?_
          rw [lams_count]
          walk_at "go"
          have hll := lams_le t
          refine ⟨pn', fs', t.lams + 1, rfl, hn14, by omega, fun H15 po e15 hpo ho15 => ?_⟩
          have hg15 := e15 _ _ hg14
          have hn15 := e15 _ _ hn14
          have ht15 := ht14.ex e15
          walk_at "go"
          have hol := own_len (fs := fs') (n := fs'.length + (t.lams + 1)) (by omega)
          have hoU := own_le fs' (fs'.length + (t.lams + 1))
          refine ⟨pt, 0, 0, po, pn', t.enc, [], t, own fs' (fs'.length + (t.lams + 1)), fs', rfl, ht15.t, by simp, by omega, ho15, hn15, by omega, by omega, by omega, h2, fun w hw => nmB_of (own_nm (by omega) w hw), h1.1, by omega, fun H16 p16 e16 hp16 => ?_⟩
          have hg16 := e16 _ _ hg15
          have hn16 := e16 _ _ hn15
          walk_at "go"
          obtain ⟨r, er⟩ := own_pre (fs := fs') (m := m) (n := fs'.length + (t.lams + 1)) (by omega)
          rw [er, ← hbs, shw_more t 0 (by omega)]
          have hbn : Nms bs := fun w hw => by
            rw [hbs] at hw
            exact nmB_of (own_nm (by omega) w hw)
          refine w_eqZ (shw_small hbn h1.1 t 0 (by omega) h2) ?_
          walk_at "go"
          refine w_eqP hg16 hn16 hsm ?_
          exact q _
        · have hg14 := tb14.lst tab13 hg13
          have hn14 := tb14.lst tab13 hn13
          have hB : nB = false := by
            cases hb : nB with
            | false => rfl
            | true => exact absurd (hR.mp hb) hno
          rw [hB]
          walk_at "go"
          refine w_eqP hg14 hn14 hsm ?_
          exact q _
end
end Ly
set_option Elab.async false
set_option linter.all false
set_option maxRecDepth 100000
set_option maxHeartbeats 8000000
namespace Ly
open PySem PySem.Spec PyProof.Rows L2 Evl

-- endR _law_shown ok_lshown 52:51
theorem all_mk {q : Program} {r0 : DefRec} {cT PT : Addr} {ocT : Value} {odT : Option Addr} {vsT : Array Value} {slT : Array (Option Value)} {l : PySem.W.OpenLaw} {w : World} {K : PySem.W.Frag} {h : Heap} {mg : Str → Option Value} {fa f1 f2 f3 f4 f5 f6 f7 f8 f9 f10 f11 f12 f13 f14 f15 f16 f17 f18 f19 cc0 cc5 : Addr} (X : K.In h) (G : h.Ns mainGlobals mg) (hfa : mg "law" = some (.ref fa))
    {od1 an1 od2 an2 od3 an3 od4 an4 od5 an5 od6 an6 od7 an7 od8 an8 od9 an9 od10 an10 od11 an11 od12 an12 od13 an13 od14 an14 od15 an15 od16 an16 od17 an17 od18 an18 od19 an19 : Option Addr} {sl1 sl2 sl3 sl4 sl5 sl6 sl7 sl8 sl9 sl10 sl11 sl12 sl13 sl14 sl15 sl16 sl17 sl18 sl19 : Array (Option Value)} {oc1 kV1 dc1 pm1 cd1 ct1 oc2 kV2 dc2 pm2 cd2 ct2 oc3 kV3 dc3 pm3 cd3 ct3 oc4 kV4 dc4 pm4 cd4 ct4 oc5 kV5 dc5 pm5 cd5 ct5 oc6 kV6 dc6 pm6 cd6 ct6 oc7 kV7 dc7 pm7 cd7 ct7 oc8 kV8 dc8 pm8 cd8 ct8 oc9 kV9 dc9 pm9 cd9 ct9 oc10 kV10 dc10 pm10 cd10 ct10 oc11 kV11 dc11 pm11 cd11 ct11 oc12 kV12 dc12 pm12 cd12 ct12 oc13 kV13 dc13 pm13 cd13 ct13 oc14 kV14 dc14 pm14 cd14 ct14 oc15 kV15 dc15 pm15 cd15 ct15 oc16 kV16 dc16 pm16 cd16 ct16 oc17 kV17 dc17 pm17 cd17 ct17 oc18 kV18 dc18 pm18 cd18 ct18 oc19 kV19 dc19 pm19 cd19 ct19 : Value} {t0 t100 t101 : Tok}
    (a1 : PySem.W.nsIn K mainGlobals "_law_draw" = some (some (.ref f1))) (l1 : K.lookup f1 = some ⟨oc1, od1, .func (PySem.W.fnOf "_law_draw" "_law_draw" (defArgs s_law_draw) (defBody s_law_draw) (defScope s_law_draw) .none kV1 dc1 pm1 an1 cd1 ct1), sl1⟩) (c1 : PySem.W.codeIn K cd1 "_law_draw" = true) (k1 : PySem.W.keepIn K (.ref f1) = true)
    (a2 : PySem.W.nsIn K mainGlobals "_law_stream" = some (some (.ref f2))) (l2 : K.lookup f2 = some ⟨oc2, od2, .func (PySem.W.fnOf "_law_stream" "_law_stream" (defArgs s_law_stream) (defBody s_law_stream) (defScope s_law_stream) .none kV2 dc2 pm2 an2 cd2 ct2), sl2⟩) (c2 : PySem.W.codeIn K cd2 "_law_stream" = true) (k2 : PySem.W.keepIn K (.ref f2) = true)
    (a3 : PySem.W.nsIn K mainGlobals "_law_term" = some (some (.ref f3))) (l3 : K.lookup f3 = some ⟨oc3, od3, .func (PySem.W.fnOf "_law_term" "_law_term" (defArgs s_law_term) (defBody s_law_term) (defScope s_law_term) .none kV3 dc3 pm3 an3 cd3 ct3), sl3⟩) (c3 : PySem.W.codeIn K cd3 "_law_term" = true) (k3 : PySem.W.keepIn K (.ref f3) = true)
    (a4 : PySem.W.nsIn K mainGlobals "depths" = some (some (.ref f4))) (l4 : K.lookup f4 = some ⟨oc4, od4, .func (PySem.W.fnOf "depths" "depths" (defArgs s_depths) (defBody s_depths) (defScope s_depths) .none kV4 dc4 pm4 an4 cd4 ct4), sl4⟩) (c4 : PySem.W.codeIn K cd4 "depths" = true) (k4 : PySem.W.keepIn K (.ref f4) = true)
    (a5 : PySem.W.nsIn K mainGlobals "_law_depths" = some (some (.ref f5))) (l5 : K.lookup f5 = some ⟨oc5, od5, .func (PySem.W.fnOf "_law_depths" "_law_depths" (defArgs s_law_depths) (defBody s_law_depths) (defScope s_law_depths) .none kV5 dc5 pm5 an5 cd5 ct5), sl5⟩) (c5 : PySem.W.codeIn K cd5 "_law_depths" = true) (k5 : PySem.W.keepIn K (.ref f5) = true)
    (a6 : PySem.W.nsIn K mainGlobals "is_name" = some (some (.ref f6))) (l6 : K.lookup f6 = some ⟨oc6, od6, .func (PySem.W.fnOf "is_name" "is_name" (defArgs s_is_name) (defBody s_is_name) (defScope s_is_name) .none kV6 dc6 pm6 an6 cd6 ct6), sl6⟩) (c6 : PySem.W.codeIn K cd6 "is_name" = true) (k6 : PySem.W.keepIn K (.ref f6) = true)
    (a7 : PySem.W.nsIn K mainGlobals "name_table" = some (some (.ref f7))) (l7 : K.lookup f7 = some ⟨oc7, od7, .func (PySem.W.fnOf "name_table" "name_table" (defArgs s_name_table) (defBody s_name_table) (defScope s_name_table) .none kV7 dc7 pm7 an7 cd7 ct7), sl7⟩) (c7 : PySem.W.codeIn K cd7 "name_table" = true) (k7 : PySem.W.keepIn K (.ref f7) = true)
    (a8 : PySem.W.nsIn K mainGlobals "numbered_name" = some (some (.ref f8))) (l8 : K.lookup f8 = some ⟨oc8, od8, .func (PySem.W.fnOf "numbered_name" "numbered_name" (defArgs s_numbered_name) (defBody s_numbered_name) (defScope s_numbered_name) .none kV8 dc8 pm8 an8 cd8 ct8), sl8⟩) (c8 : PySem.W.codeIn K cd8 "numbered_name" = true) (k8 : PySem.W.keepIn K (.ref f8) = true)
    (a9 : PySem.W.nsIn K mainGlobals "bound_names" = some (some (.ref f9))) (l9 : K.lookup f9 = some ⟨oc9, od9, .func (PySem.W.fnOf "bound_names" "bound_names" (defArgs s_bound_names) (defBody s_bound_names) (defScope s_bound_names) .none kV9 dc9 pm9 an9 cd9 ct9), sl9⟩) (c9 : PySem.W.codeIn K cd9 "bound_names" = true) (k9 : PySem.W.keepIn K (.ref f9) = true)
    (a10 : PySem.W.nsIn K mainGlobals "written_variable" = some (some (.ref f10))) (l10 : K.lookup f10 = some ⟨oc10, od10, .func (PySem.W.fnOf "written_variable" "written_variable" (defArgs s_written_variable) (defBody s_written_variable) (defScope s_written_variable) .none kV10 dc10 pm10 an10 cd10 ct10), sl10⟩) (c10 : PySem.W.codeIn K cd10 "written_variable" = true) (k10 : PySem.W.keepIn K (.ref f10) = true)
    (a11 : PySem.W.nsIn K mainGlobals "is_abstraction" = some (some (.ref f11))) (l11 : K.lookup f11 = some ⟨oc11, od11, .func (PySem.W.fnOf "is_abstraction" "is_abstraction" (defArgs s_is_abstraction) (defBody s_is_abstraction) (defScope s_is_abstraction) .none kV11 dc11 pm11 an11 cd11 ct11), sl11⟩) (c11 : PySem.W.codeIn K cd11 "is_abstraction" = true) (k11 : PySem.W.keepIn K (.ref f11) = true)
    (a12 : PySem.W.nsIn K mainGlobals "written_abstraction" = some (some (.ref f12))) (l12 : K.lookup f12 = some ⟨oc12, od12, .func (PySem.W.fnOf "written_abstraction" "written_abstraction" (defArgs s_written_abstraction) (defBody s_written_abstraction) (defScope s_written_abstraction) .none kV12 dc12 pm12 an12 cd12 ct12), sl12⟩) (c12 : PySem.W.codeIn K cd12 "written_abstraction" = true) (k12 : PySem.W.keepIn K (.ref f12) = true)
    (a13 : PySem.W.nsIn K mainGlobals "written_application" = some (some (.ref f13))) (l13 : K.lookup f13 = some ⟨oc13, od13, .func (PySem.W.fnOf "written_application" "written_application" (defArgs s_written_application) (defBody s_written_application) (defScope s_written_application) .none kV13 dc13 pm13 an13 cd13 ct13), sl13⟩) (c13 : PySem.W.codeIn K cd13 "written_application" = true) (k13 : PySem.W.keepIn K (.ref f13) = true)
    (a14 : PySem.W.nsIn K mainGlobals "show" = some (some (.ref f14))) (l14 : K.lookup f14 = some ⟨oc14, od14, .func (PySem.W.fnOf "show" "show" (defArgs s_show) (defBody s_show) (defScope s_show) .none kV14 dc14 pm14 an14 cd14 ct14), sl14⟩) (c14 : PySem.W.codeIn K cd14 "show" = true) (k14 : PySem.W.keepIn K (.ref f14) = true)
    (a15 : PySem.W.nsIn K mainGlobals "_law_own_names" = some (some (.ref f15))) (l15 : K.lookup f15 = some ⟨oc15, od15, .func (PySem.W.fnOf "_law_own_names" "_law_own_names" (defArgs s_law_own_names) (defBody s_law_own_names) (defScope s_law_own_names) .none kV15 dc15 pm15 an15 cd15 ct15), sl15⟩) (c15 : PySem.W.codeIn K cd15 "_law_own_names" = true) (k15 : PySem.W.keepIn K (.ref f15) = true)
    (a16 : PySem.W.nsIn K mainGlobals "_law_shown" = some (some (.ref f16))) (l16 : K.lookup f16 = some ⟨oc16, od16, .func (PySem.W.fnOf "_law_shown" "_law_shown" (defArgs s_law_shown) (defBody s_law_shown) (defScope s_law_shown) .none kV16 dc16 pm16 an16 cd16 ct16), sl16⟩) (c16 : PySem.W.codeIn K cd16 "_law_shown" = true) (k16 : PySem.W.keepIn K (.ref f16) = true)
    (a17 : PySem.W.nsIn K mainGlobals "_law_is_name" = some (some (.ref f17))) (l17 : K.lookup f17 = some ⟨oc17, od17, .func (PySem.W.fnOf "_law_is_name" "_law_is_name" (defArgs s_law_is_name) (defBody s_law_is_name) (defScope s_law_is_name) .none kV17 dc17 pm17 an17 cd17 ct17), sl17⟩) (c17 : PySem.W.codeIn K cd17 "_law_is_name" = true) (k17 : PySem.W.keepIn K (.ref f17) = true)
    (a18 : PySem.W.nsIn K mainGlobals "_law_told" = some (some (.ref f18))) (l18 : K.lookup f18 = some ⟨oc18, od18, .func (PySem.W.fnOf "_law_told" "_law_told" (defArgs s_law_told) (defBody s_law_told) (defScope s_law_told) .none kV18 dc18 pm18 an18 cd18 ct18), sl18⟩) (c18 : PySem.W.codeIn K cd18 "_law_told" = true) (k18 : PySem.W.keepIn K (.ref f18) = true)
    (a19 : PySem.W.nsIn K mainGlobals "law" = some (some (.ref f19))) (l19 : K.lookup f19 = some ⟨oc19, od19, .func (PySem.W.fnOf "law" "law" (defArgs s_law) (defBody s_law) (defScope s_law) .none kV19 dc19 pm19 an19 cd19 ct19), sl19⟩) (c19 : PySem.W.codeIn K cd19 "law" = true) (k19 : PySem.W.keepIn K (.ref f19) = true)
    (z_int : PySem.W.nsIn K mainGlobals "int" = some none)
    (z_list : PySem.W.nsIn K mainGlobals "list" = some none)
    (z_len : PySem.W.nsIn K mainGlobals "len" = some none)
    (z_abs : PySem.W.nsIn K mainGlobals "abs" = some none)
    (z_isinstance : PySem.W.nsIn K mainGlobals "isinstance" = some none)
    (z_tuple : PySem.W.nsIn K mainGlobals "tuple" = some none)
    (z_range : PySem.W.nsIn K mainGlobals "range" = some none)
    (z_zip : PySem.W.nsIn K mainGlobals "zip" = some none)
    (z_reversed : PySem.W.nsIn K mainGlobals "reversed" = some none)
    (z_all : PySem.W.nsIn K mainGlobals "all" = some none)
    (z_str : PySem.W.nsIn K mainGlobals "str" = some none)
    (z_ValueError : PySem.W.nsIn K mainGlobals "ValueError" = some none)
    (g_MOST_LENGTH : PySem.W.nsIn K mainGlobals "MOST_LENGTH" = some (some (.int 10 t0)))
    (g_LETTERS : PySem.W.nsIn K mainGlobals "LETTERS" = some (some (.str "abcdefghijklmnopqrstuvwxyz" t100)))
    (g_DIGITS : PySem.W.nsIn K mainGlobals "DIGITS" = some (some (.str "0123456789" t101)))
    (e_LyditeError : PySem.W.nsIn K mainGlobals "LyditeError" = some (some (.ref cc0)))
    (e_BadNames : PySem.W.nsIn K mainGlobals "BadNames" = some (some (.ref cc5)))
    (y_t_LyditeError : PySem.W.typeIn K (.ref cc0) = some (.type "type"))
    (y_h3_LyditeError : PySem.W.hasDictIn K cc0 = true)
    (y_x_BadNames : PySem.W.excIn K cc5 [.type "ValueError", .type "Exception", .type "BaseException", .type "object"] "ValueError.__new__" = true)
    (y_k_BadNames : PySem.W.keepIn K (.ref cc5) = true)
    (y_b_BadNames : PySem.W.subIn K (.ref cc5) (.type "BaseException") = some true)
    (y_t_BadNames : PySem.W.typeIn K (.ref cc5) = some (.type "type"))
    (y_s0_BadNames : PySem.W.subIn K (.ref cc5) (.ref cc0) = some true)
    (y_sv_BadNames : PySem.W.subIn K (.ref cc5) (.type "ValueError") = some true)
    (y_s5_BadNames : PySem.W.subIn K (.ref cc5) (.ref cc5) = some true)
    (y_h1_BadNames : PySem.W.findIn K (.ref cc5) "__getattribute__" = some (some (.builtin "BaseException.__getattribute__")))
    (y_h2_BadNames : PySem.W.findIn K (.ref cc5) "__getattr__" = some none)
    (y_h3_BadNames : PySem.W.hasDictIn K cc5 = true)
    (y_h4_BadNames : PySem.W.findIn K (.ref cc5) "__class__" = some (some (.builtin "object.__class__")))
    (y_h7_BadNames : PySem.W.mroIn K cc5 (.type "object") = some true)
    (y_h5_BadNames : PySem.W.specialIn K (.builtin "object.__class__") "__get__" = some (some (.builtin "getset_descriptor.__get__")))
    (y_h6_BadNames : PySem.W.takesIn K (.builtin "object.__class__") = some true)
    (eT : cd6 = .ref cT) (lT : K.lookup cT = some ⟨ocT, odT, .fields vsT, slT⟩) (vT : vsT[11]? = some (.ref PT)) (nT : K.lookup PT = none) (rT : (recsOf q).find? (fun e => e.name == ("is_name" : Str)) = some r0)
    (hT : ∀ (y : Str) (c P : Addr) (r : DefRec), (recsOf q).find? (fun e => e.name == y) = some r → PySem.W.tabIn K y = some (c, P) → PySem.W.CodeHd h c P ∧ h.get? P = some { cls := .none, data := .fields #[] })
    : LamX.LawAtS l w K CX0 60 63 "script" mg fa h := by
  have e := hfa.symm.trans (PySem.W.mg_of X G a19)
  cases e
  have T : Txt w K mg (fun n => match n with | 0 => t0 | 100 => t100 | _ => t101) (fun n => match n with | 0 => cc0 | _ => cc5) := ⟨PySem.W.mg_none_of X G z_int, PySem.W.mg_none_of X G z_list, PySem.W.mg_none_of X G z_len, PySem.W.mg_none_of X G z_abs, PySem.W.mg_none_of X G z_isinstance, PySem.W.mg_none_of X G z_tuple, PySem.W.mg_none_of X G z_range, PySem.W.mg_none_of X G z_zip, PySem.W.mg_none_of X G z_reversed, PySem.W.mg_none_of X G z_all, PySem.W.mg_none_of X G z_str, PySem.W.mg_of X G g_MOST_LENGTH, PySem.W.mg_of X G g_LETTERS, PySem.W.mg_of X G g_DIGITS, PySem.W.mg_none_of X G z_ValueError, PySem.W.mg_of X G e_LyditeError, y_t_LyditeError, y_h3_LyditeError, PySem.W.mg_of X G e_BadNames, y_x_BadNames, y_k_BadNames, y_b_BadNames, y_t_BadNames, y_s0_BadNames, y_sv_BadNames, y_s5_BadNames, y_h1_BadNames, y_h2_BadNames, y_h3_BadNames, y_h4_BadNames, y_h7_BadNames, y_h5_BadNames, y_h6_BadNames⟩
  have tabE : PySem.W.tabIn K "is_name" = some (cT, PT) := by
    subst eT
    unfold PySem.W.tabIn
    rw [a6]
    simp only [l6, PySem.W.fnOf, lT, vT]
  have tabH := hT _ _ _ _ rT tabE
  exact ⟨PySem.W.fnOf "law" "law" (defArgs s_law) (defBody s_law) (defScope s_law) .none kV19 dc19 pm19 an19 cd19 ct19, [(cT, PT)], spLaw K PT, fun p hp => by rw [List.mem_singleton.mp hp]; exact tabH.2, fun p hp => by rw [List.mem_singleton.mp hp]; exact nT, fun p hp => by rw [List.mem_singleton.mp hp]; exact tabH.1, fun s v => .of_eq rfl, fun H a ns hl _ hH hS => ⟨a, ns, rfl, hS, hl, ⟨#[], hH (cT, PT) (List.mem_singleton.mpr rfl), by first | trivial | simp [TriplesOk]⟩, fun _ => rfl⟩, fun base _ _ hTB => by
    have tbH0 := hTB (cT, PT) (List.mem_singleton.mpr rfl)
    have tbH : GxR.TabB base mg cT PT := ⟨tbH0.1, tbH0.2, tbH0.3⟩
    have F1 := fun_mk (st := s_law_draw) l1 c1 k1
    have D1 := Def.of (P := l.prog) (w := w) (base := base) (k := 1) (PySem.W.mg_of X G a1) k1 (F1.binds (ps := ["stream", "many"]) fun _ _ _ _ _ _ us hl => match us, hl with | [_, _], _ => rfl) (ok_draw F1 T)
    have F2 := fun_mk (st := s_law_stream) l2 c2 k2
    have D2 := Def.of (P := l.prog) (w := w) (base := base) (k := 1) (PySem.W.mg_of X G a2) k2 (F2.binds (ps := ["script"]) fun _ _ _ _ _ _ us hl => match us, hl with | [_], _ => rfl) (ok_stream F2 T)
    have F3 := fun_mk (st := s_law_term) l3 c3 k3
    have D3 := Def.of (P := l.prog) (w := w) (base := base) (k := 2) (PySem.W.mg_of X G a3) k3 (F3.binds (ps := ["stream", "size", "loose"]) fun _ _ _ _ _ _ us hl => match us, hl with | [_, _, _], _ => rfl) (ok_term F3 T D1)
    have F4 := fun_mk (st := s_depths) l4 c4 k4
    have D4 := Def.of (P := l.prog) (w := w) (base := base) (k := 1) (PySem.W.mg_of X G a4) k4 (F4.binds (ps := ["term"]) fun _ _ _ _ _ _ us hl => match us, hl with | [_], _ => rfl) (ok_depths F4 T)
    have F5 := fun_mk (st := s_law_depths) l5 c5 k5
    have D5 := Def.of (P := l.prog) (w := w) (base := base) (k := 1) (PySem.W.mg_of X G a5) k5 (F5.binds (ps := ["term"]) fun _ _ _ _ _ _ us hl => match us, hl with | [_], _ => rfl) (ok_ldepths F5 T)
    have F6 := fun_mk (st := s_is_name) l6 c6 k6
    have D6 := Def.of (P := l.prog) (w := w) (base := base) (k := 2) (PySem.W.mg_of X G a6) k6 (F6.binds (ps := ["value"]) fun _ _ _ _ _ _ us hl => match us, hl with | [_], _ => rfl) ((fun F T => ok_isname F T tbH eT) F6 T)
    have F7 := fun_mk (st := s_name_table) l7 c7 k7
    have D7 := Def.of (P := l.prog) (w := w) (base := base) (k := 3) (PySem.W.mg_of X G a7) k7 (F7.binds (ps := ["names"]) fun _ _ _ _ _ _ us hl => match us, hl with | [_], _ => rfl) (ok_nmtable F7 T D6)
    have F8 := fun_mk (st := s_numbered_name) l8 c8 k8
    have D8 := Def.of (P := l.prog) (w := w) (base := base) (k := 1) (PySem.W.mg_of X G a8) k8 (F8.binds (ps := ["number"]) fun _ _ _ _ _ _ us hl => match us, hl with | [_], _ => rfl) (ok_numbered F8 T)
    have F9 := fun_mk (st := s_bound_names) l9 c9 k9
    have D9 := Def.of (P := l.prog) (w := w) (base := base) (k := 2) (PySem.W.mg_of X G a9) k9 (F9.binds (ps := ["count", "taken"]) fun _ _ _ _ _ _ us hl => match us, hl with | [_, _], _ => rfl) (ok_bound F9 T D8)
    have F10 := fun_mk (st := s_written_variable) l10 c10 k10
    have D10 := Def.of (P := l.prog) (w := w) (base := base) (k := 1) (PySem.W.mg_of X G a10) k10 (F10.binds (ps := ["number", "depth", "bound", "names"]) fun _ _ _ _ _ _ us hl => match us, hl with | [_, _, _, _], _ => rfl) (ok_wvar F10 T)
    have F11 := fun_mk (st := s_is_abstraction) l11 c11 k11
    have D11 := Def.of (P := l.prog) (w := w) (base := base) (k := 1) (PySem.W.mg_of X G a11) k11 (F11.binds (ps := ["text"]) fun _ _ _ _ _ _ us hl => match us, hl with | [_], _ => rfl) (ok_isabs F11 T)
    have F12 := fun_mk (st := s_written_abstraction) l12 c12 k12
    have D12 := Def.of (P := l.prog) (w := w) (base := base) (k := 2) (PySem.W.mg_of X G a12) k12 (F12.binds (ps := ["name", "body"]) fun _ _ _ _ _ _ us hl => match us, hl with | [_, _], _ => rfl) (ok_wabs F12 T D11)
    have F13 := fun_mk (st := s_written_application) l13 c13 k13
    have D13 := Def.of (P := l.prog) (w := w) (base := base) (k := 2) (PySem.W.mg_of X G a13) k13 (F13.binds (ps := ["function", "argument"]) fun _ _ _ _ _ _ us hl => match us, hl with | [_, _], _ => rfl) (ok_wapp F13 T D11)
    have F14 := fun_mk (st := s_show) l14 c14 k14
    have D14 := Def.of (P := l.prog) (w := w) (base := base) (k := 6) (PySem.W.mg_of X G a14) k14 (F14.binds (ps := ["term", "names"]) fun _ _ _ _ _ _ us hl => match us, hl with | [_, _], _ => rfl) (ok_show F14 T D9 D7 D4 D12 D13 D10)
    have F15 := fun_mk (st := s_law_own_names) l15 c15 k15
    have D15 := Def.of (P := l.prog) (w := w) (base := base) (k := 1) (PySem.W.mg_of X G a15) k15 (F15.binds (ps := ["names", "many"]) fun _ _ _ _ _ _ us hl => match us, hl with | [_, _], _ => rfl) (ok_lown F15 T)
    have F16 := fun_mk (st := s_law_shown) l16 c16 k16
    have D16 := Def.of (P := l.prog) (w := w) (base := base) (k := 52) (PySem.W.mg_of X G a16) k16 (F16.binds (ps := ["term", "at", "depth", "own", "names"]) fun _ _ _ _ _ _ us hl => match us, hl with | [_, _, _, _, _], _ => rfl) (ok_lshown F16 T (PySem.W.mg_of X G a16) k16 (F16.binds (ps := ["term", "at", "depth", "own", "names"]) fun _ _ _ _ _ _ us hl => match us, hl with | [_, _, _, _, _], _ => rfl) 51)
    have F17 := fun_mk (st := s_law_is_name) l17 c17 k17
    have D17 := Def.of (P := l.prog) (w := w) (base := base) (k := 1) (PySem.W.mg_of X G a17) k17 (F17.binds (ps := ["name"]) fun _ _ _ _ _ _ us hl => match us, hl with | [_], _ => rfl) (ok_lisname F17 T)
    have F18 := fun_mk (st := s_law_told) l18 c18 k18
    have D18 := Def.of (P := l.prog) (w := w) (base := base) (k := 7) (PySem.W.mg_of X G a18) k18 (F18.binds (ps := ["term", "names"]) fun _ _ _ _ _ _ us hl => match us, hl with | [_, _], _ => rfl) (ok_told F18 T D14)
    have F19 := fun_mk (st := s_law) l19 c19 k19
    exact ok_law F19 T D2 D1 D3 D5 D17 D18 D16 D15⟩
theorem walk {l : PySem.W.OpenLaw} {q : Program} {loose : List Str} {XP : (Str → Option Value) → Heap → Prop} {YP : World → Heap → Prop} {d : DefRec} {K : Params → PySem.W.Frag} (hn : l.most = some 63) (hdf : d.params.defaults = [])
    (hY : ∀ (w : World) (h : Heap), YP w h → (K w.params).In h)
    (F : ∀ (w : World) (mg : Str → Option Value) (fa : Addr) (h : Heap), (K w.params).In h → h.Ns mainGlobals mg → mg d.name = some (.ref fa) →
      (∀ (y : Str) (c P : Addr) (r : DefRec), (recsOf q).find? (fun e => e.name == y) = some r → PySem.W.tabIn (K w.params) y = some (c, P) → PySem.W.CodeHd h c P ∧ h.get? P = some { cls := .none, data := .fields #[] }) →
      LamX.LawAtS l w (K w.params) CX0 60 63 "script" mg fa h) :
    PySem.W.WalkO q loose XP YP l.row.toRowW d [] (fun f vs => PySem.call f vs) :=
  walk_tab (n := 63) (k := 60) (x := "script") (CX := fun _ => CX0) hn (by decide) hdf ⟨rfl, by decide, by decide⟩ hY F fun _ _ _ _ _ z => z
end Ly
open PySem PySem.W PyProof.Rows in
set_option maxRecDepth 100000 in
set_option maxHeartbeats 0 in
theorem PySem.Challenge.cw_lydite_k13_show_holds : PySem.Challenge.rw_lydite_k13_show.Holds := by
  w_on; o_law; k_head; (case hw => w_witness2)
  k_fill
  refine Ly.walk (l := PySem.Challenge.rw_lydite_k13_show) rfl rfl (fun w h Y => PySem.W.kIn_of Y) ?F
  case F =>
    intro w mg fa h KX G hmg hT0
    refine' Ly.all_mk KX G hmg ?a1 ?l1 ?c1 ?k1 ?a2 ?l2 ?c2 ?k2 ?a3 ?l3 ?c3 ?k3 ?a4 ?l4 ?c4 ?k4 ?a5 ?l5 ?c5 ?k5 ?a6 ?l6 ?c6 ?k6 ?a7 ?l7 ?c7 ?k7 ?a8 ?l8 ?c8 ?k8 ?a9 ?l9 ?c9 ?k9 ?a10 ?l10 ?c10 ?k10 ?a11 ?l11 ?c11 ?k11 ?a12 ?l12 ?c12 ?k12 ?a13 ?l13 ?c13 ?k13 ?a14 ?l14 ?c14 ?k14 ?a15 ?l15 ?c15 ?k15 ?a16 ?l16 ?c16 ?k16 ?a17 ?l17 ?c17 ?k17 ?a18 ?l18 ?c18 ?k18 ?a19 ?l19 ?c19 ?k19 ?z_int ?z_list ?z_len ?z_abs ?z_isinstance ?z_tuple ?z_range ?z_zip ?z_reversed ?z_all ?z_str ?z_ValueError ?g_MOST_LENGTH ?g_LETTERS ?g_DIGITS ?e_LyditeError ?e_BadNames ?y_t_LyditeError ?y_h3_LyditeError ?y_x_BadNames ?y_k_BadNames ?y_b_BadNames ?y_t_BadNames ?y_s0_BadNames ?y_sv_BadNames ?y_s5_BadNames ?y_h1_BadNames ?y_h2_BadNames ?y_h3_BadNames ?y_h4_BadNames ?y_h7_BadNames ?y_h5_BadNames ?y_h6_BadNames ?eT ?lT ?vT ?nT ?rT hT0
    (case e_LyditeError => k_is)
    (case e_BadNames => k_is)
    (case a1 => k_is)
    (case l1 => k_is)
    (case c1 => k_is)
    (case k1 => k_is)
    (case a2 => k_is)
    (case l2 => k_is)
    (case c2 => k_is)
    (case k2 => k_is)
    (case a3 => k_is)
    (case l3 => k_is)
    (case c3 => k_is)
    (case k3 => k_is)
    (case a4 => k_is)
    (case l4 => k_is)
    (case c4 => k_is)
    (case k4 => k_is)
    (case a5 => k_is)
    (case l5 => k_is)
    (case c5 => k_is)
    (case k5 => k_is)
    (case a6 => k_is)
    (case l6 => k_is)
    (case c6 => k_is)
    (case k6 => k_is)
    (case a7 => k_is)
    (case l7 => k_is)
    (case c7 => k_is)
    (case k7 => k_is)
    (case a8 => k_is)
    (case l8 => k_is)
    (case c8 => k_is)
    (case k8 => k_is)
    (case a9 => k_is)
    (case l9 => k_is)
    (case c9 => k_is)
    (case k9 => k_is)
    (case a10 => k_is)
    (case l10 => k_is)
    (case c10 => k_is)
    (case k10 => k_is)
    (case a11 => k_is)
    (case l11 => k_is)
    (case c11 => k_is)
    (case k11 => k_is)
    (case a12 => k_is)
    (case l12 => k_is)
    (case c12 => k_is)
    (case k12 => k_is)
    (case a13 => k_is)
    (case l13 => k_is)
    (case c13 => k_is)
    (case k13 => k_is)
    (case a14 => k_is)
    (case l14 => k_is)
    (case c14 => k_is)
    (case k14 => k_is)
    (case a15 => k_is)
    (case l15 => k_is)
    (case c15 => k_is)
    (case k15 => k_is)
    (case a16 => k_is)
    (case l16 => k_is)
    (case c16 => k_is)
    (case k16 => k_is)
    (case a17 => k_is)
    (case l17 => k_is)
    (case c17 => k_is)
    (case k17 => k_is)
    (case a18 => k_is)
    (case l18 => k_is)
    (case c18 => k_is)
    (case k18 => k_is)
    (case a19 => k_is)
    (case l19 => k_is)
    (case c19 => k_is)
    (case k19 => k_is)
    (case z_int => k_is)
    (case z_list => k_is)
    (case z_len => k_is)
    (case z_abs => k_is)
    (case z_isinstance => k_is)
    (case z_tuple => k_is)
    (case z_range => k_is)
    (case z_zip => k_is)
    (case z_reversed => k_is)
    (case z_all => k_is)
    (case z_str => k_is)
    (case z_ValueError => k_is)
    (case g_MOST_LENGTH => k_is)
    (case g_LETTERS => k_is)
    (case g_DIGITS => k_is)
    (case y_t_LyditeError => k_is)
    (case y_h3_LyditeError => k_is)
    (case y_x_BadNames => k_exc)
    (case y_k_BadNames => k_is)
    (case y_b_BadNames => k_is)
    (case y_t_BadNames => k_is)
    (case y_s0_BadNames => k_is)
    (case y_sv_BadNames => k_is)
    (case y_s5_BadNames => k_is)
    (case y_h1_BadNames => k_is)
    (case y_h2_BadNames => k_is)
    (case y_h3_BadNames => k_is)
    (case y_h4_BadNames => k_is)
    (case y_h7_BadNames => k_is)
    (case y_h5_BadNames => k_is)
    (case y_h6_BadNames => k_is)
    (case eT => exact rfl)
    (case lT => k_is)
    (case vT => exact rfl)
    (case nT => kernel_rfl)
    (case rT => exact rfl)
