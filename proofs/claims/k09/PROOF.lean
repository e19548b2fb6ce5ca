import PyProof.Rows.All
import Wide.All
import OpenK.AllK
import Wide.FinOn
import HandS.ForMost
import HandS.Exc
import HandS.IsInst
import HandS.Style
import HandS.Flow
import HandS.Defaults
import HandS.Head0
import HandS.Head1
import HandS.Head2
import HandS.HeadEnd
import HandS.HeadHook1
import HandS.HeadHook2
import HandS.HeadHook3
import HandS.HeadHook4
import HandS.Codes
import HandS.SortKw
import HandS.ExcInit
import HandS.FStr
import HandS.Walk
import KE.KDictKeyed
import KE.KeyNested
import KE.SortData
import KE.SortKeyHeap
import KE.KDictWalk
import KE.DataCmp
import KE.DataMinMax
import HandS.Lambda
import HandS.EndTab
import HandS.HeadWalk
import HandS.DictComp
import HandS.DictEq
import HandS.TupLen
import HandS.Replace
import KE.KDictCopyH
import KE.KDictSum
import PySem.Challenge.RW_graphtwins_k09_octets_of_messages
set_option Elab.async false
set_option linter.all false
set_option maxRecDepth 100000
set_option maxHeartbeats 4000000
/-! ## Part A: heaps that grow, readings step by step (nothing of one law) -/
namespace GT
open PySem PySem.Spec PyProof.Rows L2
/-! ### what a step of a program may change: the objects in M; tuples never -/
structure Stp (M : List Addr) (H H' : Hp) : Prop where
  keep : ∀ c o, H c = some o → c ∉ M → H' c = some o
  tups : ∀ c xs, H c = some (.tup xs) → H' c = some (.tup xs)
  tbls : ∀ c ps, H' c = some (.tbl ps) → ∃ qs, H c = some (.tbl qs)
theorem Stp.refl {M : List Addr} (H : Hp) : Stp M H H := ⟨fun _ _ h _ => h, fun _ _ h => h, fun _ ps h => ⟨ps, h⟩⟩
theorem Stp.trans {M : List Addr} {H H1 H2 : Hp} (a : Stp M H H1) (b : Stp M H1 H2) : Stp M H H2 :=
  ⟨fun c o h n => b.keep c o (a.keep c o h n) n, fun c xs h => b.tups c xs (a.tups c xs h), fun c ps h => let ⟨qs, e⟩ := b.tbls c ps h; a.tbls c qs e⟩
theorem Stp.mono {M M' : List Addr} {H H1 : Hp} (a : Stp M H H1) (h : ∀ c ∈ M, c ∈ M') : Stp M' H H1 :=
  ⟨fun c o e n => a.keep c o e fun z => n (h c z), a.tups, a.tbls⟩
/-- a new object -/
theorem Stp.new {M : List Addr} {H : Hp} {p : Addr} {o : HO} (n : H p = none) (nb : ∀ ps, o ≠ .tbl ps := by exact fun _ z => nomatch z) : Stp M H (upd H p o) :=
  ⟨fun c u h _ => by rw [upd_ne (ne_of_none h n)]; exact h, fun c xs h => by rw [upd_ne (ne_of_none h n)]; exact h, fun c ps h => by
    by_cases e : c = p
    · rw [e, upd_same] at h; exact absurd (Option.some.inj h) (nb ps)
    · rw [upd_ne e] at h; exact ⟨ps, h⟩⟩
theorem Stp.add {M : List Addr} {H H1 : Hp} {p : Addr} {o : HO} (a : Stp M H H1) (n : H1 p = none) (nb : ∀ ps, o ≠ .tbl ps := by exact fun _ z => nomatch z) : Stp M H (upd H1 p o) := a.trans (.new n nb)
/-- an object of M is written -/
theorem Stp.wr {M : List Addr} {H : Hp} {p : Addr} {o u : HO} (hm : p ∈ M) (hu : H p = some u) (nt : ∀ xs, u ≠ .tup xs) (nb : ∀ ps, o ≠ .tbl ps := by exact fun _ z => nomatch z) : Stp M H (upd H p o) :=
  ⟨fun c v h n => by rw [upd_ne (fun z => n (by rw [z]; exact hm))]; exact h,
   fun c xs h => by rw [upd_ne (fun z => nt xs (by rw [z, hu] at h; exact Option.some.inj h))]; exact h, fun c ps h => by
    by_cases e : c = p
    · rw [e, upd_same] at h; exact absurd (Option.some.inj h) (nb ps)
    · rw [upd_ne e] at h; exact ⟨ps, h⟩⟩
theorem Stp.write {M : List Addr} {H H1 : Hp} {p : Addr} {o u : HO} (a : Stp M H H1) (hm : p ∈ M) (hu : H1 p = some u) (nt : ∀ xs, u ≠ .tup xs) (nb : ∀ ps, o ≠ .tbl ps := by exact fun _ z => nomatch z) : Stp M H (upd H1 p o) := a.trans (.wr hm hu nt nb)
/-- an object that was not yet there at H is written -/
theorem Stp.mut {M : List Addr} {H H1 : Hp} {p : Addr} {o : HO} (a : Stp M H H1) (n : H p = none) (nb : ∀ ps, o ≠ .tbl ps := by exact fun _ z => nomatch z) : Stp M H (upd H1 p o) :=
  ⟨fun c v h m => by rw [upd_ne (ne_of_none h n)]; exact a.keep c v h m, fun c xs h => by rw [upd_ne (ne_of_none h n)]; exact a.tups c xs h, fun c ps h => by
    by_cases e : c = p
    · rw [e, upd_same] at h; exact absurd (Option.some.inj h) (nb ps)
    · rw [upd_ne e] at h; exact a.tbls c ps h⟩
/-- what is free behind was free before -/
theorem Stp.free {M : List Addr} {H H1 : Hp} (a : Stp M H H1) {p : Addr} (n : H1 p = none) (hM : p ∉ M) : H p = none := by
  cases q : H p with
  | none => rfl
  | some o => rw [a.keep p o q hM] at n; cases n
theorem Stp.nil {H H1 : Hp} (a : Stp [] H H1) : Same H H1 := fun c o h => a.keep c o h (by simp)
theorem Stp.seq {M : List Addr} {H H1 : Hp} (a : Stp M H H1) {K : PySem.W.Frag} {p : Addr} {xs : List V} (h : SqL K H p xs) (n : p ∉ M) : SqL K H1 p xs := by
  rcases h with (h | ⟨o, h⟩) | h
  · exact .inl (.inl (a.keep _ _ h n))
  · exact .inl (.inr ⟨o, a.keep _ _ h n⟩)
  · exact .inr h
/-! ### readings, one step each -/
section
variable {σ : L2.St} {H : Hp} {Q : VK} {QT : Bool → Hp → Prop} {QA : List V → Hp → Prop} {D : Ends} {v x y : V} {te ta tb tc : TE} {tt tu : TT} {t u : TS} {K : PySem.W.Frag}
theorem i_var {i : Nat} (h : σ[i]? = some (some v)) (q : Q v H) : tVar i σ H Q := ⟨v, h, q⟩
theorem i_C (q : Q v H) : tC v σ H Q := q
theorem i_Yes (q : QT true H) : tYes σ H QT := q
theorem i_Op {r : R2} (q : ta σ H fun x H1 => tb σ H1 fun y H2 => r x y H2 Q) : tOp r ta tb σ H Q := q
theorem i_Un {r : V → Hp → VK → Prop} (q : ta σ H fun x H1 => r x H1 Q) : tUn r ta σ H Q := q
theorem i_I0 {g : Int → Int → V} {i j : Int} (q : Q (g i j) H) : rI0 g (.int i) (.int j) H Q := ⟨i, j, rfl, rfl, q⟩
theorem i_I {C : Int → Int → Prop} {g : Int → Int → V} {i j : Int} (c : C i j) (q : Q (g i j) H) : rI C g (.int i) (.int j) H Q := ⟨i, j, rfl, rfl, c, q⟩
theorem i_U {g : Int → V} {i : Int} (q : Q (g i) H) : rU g (.int i) H Q := ⟨i, rfl, q⟩
theorem i_Eq (s : scal x y = true) (q : Q (.bl (decide (x = y))) H) : rEq x y H Q := ⟨s, q⟩
theorem i_Ne (s : scal x y = true) (q : Q (.bl (!decide (x = y))) H) : rNe x y H Q := ⟨s, q⟩
theorem i_Test (q : te σ H fun x H' => ∃ k, x = .bl k ∧ QT k H') : tTest te σ H QT := q
theorem i_B (q : te σ H fun x H' => ∃ k, x = .bl k ∧ QT k H') : tB te σ H QT := q
theorem i_bl {k : Bool} (q : QT k H) : ∃ c, V.bl k = V.bl c ∧ QT c H := ⟨k, rfl, q⟩
theorem i_And (q : tt σ H fun c H1 => if c = true then tu σ H1 QT else QT false H1) : tAnd tt tu σ H QT := q
theorem i_Or (q : tt σ H fun c H1 => if c = true then QT true H1 else tu σ H1 QT) : tOr tt tu σ H QT := q
theorem i_Not (q : tt σ H fun c H1 => QT (!c) H1) : tNot tt σ H QT := q
theorem i_Nil (q : QA [] H) : tNil σ H QA := q
theorem i_Cons {tr : TA} (q : ta σ H fun x H1 => tr σ H1 fun xs H2 => QA (x :: xs) H2) : tCons ta tr σ H QA := q
theorem i_Seq (q : t { D with nx := u D } σ H) : tSeq t u D σ H := q
theorem i_Asg {g : TG} (q : te σ H fun x H1 => g x σ H1 D.nx) : tAsg te g D σ H := q
theorem i_Name {i : Nat} {Qs : L2.St → Hp → Prop} (q : Qs (σ.set i (some v)) H) : gName i v σ H Qs := q
theorem i_Ret (q : te σ H D.rt) : tRet te D σ H := q
theorem i_IfS (q : tt σ H fun b H1 => if b = true then t D σ H1 else u D σ H1) : tIfS tt t u D σ H := q
theorem i_Drop (q : te σ H fun _ H1 => D.nx σ H1) : tDrop te D σ H := q
theorem i_Next (q : D.nx σ H) : tNext D σ H := q
theorem i_If (q : tt σ H fun c H1 => if c = true then ta σ H1 Q else tb σ H1 Q) : tIf tt ta tb σ H Q := q
theorem i_Call {sp : Sp} {dvs : List V} {E : XK} {tr : TA} (q : tr σ H fun vs H1 => sp (vs ++ dvs) H1 Q E) : tCall sp dvs E tr σ H Q := q
theorem i_CB {r : List V → Hp → VK → Prop} {tr : TA} (q : tr σ H fun vs H1 => r vs H1 Q) : tCB r tr σ H Q := q
theorem i_ite {b : Bool} {A B : Prop} (h1 : b = true → A) (h2 : b = false → B) : if b = true then A else B := by
  cases b
  · exact h2 rfl
  · exact h1 rfl
theorem i_iteD {c : Prop} [Decidable c] {A B : Prop} (h1 : c → A) (h2 : ¬ c → B) : if decide c = true then A else B := by
  by_cases h : c
  · rw [if_pos (decide_eq_true h)]; exact h1 h
  · rw [if_neg (fun z => h (of_decide_eq_true z))]; exact h2 h
theorem i_iteN {c : Prop} [Decidable c] {A B : Prop} (h1 : ¬ c → A) (h2 : c → B) : if (!decide c) = true then A else B := by
  by_cases h : c
  · rw [if_neg (by simp [h])]; exact h2 h
  · rw [if_pos (by simp [h])]; exact h1 h
theorem i_IxL {p : Addr} {xs : List V} {i : Int} (s : SqL K H p xs) (e : atI xs i = some v) (q : Q v H) : rIxL K (.ref p) (.int i) H Q := ⟨p, xs, i, v, rfl, rfl, s, e, q⟩
theorem i_IxT {p : Addr} {xs : List V} {i : Int} (s : SqT K H p xs) (e : atI xs i = some v) (q : Q v H) : rIxT K (.ref p) (.int i) H Q := ⟨p, xs, i, v, rfl, rfl, s, e, q⟩
theorem i_IxS {z : Str} {i : Int} {c : Nat} (s : z.length ≤ sizeLine) (e : atI z.cps.toList i = some c) (q : Q (.str ⟨#[c]⟩) H) : rIxS (.str z) (.int i) H Q := ⟨z, i, c, rfl, rfl, s, e, q⟩
theorem i_gTup {n : Nat} {tg : TGs} {Qs : L2.St → Hp → Prop} {a : Addr} {xs : List V} (s : SqT K H a xs) (e : xs.length = n) (q : tg xs σ H Qs) : gTup K n tg (.ref a) σ H Qs := ⟨a, xs, rfl, s, e, q⟩
theorem i_gNil {Qs : L2.St → Hp → Prop} (q : Qs σ H) : gNil [] σ H Qs := ⟨rfl, q⟩
theorem i_gCons {g : TG} {tg : TGs} {Qs : L2.St → Hp → Prop} {r : List V} (q : g v σ H fun σ' H' => tg r σ' H' Qs) : gCons g tg (v :: r) σ H Qs := ⟨v, r, rfl, q⟩
theorem i_Tup {tr : TA} (h : tr σ H fun xs H1 => xs.length ≤ sizeLine ∧ ∀ p, H1 p = none → Q (.ref p) (upd H1 p (.tup xs))) : tTup tr σ H Q := h
theorem i_Lst {tr : TA} (h : tr σ H fun xs H1 => xs.length ≤ sizeLine ∧ ∀ p, H1 p = none → Q (.ref p) (upd H1 p (.lst xs))) : tLst tr σ H Q := h
/-- a new tuple, a new list: the heap behind told by what is known of it -/
theorem i_NewT {M : List Addr} {H0 : Hp} {xs : List V} (s : Stp M H0 H) (l : xs.length ≤ sizeLine) (q : ∀ p H1, H p = none → H1 p = some (.tup xs) → Stp [] H H1 → Stp M H0 H1 → Q (.ref p) H1) :
    xs.length ≤ sizeLine ∧ ∀ p, H p = none → Q (.ref p) (upd H p (.tup xs)) := ⟨l, fun p n => q p _ n upd_same (.new n) (s.add n)⟩
theorem i_NewL {M : List Addr} {H0 : Hp} {xs : List V} (s : Stp M H0 H) (l : xs.length ≤ sizeLine) (q : ∀ p H1, H p = none → H1 p = some (.lst xs) → Stp [] H H1 → Stp M H0 H1 → Q (.ref p) H1) :
    xs.length ≤ sizeLine ∧ ∀ p, H p = none → Q (.ref p) (upd H p (.lst xs)) := ⟨l, fun p n => q p _ n upd_same (.new n) (s.add n)⟩
theorem i_Sl {r : V → Option Int → Option Int → Hp → VK → Prop} {tl th : TO} (q : te σ H fun x H1 => tl σ H1 fun l H2 => th σ H2 fun u H3 => r x l u H3 Q) : tSl r te tl th σ H Q := q
theorem i_NoPart {QO : Option Int → Hp → Prop} (q : QO none H) : tNoPart σ H QO := q
theorem i_Part {QO : Option Int → Hp → Prop} (q : te σ H fun x H1 => ∃ i, x = .int i ∧ QO (some i) H1) : tPart te σ H QO := q
theorem i_intV {k : Int} {A : Int → Prop} (q : A k) : ∃ c, V.int k = V.int c ∧ A c := ⟨k, rfl, q⟩
theorem i_SlS {z : Str} {lo hi : Option Int} (s : z.length ≤ sizeLine) (q : Q (.str (cutS z lo hi)) H) : rSlS (.str z) lo hi H Q := ⟨z, rfl, s, q⟩
theorem i_SlL {a : Addr} {xs : List V} {lo hi : Option Int} (s : SqL K H a xs) (q : ∀ p, H p = none → Q (.ref p) (upd H p (.lst (cutV xs lo hi)))) : rSlL K (.ref a) lo hi H Q := ⟨a, xs, rfl, s, q⟩
theorem i_Par {i j : Nat} {tr : TA} (q : tr σ H fun vs H1 => ∃ v w, vs = [v, w] ∧ D.nx ((σ.set i (some v)).set j (some w)) H1) : tPar i j tr D σ H := q
theorem i_Aug {i : Nat} {ti : TIp} (h : σ[i]? = some (some x)) (q : te σ H fun y H1 => ti x y H1 fun z H2 => D.nx (σ.set i (some z)) H2) : tAug i te ti D σ H := ⟨x, h, q⟩
theorem i_Chain {r r' : R2} (q : ta σ H fun x H1 => tb σ H1 fun y H2 => r x y H2 fun z H3 => ∃ k, z = .bl k ∧ (if k = true then tc σ H3 fun w' H4 => r' y w' H4 Q else Q (.bl false) H3)) : tChain r r' ta tb tc σ H Q := q
theorem i_AndV (q : ta σ H fun x H1 => ∃ c, x = .bl c ∧ if c = true then tb σ H1 Q else Q (.bl false) H1) : tAndV ta tb σ H Q := q
theorem i_OrV (q : ta σ H fun x H1 => ∃ c, x = .bl c ∧ if c = true then Q (.bl true) H1 else tb σ H1 Q) : tOrV ta tb σ H Q := q
theorem i_NotV (q : ta σ H fun x H1 => ∃ c, x = .bl c ∧ Q (.bl (!c)) H1) : tNotV ta σ H Q := q
theorem i_blV {k : Bool} {A : Bool → Prop} (q : A k) : ∃ c, V.bl k = V.bl c ∧ A c := ⟨k, rfl, q⟩
theorem qbl {a b : Bool} (q : Q (.bl a) H) (e : a = b) : Q (.bl b) H := by rw [← e]; exact q
theorem qv (q : Q x H) (e : x = y) : Q y H := by rw [← e]; exact q
theorem i_BM {T : String} {r : V → List V → Hp → VK → Prop} {tr : TA} (q : te σ H fun x H1 => tyV K T x H1 ∧ tr σ H1 fun xs H2 => r x xs H2 Q) : tBM K T r te tr σ H Q := q
theorem i_BM0 {T : String} {r : V → List V → Hp → VK → Prop} (q : te σ H fun x H1 => tyV K T x H1 ∧ r x [] H1 Q) : tBM0 K T r te σ H Q := q
end
end GT
namespace GT
open PySem PySem.Spec PyProof.Rows L2
/-! ### defs and their calls -/
/-- a def of the text stands behind the top under its name -/
def Df (K : PySem.W.Frag) (mg : Str → Option Value) (d : He.DefD) : Prop :=
  ∃ (f : Addr) (fd : FuncData), FunD K d.name d.qual d.params d.body d.scope [] [] f fd ∧ mg d.name = some (.ref f)
/-- the name x is a def that keeps sp and raises nothing -/
def Cal (P : Program) (w : World) (K : PySem.W.Frag) (mg : Str → Option Value) (base : Heap) (k : Nat) (x : Str) (ps : List Str) (sp : Sp) : Prop :=
  ∃ (f : Addr) (fd : FuncData), FnOk P w K mg base CX0 k f fd ps sp ∧ mg x = some (.ref f) ∧ PySem.W.keepIn K (.ref f) = true ∧ Binds K fd ps []
/-- the built-ins that are used are still the built-ins -/
structure Blt (mg : Str → Option Value) : Prop where
  len : mg "len" = none
  int : mg "int" = none
  range : mg "range" = none
  isinstance : mg "isinstance" = none
  sorted : mg "sorted" = none
  list : mg "list" = none
  tuple : mg "tuple" = none
  dict : mg "dict" = none
  str : mg "str" = none
  bool : mg "bool" = none
  max : mg "max" = none
  min : mg "min" = none
  all : mg "all" = none
  any : mg "any" = none
  sum : mg "sum" = none
  ord : mg "ord" = none
  enumerate : mg "enumerate" = none
section
variable {X : Cx} {e : Expr} {es : List Expr} {t : TA} {x : Str} {p pos : Pos} {ps : List Str} {sp : Sp} {k : Nat}
theorem pc_call (C : Cal X.prog X.w X.K X.mg X.base k x ps sp) (hr : Room k X.A) (hg : Gl X x) (ha : PA X (e :: es) t)
    (hdb : (x == ("__debug__" : Str)) = false := by decide) (he : starEach (e :: es) X.env = (false, eval e X.env) :: starEach es X.env := by rfl) (hpl : (backTo pos (starEach es X.env)).any (·.1) = false := by rfl) :
    PE X (.Call (.Name x p) (e :: es) [] pos) (tCall sp [] E0 t) := by
  obtain ⟨f, fd, F, hm, hk, hb⟩ := C
  exact pe_call F hr hg hm hk hb .nil pass0 ha hdb he hpl
end
end GT
namespace GT
open PySem PySem.Spec PyProof.Rows L2
section
variable {X : Cx} {x : Str} {pos : Pos}
theorem pe_gi {i : Int} (hg : Gl X x) (hm : ∃ t, X.mg x = some (.int i t)) (hd : (x == ("__debug__" : Str)) = false := by decide) : PE X (.Name x pos) (tC (.int i)) := by
  obtain ⟨t, hm⟩ := hm
  exact pe_glob hg hm ⟨t, rfl⟩ hd
theorem pe_gs {z : Str} (hg : Gl X x) (hm : ∃ t, X.mg x = some (.str z t)) (hd : (x == ("__debug__" : Str)) = false := by decide) : PE X (.Name x pos) (tC (.str z)) := by
  obtain ⟨t, hm⟩ := hm
  exact pe_glob hg hm ⟨t, rfl⟩ hd
theorem pe_gt {a : Addr} (hg : Gl X x) (hm : X.mg x = some (.ref a)) (hd : (x == ("__debug__" : Str)) = false := by decide) : PE X (.Name x pos) (tC (.ref a)) := pe_glob hg hm rfl hd
end
end GT
namespace GT
open PySem PySem.Spec PyProof.Rows L2
/-! ### parts that only reckon: their value at once -/
def Vl (te : TE) (σ : L2.St) (H : Hp) (v : V) : Prop := ∀ Q : VK, Q v H → te σ H Q
def Tl (tt : TT) (σ : L2.St) (H : Hp) (b : Bool) : Prop := ∀ Q : Bool → Hp → Prop, Q b H → tt σ H Q
section
variable {σ : L2.St} {H : Hp} {Q : VK} {QT : Bool → Hp → Prop} {v x y : V} {te ta tb tc : TE} {tt tu : TT} {a b : Bool} {i j k : Int}
theorem vl_var {n : Nat} (h : σ[n]? = some (some v)) : Vl (tVar n) σ H v := fun _ q => ⟨v, h, q⟩
theorem vl_c : Vl (tC v) σ H v := fun _ q => q
theorem vl_I0 {g : Int → Int → V} (ha : Vl ta σ H (.int i)) (hb : Vl tb σ H (.int j)) : Vl (tOp (rI0 g) ta tb) σ H (g i j) := fun _ q => ha _ (hb _ ⟨i, j, rfl, rfl, q⟩)
theorem vl_I {C : Int → Int → Prop} {g : Int → Int → V} (ha : Vl ta σ H (.int i)) (hb : Vl tb σ H (.int j)) (c : C i j) : Vl (tOp (rI C g) ta tb) σ H (g i j) := fun _ q => ha _ (hb _ ⟨i, j, rfl, rfl, c, q⟩)
theorem vl_U {g : Int → V} (ha : Vl ta σ H (.int i)) : Vl (tUn (rU g) ta) σ H (g i) := fun _ q => ha _ ⟨i, rfl, q⟩
theorem vl_eq (ha : Vl ta σ H x) (hb : Vl tb σ H y) (s : scal x y = true) : Vl (tOp rEq ta tb) σ H (.bl (decide (x = y))) := fun _ q => ha _ (hb _ ⟨s, q⟩)
theorem vl_ne (ha : Vl ta σ H x) (hb : Vl tb σ H y) (s : scal x y = true) : Vl (tOp rNe ta tb) σ H (.bl (!decide (x = y))) := fun _ q => ha _ (hb _ ⟨s, q⟩)
theorem vl_and (ha : Vl ta σ H (.bl a)) (hb : Vl tb σ H (.bl b)) : Vl (tAndV ta tb) σ H (.bl (a && b)) := fun _ q => ha _ ⟨a, rfl, by
  cases a
  · exact q
  · exact hb _ q⟩
theorem vl_or (ha : Vl ta σ H (.bl a)) (hb : Vl tb σ H (.bl b)) : Vl (tOrV ta tb) σ H (.bl (a || b)) := fun _ q => ha _ ⟨a, rfl, by
  cases a
  · exact hb _ q
  · exact q⟩
theorem vl_not (ha : Vl ta σ H (.bl a)) : Vl (tNotV ta) σ H (.bl (!a)) := fun _ q => ha _ ⟨a, rfl, q⟩
theorem vl_chain {p p' : Int → Int → Bool} (ha : Vl ta σ H (.int i)) (hb : Vl tb σ H (.int j)) (hc : Vl tc σ H (.int k)) :
    Vl (tChain (rI0 fun i j => .bl (p i j)) (rI0 fun i j => .bl (p' i j)) ta tb tc) σ H (.bl (p i j && p' j k)) := fun Q q => ha _ (hb _ ⟨i, j, rfl, rfl, _, rfl, by
  show if p i j = true then _ else _
  cases e : p i j
  · rw [e] at q; exact q
  · rw [e] at q; exact hc _ ⟨j, k, rfl, rfl, q⟩⟩)
theorem vl_ifx (ht : Tl tt σ H a) (ha : Vl ta σ H x) (hb : Vl tb σ H y) : Vl (tIf tt ta tb) σ H (if a = true then x else y) := fun Q q => ht _ (by
  cases a
  · exact hb _ q
  · exact ha _ q)
theorem tl_test (h : Vl te σ H (.bl b)) : Tl (tTest te) σ H b := fun _ q => h _ ⟨b, rfl, q⟩
theorem tl_B (h : Vl te σ H (.bl b)) : Tl (tB te) σ H b := fun _ q => h _ ⟨b, rfl, q⟩
theorem tl_and (h1 : Tl tt σ H a) (h2 : Tl tu σ H b) : Tl (tAnd tt tu) σ H (a && b) := fun _ q => h1 _ (by
  cases a
  · exact q
  · exact h2 _ q)
theorem tl_or (h1 : Tl tt σ H a) (h2 : Tl tu σ H b) : Tl (tOr tt tu) σ H (a || b) := fun _ q => h1 _ (by
  cases a
  · exact h2 _ q
  · exact q)
theorem tl_not (h1 : Tl tt σ H a) : Tl (tNot tt) σ H (!a) := fun _ q => h1 _ q
/-- a reading whose parts only reckon -/
theorem p_AndV (h : Vl (tAndV ta tb) σ H v) (q : Q v H) : tAndV ta tb σ H Q := h Q q
theorem p_OrV (h : Vl (tOrV ta tb) σ H v) (q : Q v H) : tOrV ta tb σ H Q := h Q q
theorem p_Chain {r r' : R2} (h : Vl (tChain r r' ta tb tc) σ H v) (q : Q v H) : tChain r r' ta tb tc σ H Q := h Q q
theorem p_If (h : Vl (tIf tt ta tb) σ H v) (q : Q v H) : tIf tt ta tb σ H Q := h Q q
theorem p_And (h : Tl (tAnd tt tu) σ H b) (q : QT b H) : tAnd tt tu σ H QT := h QT q
theorem p_Or (h : Tl (tOr tt tu) σ H b) (q : QT b H) : tOr tt tu σ H QT := h QT q
/-- behind a first part that does more -/
theorem j_and {c : Bool} {A : Prop} (h : Vl tb σ H (.bl b)) (e : Q (.bl false) H → A) (q : Q (.bl (c && b)) H) : if c = true then tb σ H Q else A := by
  cases c
  · exact e q
  · exact h _ q
theorem j_or {c : Bool} {A : Prop} (h : Vl tb σ H (.bl b)) (e : Q (.bl true) H → A) (q : Q (.bl (c || b)) H) : if c = true then A else tb σ H Q := by
  cases c
  · exact h _ q
  · exact e q
end
end GT

/-! ## data: None, bools, whole numbers, texts, tuples and lists of such; how they stand in a heap; == of them -/
namespace GT
open PySem PySem.Spec PyProof.Rows L2
inductive Dt where
  | non
  | bl (b : Bool)
  | num (i : Int)
  | txt (x : Str)
  | tup (ds : List Dt)
  | lst (ds : List Dt)
namespace Dt
mutual
/-- == of Python -/
def beq : Dt → Dt → Bool
  | .non, .non => true
  | .bl a, .bl b => a == b
  | .bl a, .num j => (if a then 1 else 0) == j
  | .num i, .bl b => i == (if b then 1 else 0)
  | .num a, .num b => decide (a = b)
  | .txt a, .txt b => decide (a = b)
  | .tup a, .tup b => beqAll a b
  | .lst a, .lst b => beqAll a b
  | .non, .bl _ | .non, .num _ | .non, .txt _ | .non, .tup _ | .non, .lst _ => false
  | .bl _, .non | .bl _, .txt _ | .bl _, .tup _ | .bl _, .lst _ => false
  | .num _, .non | .num _, .txt _ | .num _, .tup _ | .num _, .lst _ => false
  | .txt _, .non | .txt _, .bl _ | .txt _, .num _ | .txt _, .tup _ | .txt _, .lst _ => false
  | .tup _, .non | .tup _, .bl _ | .tup _, .num _ | .tup _, .txt _ | .tup _, .lst _ => false
  | .lst _, .non | .lst _, .bl _ | .lst _, .num _ | .lst _, .txt _ | .lst _, .tup _ => false
def beqAll : List Dt → List Dt → Bool
  | [], [] => true
  | a :: as, b :: bs => beq a b && beqAll as bs
  | [], _ :: _ => false
  | _ :: _, [] => false
end
mutual
theorem beq_self : ∀ a : Dt, beq a a = true
  | .non => rfl
  | .bl a => by simp [beq]
  | .num a => by simp [beq]
  | .txt a => by simp [beq]
  | .tup a => by rw [beq]; exact beqAll_self a
  | .lst a => by rw [beq]; exact beqAll_self a
theorem beqAll_self : ∀ a : List Dt, beqAll a a = true
  | [] => rfl
  | a :: as => by rw [beqAll, beq_self a, beqAll_self as]; rfl
end
mutual
def depth : Dt → Nat
  | .non => 0
  | .bl _ => 0
  | .num _ => 0
  | .txt _ => 0
  | .tup ks => depthAll ks + 1
  | .lst ks => depthAll ks + 1
def depthAll : List Dt → Nat
  | [] => 0
  | k :: ks => max (depth k) (depthAll ks)
end
mutual
/-- no list and no bool within -/
def flat : Dt → Bool
  | .non => true
  | .bl _ => false
  | .num _ => true
  | .txt _ => true
  | .tup ks => flatAll ks
  | .lst _ => false
def flatAll : List Dt → Bool
  | [] => true
  | k :: ks => flat k && flatAll ks
end
mutual
/-- as a key of a dict -/
def key : Dt → NestedKey
  | .non => .none
  | .bl b => .num (if b then 1 else 0)
  | .num i => .num i
  | .txt x => .text x
  | .tup ks => .tup (keys ks)
  | .lst _ => .none
def keys : List Dt → List NestedKey
  | [] => []
  | k :: ks => key k :: keys ks
end
mutual
/-- without bools: == is equality -/
def pure : Dt → Bool
  | .bl _ => false
  | .tup ks => pureAll ks
  | .lst ks => pureAll ks
  | _ => true
def pureAll : List Dt → Bool
  | [] => true
  | k :: ks => pure k && pureAll ks
end
mutual
theorem eq_of_beq : ∀ a b : Dt, pure a = true → pure b = true → beq a b = true → a = b
  | .non, .non, _, _, _ => rfl
  | .num a, .num b, _, _, h => by simp only [beq, decide_eq_true_eq] at h; rw [h]
  | .txt a, .txt b, _, _, h => by simp only [beq, decide_eq_true_eq] at h; rw [h]
  | .tup a, .tup b, pa, pb, h => by rw [beq] at h; rw [pure] at pa pb; rw [eq_of_beqAll a b pa pb h]
  | .lst a, .lst b, pa, pb, h => by rw [beq] at h; rw [pure] at pa pb; rw [eq_of_beqAll a b pa pb h]
  | .bl _, _, p, _, _ => by simp [pure] at p
  | _, .bl _, _, p, _ => by simp [pure] at p
  | .non, .num _, _, _, h | .non, .txt _, _, _, h | .non, .tup _, _, _, h | .non, .lst _, _, _, h => by simp [beq] at h
  | .num _, .non, _, _, h | .num _, .txt _, _, _, h | .num _, .tup _, _, _, h | .num _, .lst _, _, _, h => by simp [beq] at h
  | .txt _, .non, _, _, h | .txt _, .num _, _, _, h | .txt _, .tup _, _, _, h | .txt _, .lst _, _, _, h => by simp [beq] at h
  | .tup _, .non, _, _, h | .tup _, .num _, _, _, h | .tup _, .txt _, _, _, h | .tup _, .lst _, _, _, h => by simp [beq] at h
  | .lst _, .non, _, _, h | .lst _, .num _, _, _, h | .lst _, .txt _, _, _, h | .lst _, .tup _, _, _, h => by simp [beq] at h
theorem eq_of_beqAll : ∀ a b : List Dt, pureAll a = true → pureAll b = true → beqAll a b = true → a = b
  | [], [], _, _, _ => rfl
  | a :: as, b :: bs, pa, pb, h => by
    rw [beqAll, Bool.and_eq_true] at h
    rw [pureAll, Bool.and_eq_true] at pa pb
    rw [eq_of_beq a b pa.1 pb.1 h.1, eq_of_beqAll as bs pa.2 pb.2 h.2]
  | [], _ :: _, _, _, h => by simp [beqAll] at h
  | _ :: _, [], _, _, h => by simp [beqAll] at h
end
theorem beq_iff {a b : Dt} (pa : pure a = true) (pb : pure b = true) : beq a b = true ↔ a = b := ⟨eq_of_beq a b pa pb, fun e => by rw [e]; exact beq_self b⟩
end Dt
abbrev Dt.eqAt2 (xs ys : List Dt) (j : Nat) : Bool := Dt.beq (xs.getD j .non) (ys.getD j .non)
theorem Dt.beqAll_eq : ∀ xs ys : List Dt, ((List.range (min xs.length ys.length)).all (Dt.eqAt2 xs ys) && xs.length == ys.length) = Dt.beqAll xs ys
  | [], [] => rfl
  | [], _ :: _ => by simp [Dt.beqAll]
  | _ :: _, [] => by simp [Dt.beqAll]
  | x :: xs, y :: ys => by
    have ih := Dt.beqAll_eq xs ys
    have e1 : min (x :: xs).length (y :: ys).length = min xs.length ys.length + 1 := by simp only [List.length_cons]; omega
    have e2 : ((x :: xs).length == (y :: ys).length) = (xs.length == ys.length) := by simp
    have e3 : (List.range (min xs.length ys.length + 1)).all (Dt.eqAt2 (x :: xs) (y :: ys)) = (Dt.beq x y && (List.range (min xs.length ys.length)).all (Dt.eqAt2 xs ys)) := by
      rw [List.range_succ_eq_map, List.all_cons, List.all_map]
      first | rfl | simp [Dt.eqAt2, Function.comp_def]
    rw [e1, e2, e3, Dt.beqAll, ← ih, Bool.and_assoc]
theorem Dt.beqAll_other : ∀ xs ys : List Dt, xs.length ≠ ys.length → Dt.beqAll xs ys = false := fun xs ys h => by
  rw [← Dt.beqAll_eq, show (xs.length == ys.length) = false from beq_eq_false_iff_ne.mpr h, Bool.and_false]
theorem Dt.beqAll_same (xs ys : List Dt) (h : xs.length = ys.length) : (List.range xs.length).all (Dt.eqAt2 xs ys) = Dt.beqAll xs ys := by
  rw [← Dt.beqAll_eq, ← h, Nat.min_self]
  simp
/-! ### in a heap of the model -/
mutual
inductive DtIs (h : Heap) : Dt → Value → Prop
  | non : DtIs h .non .none
  | bl (b) : DtIs h (.bl b) (.bool b)
  | num (i t) : DtIs h (.num i) (.int i t)
  | txt (x t) : DtIs h (.txt x) (.str x t)
  | tup {a vs ks} : h.IsTuple a vs → DtAll h ks vs.toList → DtIs h (.tup ks) (.ref a)
  | lst {a vs ks} : h.IsList a vs → DtAll h ks vs.toList → DtIs h (.lst ks) (.ref a)
inductive DtAll (h : Heap) : List Dt → List Value → Prop
  | nil : DtAll h [] []
  | cons {k v ks vs} : DtIs h k v → DtAll h ks vs → DtAll h (k :: ks) (v :: vs)
end
theorem DtAll.length {h : Heap} : ∀ (ks : List Dt) (vs : List Value), DtAll h ks vs → vs.length = ks.length
  | [], _, r => by cases r; rfl
  | _ :: ks, _, r => by
    cases r with
    | cons _ r' => simp [DtAll.length ks _ r']
theorem ne_list_tuple {h : Heap} {a : Addr} {vs ws : Array Value} (h1 : h.IsList a vs) (h2 : h.IsTuple a ws) : False := by
  obtain ⟨o, e, c, _⟩ := h1
  obtain ⟨o', e', c', _⟩ := h2
  rw [e] at e'; cases e'
  rw [c] at c'
  injection c' with c'
  exact absurd c' (by decide)
mutual
theorem DtIs.inj {h : Heap} : ∀ (x y : Dt) (v : Value), DtIs h x v → DtIs h y v → x = y
  | .non, _, _, hx, hy => by cases hx; cases hy; rfl
  | .bl _, _, _, hx, hy => by cases hx; cases hy; rfl
  | .num i, _, _, hx, hy => by cases hx; cases hy; rfl
  | .txt x, _, _, hx, hy => by cases hx; cases hy; rfl
  | .tup ks, _, _, hx, hy => by
    cases hx with
    | tup h1 h4 =>
      cases hy with
      | tup k1 k4 =>
        obtain ⟨o, e, c, n, d⟩ := h1
        obtain ⟨o', e', c', n', d'⟩ := k1
        rw [e] at e'; cases e'
        rw [d] at d'; cases d'
        rw [DtAll.inj ks _ _ h4 k4]
      | lst k1 k4 => exact (ne_list_tuple k1 h1).elim
  | .lst ks, _, _, hx, hy => by
    cases hx with
    | lst h1 h4 =>
      cases hy with
      | lst k1 k4 =>
        obtain ⟨o, e, c, n, d⟩ := h1
        obtain ⟨o', e', c', n', d'⟩ := k1
        rw [e] at e'; cases e'
        rw [d] at d'; cases d'
        rw [DtAll.inj ks _ _ h4 k4]
      | tup k1 k4 => exact (ne_list_tuple h1 k1).elim
theorem DtAll.inj {h : Heap} : ∀ (xs ys : List Dt) (vs : List Value), DtAll h xs vs → DtAll h ys vs → xs = ys
  | [], _, _, hx, hy => by cases hx; cases hy; rfl
  | x :: xs, _, _, hx, hy => by
    cases hx with
    | cons h1 h2 =>
      cases hy with
      | cons k1 k2 => rw [DtIs.inj x _ _ h1 k1, DtAll.inj xs _ _ h2 k2]
end
section
open SeqAt
theorem dt_here {n a b : Nat} (h : n + min (a + 1) (b + 1) < cLine) : n < cLine := by omega
theorem dt_in {A : Around} {a b : Nat} (h : A.units + min (a + 1) (b + 1) < cLine) : A.in1.units + min a b < cLine := by rw [Around.in1_units]; omega
mutual
theorem eqAt_dt : ∀ (x y : Dt) (A : Around) (s : Shared) (a b : Value), DtIs s.heap x a → DtIs s.heap y b → A.units + 1 + min x.depth y.depth < cLine → EqAt A s a b (Dt.beq x y)
  | .non, _, A, s, _, _, ra, rb, hu => by
    cases ra
    cases rb with
    | non => exact EqAt.same _
    | bl y => exact EqAt.none_bool _
    | num y u => exact EqAt.none_int y u
    | txt y u => exact EqAt.none_str y u
    | tup k1 k4 => exact EqAt.none_tuple k1 (by omega)
    | lst k1 k4 => exact EqAt.none_list k1 (by omega)
  | .bl x, _, A, s, _, _, ra, rb, hu => by
    cases ra
    cases rb with
    | non => exact EqAt.bool_none x
    | bl y => exact (EqAt.bool_bool x y).cast rfl
    | num y u => exact (EqAt.bool_int x y u).cast rfl
    | txt y u => exact EqAt.bool_str x y u
    | tup k1 k4 => exact EqAt.bool_tuple x k1 (by omega)
    | lst k1 k4 => exact EqAt.bool_list x k1 (by omega)
  | .num i, _, A, s, _, _, ra, rb, hu => by
    cases ra with
    | num _ t =>
      cases rb with
      | non => exact EqAt.int_none i t
      | bl y => exact (EqAt.int_bool i t y).cast rfl
      | num y u => exact (EqAt.int_int i t y u).cast rfl
      | txt y u => exact EqAt.int_str i t y u
      | tup k1 k4 => exact EqAt.int_tuple i t k1 (by omega)
      | lst k1 k4 => exact EqAt.int_list i t k1 (by omega)
  | .txt x, _, A, s, _, _, ra, rb, hu => by
    cases ra with
    | txt _ t =>
      cases rb with
      | non => exact EqAt.str_none x t
      | bl y => exact EqAt.str_bool x t y
      | num y u => exact EqAt.str_int x t y u
      | txt y u => exact (EqAt.str_str x t y u).cast rfl
      | tup k1 k4 => exact EqAt.str_tuple x t k1 (by omega)
      | lst k1 k4 => exact EqAt.str_list x t k1 (by omega)
  | .tup xs, _, A, s, _, _, ra, rb, hu => by
    cases ra with
    | @tup l vs _ hl h4 =>
      cases rb with
      | non => exact EqAt.tuple_none hl (by omega)
      | bl y => exact EqAt.tuple_bool y hl (by omega)
      | num y u => exact EqAt.tuple_int y u hl (by omega)
      | txt y u => exact EqAt.tuple_str y u hl (by omega)
      | lst k1 k4 => exact EqAt.tuple_list hl k1 (by omega)
      | @tup l' vs' ys hl' k4 =>
        by_cases hll : l = l'
        · subst hll
          obtain ⟨o, e, c, n, d⟩ := hl
          obtain ⟨o', e', c', n', d'⟩ := hl'
          rw [e] at e'; cases e'
          rw [d] at d'; cases d'
          rw [← DtAll.inj xs ys _ h4 k4, Dt.beq, Dt.beqAll_self]
          exact EqAt.same _
        · have n1 : vs.size = xs.length := by simpa using DtAll.length _ _ h4
          have n2 : vs'.size = ys.length := by simpa using DtAll.length _ _ k4
          show EqAt A s (.ref l) (.ref l') (Dt.beqAll xs ys)
          rw [← Dt.beqAll_eq xs ys, ← n1, ← n2]
          refine EqAt.of_refs hll (RcAt.tuples hl hl' (by omega) fun j j1 j2 => ?_)
          have := eqAt_dts xs ys A.in1 s vs.toList vs'.toList h4 k4 (by simp only [Dt.depth] at hu; rw [Around.in1_units]; omega) j (by simpa using j1) (by simpa using j2)
          simpa using this
  | .lst xs, _, A, s, _, _, ra, rb, hu => by
    cases ra with
    | @lst l vs _ hl h4 =>
      cases rb with
      | non => exact EqAt.list_none hl (by omega)
      | bl y => exact EqAt.list_bool y hl (by omega)
      | num y u => exact EqAt.list_int y u hl (by omega)
      | txt y u => exact EqAt.list_str y u hl (by omega)
      | tup k1 k4 => exact EqAt.list_tuple hl k1 (by omega)
      | @lst l' vs' ys hl' k4 =>
        by_cases hll : l = l'
        · subst hll
          obtain ⟨o, e, c, n, d⟩ := hl
          obtain ⟨o', e', c', n', d'⟩ := hl'
          rw [e] at e'; cases e'
          rw [d] at d'; cases d'
          rw [← DtAll.inj xs ys _ h4 k4, Dt.beq, Dt.beqAll_self]
          exact EqAt.same _
        · have n1 : vs.size = xs.length := by simpa using DtAll.length _ _ h4
          have n2 : vs'.size = ys.length := by simpa using DtAll.length _ _ k4
          show EqAt A s (.ref l) (.ref l') (Dt.beqAll xs ys)
          by_cases hsz : vs.size = vs'.size
          · rw [← Dt.beqAll_same xs ys (by omega), ← n1]
            refine EqAt.of_refs hll (RcAt.lists hl hl' hsz (by omega) fun j j1 j2 => ?_)
            have := eqAt_dts xs ys A.in1 s vs.toList vs'.toList h4 k4 (by simp only [Dt.depth] at hu; rw [Around.in1_units]; omega) j (by simpa using j1) (by simpa using j2)
            simpa using this
          · rw [Dt.beqAll_other xs ys (by omega)]
            exact EqAt.of_refs hll (RcAt.lists_lengths hl hl' (by simpa using hsz) (by omega))
theorem eqAt_dts : ∀ (xs ys : List Dt) (A : Around) (s : Shared) (vs ws : List Value), DtAll s.heap xs vs → DtAll s.heap ys ws →
    A.units + 1 + min (Dt.depthAll xs) (Dt.depthAll ys) < cLine → ∀ j (h1 : j < vs.length) (h2 : j < ws.length), EqAt A s vs[j] ws[j] (Dt.eqAt2 xs ys j)
  | [], _, _, _, _, _, ra, _, _, j, h1, _ => by cases ra; exact absurd h1 (Nat.not_lt_zero _)
  | _ :: _, [], _, _, _, _, _, rb, _, j, _, h2 => by cases rb; exact absurd h2 (Nat.not_lt_zero _)
  | x :: xs, y :: ys, A, s, _, _, ra, rb, hu, j, h1, h2 => by
    cases ra with
    | cons r rs =>
      cases rb with
      | cons r' rs' =>
        simp only [Dt.depthAll] at hu
        cases j with
        | zero => exact eqAt_dt x y A s _ _ r r' (by omega)
        | succ j => exact eqAt_dts xs ys A s _ _ rs rs' (by omega) j (Nat.lt_of_succ_lt_succ h1) (Nat.lt_of_succ_lt_succ h2)
end
end
end GT

namespace GT
open PySem PySem.Spec PyProof.Rows L2
section
open SeqAt
theorem rcAt_dt {x y : Dt} {A : Around} {s : Shared} {a b : Value} (ra : DtIs s.heap x a) (rb : DtIs s.heap y b) (hu : A.units + 1 + min x.depth y.depth < cLine) : RcAt A s a b (Dt.beq x y) := by
  cases ra with
  | non =>
    cases rb with
    | non => exact RcAt.none_none
    | bl y => exact RcAt.none_bool y
    | num y u => exact RcAt.none_int y u
    | txt y u => exact RcAt.none_str y u
    | tup k1 k4 => exact RcAt.none_tuple k1 (by omega)
    | lst k1 k4 => exact RcAt.none_list k1 (by omega)
  | bl x =>
    cases rb with
    | non => exact RcAt.bool_none x
    | bl y => exact RcAt.bool_bool x y
    | num y u => exact RcAt.bool_int x y u
    | txt y u => exact RcAt.bool_str x y u
    | tup k1 k4 => exact RcAt.bool_tuple x k1 (by omega)
    | lst k1 k4 => exact RcAt.bool_list x k1 (by omega)
  | num x t =>
    cases rb with
    | non => exact RcAt.int_none x t
    | bl y => exact RcAt.int_bool x t y
    | num y u => exact RcAt.int_int x t y u
    | txt y u => exact RcAt.int_str x t y u
    | tup k1 k4 => exact RcAt.int_tuple x t k1 (by omega)
    | lst k1 k4 => exact RcAt.int_list x t k1 (by omega)
  | txt x t =>
    cases rb with
    | non => exact RcAt.str_none x t
    | bl y => exact RcAt.str_bool x t y
    | num y u => exact RcAt.str_int x t y u
    | txt y u => exact RcAt.str_str x t y u
    | tup k1 k4 => exact RcAt.str_tuple x t k1 (by omega)
    | lst k1 k4 => exact RcAt.str_list x t k1 (by omega)
  | @tup l vs xs hl h4 =>
    cases rb with
    | non => exact RcAt.tuple_none hl (by omega)
    | bl y => exact RcAt.tuple_bool y hl (by omega)
    | num y u => exact RcAt.tuple_int y u hl (by omega)
    | txt y u => exact RcAt.tuple_str y u hl (by omega)
    | lst k1 k4 => exact RcAt.tuple_list hl k1 (by omega)
    | @tup l' vs' ys hl' k4 =>
      have n1 : vs.size = xs.length := by simpa using DtAll.length _ _ h4
      have n2 : vs'.size = ys.length := by simpa using DtAll.length _ _ k4
      show RcAt A s (.ref l) (.ref l') (Dt.beqAll xs ys)
      rw [← Dt.beqAll_eq xs ys, ← n1, ← n2]
      refine RcAt.tuples hl hl' (by omega) fun j j1 j2 => ?_
      have := eqAt_dts xs ys A.in1 s vs.toList vs'.toList h4 k4 (by simp only [Dt.depth] at hu; rw [Around.in1_units]; omega) j (by simpa using j1) (by simpa using j2)
      simpa using this
  | @lst l vs xs hl h4 =>
    cases rb with
    | non => exact RcAt.list_none hl (by omega)
    | bl y => exact RcAt.list_bool y hl (by omega)
    | num y u => exact RcAt.list_int y u hl (by omega)
    | txt y u => exact RcAt.list_str y u hl (by omega)
    | tup k1 k4 => exact RcAt.list_tuple hl k1 (by omega)
    | @lst l' vs' ys hl' k4 =>
      have n1 : vs.size = xs.length := by simpa using DtAll.length _ _ h4
      have n2 : vs'.size = ys.length := by simpa using DtAll.length _ _ k4
      show RcAt A s (.ref l) (.ref l') (Dt.beqAll xs ys)
      by_cases hsz : vs.size = vs'.size
      · rw [← Dt.beqAll_same xs ys (by omega), ← n1]
        refine RcAt.lists hl hl' hsz (by omega) fun j j1 j2 => ?_
        have := eqAt_dts xs ys A.in1 s vs.toList vs'.toList h4 k4 (by simp only [Dt.depth] at hu; rw [Around.in1_units]; omega) j (by simpa using j1) (by simpa using j2)
        simpa using this
      · rw [Dt.beqAll_other xs ys (by omega)]
        exact RcAt.lists_lengths hl hl' (by simpa using hsz) (by omega)
theorem rcNeAt_dt {x y : Dt} {A : Around} {s : Shared} {a b : Value} (ra : DtIs s.heap x a) (rb : DtIs s.heap y b) (hu : A.units + 1 + min x.depth y.depth < cLine) : RcNeAt A s a b (!Dt.beq x y) := by
  cases ra with
  | non =>
    cases rb with
    | non => exact RcNeAt.none_none
    | bl y => exact RcNeAt.none_bool y
    | num y u => exact RcNeAt.none_int y u
    | txt y u => exact RcNeAt.none_str y u
    | tup k1 k4 => exact RcNeAt.none_tuple k1 (by omega)
    | lst k1 k4 => exact RcNeAt.none_list k1 (by omega)
  | bl x =>
    cases rb with
    | non => exact RcNeAt.bool_none x
    | bl y => exact RcNeAt.bool_bool x y
    | num y u => exact RcNeAt.bool_int x y u
    | txt y u => exact RcNeAt.bool_str x y u
    | tup k1 k4 => exact RcNeAt.bool_tuple x k1 (by omega)
    | lst k1 k4 => exact RcNeAt.bool_list x k1 (by omega)
  | num x t =>
    cases rb with
    | non => exact RcNeAt.int_none x t
    | bl y => exact RcNeAt.int_bool x t y
    | num y u => exact RcNeAt.int_int x t y u
    | txt y u => exact RcNeAt.int_str x t y u
    | tup k1 k4 => exact RcNeAt.int_tuple x t k1 (by omega)
    | lst k1 k4 => exact RcNeAt.int_list x t k1 (by omega)
  | txt x t =>
    cases rb with
    | non => exact RcNeAt.str_none x t
    | bl y => exact RcNeAt.str_bool x t y
    | num y u => exact RcNeAt.str_int x t y u
    | txt y u => exact RcNeAt.str_str x t y u
    | tup k1 k4 => exact RcNeAt.str_tuple x t k1 (by omega)
    | lst k1 k4 => exact RcNeAt.str_list x t k1 (by omega)
  | @tup l vs xs hl h4 =>
    cases rb with
    | non => exact RcNeAt.tuple_none hl (by omega)
    | bl y => exact RcNeAt.tuple_bool y hl (by omega)
    | num y u => exact RcNeAt.tuple_int y u hl (by omega)
    | txt y u => exact RcNeAt.tuple_str y u hl (by omega)
    | lst k1 k4 => exact RcNeAt.tuple_list hl k1 (by omega)
    | @tup l' vs' ys hl' k4 =>
      have n1 : vs.size = xs.length := by simpa using DtAll.length _ _ h4
      have n2 : vs'.size = ys.length := by simpa using DtAll.length _ _ k4
      show RcNeAt A s (.ref l) (.ref l') (!Dt.beqAll xs ys)
      rw [← Dt.beqAll_eq xs ys, ← n1, ← n2]
      refine RcNeAt.tuples hl hl' (by omega) fun j j1 j2 => ?_
      have := eqAt_dts xs ys A.in1 s vs.toList vs'.toList h4 k4 (by simp only [Dt.depth] at hu; rw [Around.in1_units]; omega) j (by simpa using j1) (by simpa using j2)
      simpa using this
  | @lst l vs xs hl h4 =>
    cases rb with
    | non => exact RcNeAt.list_none hl (by omega)
    | bl y => exact RcNeAt.list_bool y hl (by omega)
    | num y u => exact RcNeAt.list_int y u hl (by omega)
    | txt y u => exact RcNeAt.list_str y u hl (by omega)
    | tup k1 k4 => exact RcNeAt.list_tuple hl k1 (by omega)
    | @lst l' vs' ys hl' k4 =>
      have n1 : vs.size = xs.length := by simpa using DtAll.length _ _ h4
      have n2 : vs'.size = ys.length := by simpa using DtAll.length _ _ k4
      show RcNeAt A s (.ref l) (.ref l') (!Dt.beqAll xs ys)
      by_cases hsz : vs.size = vs'.size
      · rw [← Dt.beqAll_same xs ys (by omega), ← n1]
        refine RcNeAt.lists hl hl' hsz (by omega) fun j j1 j2 => ?_
        have := eqAt_dts xs ys A.in1 s vs.toList vs'.toList h4 k4 (by simp only [Dt.depth] at hu; rw [Around.in1_units]; omega) j (by simpa using j1) (by simpa using j2)
        simpa using this
      · rw [Dt.beqAll_other xs ys (by omega)]
        exact RcNeAt.lists_lengths hl hl' (by simpa using hsz) (by omega)
end
/-! ### in the abstract heap -/
/-- a tuple that never changes: tracked, or of the written part -/
def TupAt (K : PySem.W.Frag) (H : Hp) (a : Addr) (xs : List V) : Prop :=
  H a = some (.tup xs) ∨ ∃ (o : Obj) (its : Array Value) (n : Nat), K.lookup a = some o ∧ o.cls = .type "tuple" ∧ o.data = .seq its n ∧ its.size ≤ sizeLine ∧ Vals xs its.toList
mutual
inductive DtAt (K : PySem.W.Frag) (H : Hp) : V → Dt → Prop
  | non : DtAt K H .non .non
  | bl (b : Bool) : DtAt K H (.bl b) (.bl b)
  | num (i : Int) : DtAt K H (.int i) (.num i)
  | txt (x : Str) : DtAt K H (.str x) (.txt x)
  | tup {a : Addr} {xs : List V} {ds : List Dt} : TupAt K H a xs → DtsAt K H xs ds → DtAt K H (.ref a) (.tup ds)
  | lst {a : Addr} {xs : List V} {ds : List Dt} : SqL K H a xs → DtsAt K H xs ds → DtAt K H (.ref a) (.lst ds)
inductive DtsAt (K : PySem.W.Frag) (H : Hp) : List V → List Dt → Prop
  | nil : DtsAt K H [] []
  | cons {v : V} {vs : List V} {d : Dt} {ds : List Dt} : DtAt K H v d → DtsAt K H vs ds → DtsAt K H (v :: vs) (d :: ds)
end
section
variable {K : PySem.W.Frag} {H H1 : Hp} {M : List Addr}
theorem TupAt.stp {a : Addr} {xs : List V} (h : TupAt K H a xs) (s : Stp M H H1) : TupAt K H1 a xs := by
  rcases h with h | h
  · exact .inl (s.tups _ _ h)
  · exact .inr h
theorem TupAt.sqt {a : Addr} {xs : List V} (h : TupAt K H a xs) : SqT K H a xs := by
  rcases h with h | h
  · exact .inl (.inl h)
  · exact .inr h
mutual
/-- data without lists stay whatever is changed -/
theorem DtAt.stp (s : Stp M H H1) : ∀ (d : Dt) (v : V), d.flat = true → DtAt K H v d → DtAt K H1 v d
  | .non, _, _, h => by cases h; exact .non
  | .bl _, _, f, h => by simp [Dt.flat] at f
  | .num _, _, _, h => by cases h; exact .num _
  | .txt _, _, _, h => by cases h; exact .txt _
  | .tup ds, _, f, h => by
    cases h with
    | tup h1 h2 => exact .tup (h1.stp s) (DtsAt.stp s ds _ (by simpa [Dt.flat] using f) h2)
  | .lst _, _, f, _ => by simp [Dt.flat] at f
theorem DtsAt.stp (s : Stp M H H1) : ∀ (ds : List Dt) (vs : List V), Dt.flatAll ds = true → DtsAt K H vs ds → DtsAt K H1 vs ds
  | [], _, _, h => by cases h; exact .nil
  | d :: ds, _, f, h => by
    cases h with
    | cons h1 h2 =>
      simp only [Dt.flatAll, Bool.and_eq_true] at f
      exact .cons (DtAt.stp s d _ f.1 h1) (DtsAt.stp s ds _ f.2 h2)
end
theorem DtsAt.length : ∀ {vs : List V} {ds : List Dt}, DtsAt K H vs ds → vs.length = ds.length
  | _, _, .nil => rfl
  | _, _, .cons _ t => by simp [DtsAt.length t]
theorem DtsAt.get : ∀ {vs : List V} {ds : List Dt} {i : Nat} {d : Dt}, DtsAt K H vs ds → ds[i]? = some d → ∃ v, vs[i]? = some v ∧ DtAt K H v d
  | _, _, _, _, .nil, e => by simp at e
  | _, _, 0, _, .cons r _, e => by simp at e; subst e; exact ⟨_, rfl, r⟩
  | _, _, i + 1, d, .cons _ t, e => by
    obtain ⟨v, h1, h2⟩ := DtsAt.get (i := i) (d := d) t (by simpa using e)
    exact ⟨v, by simpa using h1, h2⟩
theorem DtsAt.getV : ∀ {vs : List V} {ds : List Dt} {i : Nat} {v : V}, DtsAt K H vs ds → vs[i]? = some v → ∃ d, ds[i]? = some d ∧ DtAt K H v d
  | _, _, _, _, .nil, e => by simp at e
  | _, _, 0, _, .cons r _, e => by simp at e; subst e; exact ⟨_, rfl, r⟩
  | _, _, i + 1, v, .cons _ t, e => by
    obtain ⟨d, h1, h2⟩ := DtsAt.getV (i := i) (v := v) t (by simpa using e)
    exact ⟨d, by simpa using h1, h2⟩
theorem DtsAt.append : ∀ {vs ws : List V} {ds es : List Dt}, DtsAt K H vs ds → DtsAt K H ws es → DtsAt K H (vs ++ ws) (ds ++ es)
  | _, _, _, _, .nil, s => s
  | _, _, _, _, .cons r t, s => .cons r (DtsAt.append t s)
theorem DtsAt.snoc {vs : List V} {ds : List Dt} {v : V} {d : Dt} (r : DtsAt K H vs ds) (h : DtAt K H v d) : DtsAt K H (vs ++ [v]) (ds ++ [d]) := r.append (.cons h .nil)
end
section
variable {X : Cx} {pins : List (Addr × Obj)} {σ : L2.St} {H : Hp} {s : Shared}
mutual
theorem DtAt.is (I : Inv X pins σ H s) : ∀ (d : Dt) (v : V) (u : Value), DtAt X.K H v d → RelV v u → DtIs s.heap d u
  | .non, _, _, h, r => by cases h; cases r; exact .non
  | .bl b, _, _, h, r => by cases h; cases r; exact .bl b
  | .num i, _, _, h, r => by cases h; obtain ⟨t, rfl⟩ := r; exact .num i t
  | .txt x, _, _, h, r => by cases h; obtain ⟨t, rfl⟩ := r; exact .txt x t
  | .tup ds, _, _, h, r => by
    cases h with
    | tup h1 h2 =>
      cases r
      obtain ⟨its, rv, ht, _⟩ := I.tuple h1.sqt
      exact .tup ht (by simpa using DtsAt.is I ds _ its h2 rv)
  | .lst ds, _, _, h, r => by
    cases h with
    | lst h1 h2 =>
      cases r
      obtain ⟨its, rv, ht, _⟩ := I.list h1
      exact .lst ht.isList (by simpa using DtsAt.is I ds _ its h2 rv)
theorem DtsAt.is (I : Inv X pins σ H s) : ∀ (ds : List Dt) (vs : List V) (us : List Value), DtsAt X.K H vs ds → Vals vs us → DtAll s.heap ds us
  | [], _, _, h, r => by cases h; cases r; exact .nil
  | d :: ds, _, _, h, r => by
    cases h with
    | cons h1 h2 =>
      cases r with
      | cons r1 r2 => exact .cons (DtAt.is I d _ _ h1 r1) (DtsAt.is I ds _ _ h2 r2)
end
end
section
variable {X : Cx}
def rEqT (K : PySem.W.Frag) : R2 := fun x y H Q => ∃ d e, DtAt K H x d ∧ DtAt K H y e ∧ d.depth ≤ 60 ∧ e.depth ≤ 60 ∧ Q (.bl (Dt.beq d e)) H
def rNeT (K : PySem.W.Frag) : R2 := fun x y H Q => ∃ d e, DtAt K H x d ∧ DtAt K H y e ∧ d.depth ≤ 60 ∧ e.depth ≤ 60 ∧ Q (.bl (!Dt.beq d e)) H
theorem op_eqT (hu : X.A.units + 64 < cLine) : OpR X (compareOp .Eq) (rEqT X.K) := by
  intro pins s σ H x y v u Q I rx ry h
  obtain ⟨d, e, hd, he, sd, se, q⟩ := h
  exact rcAt_dt (DtAt.is I d x v hd rx) (DtAt.is I e y u he ry) (by omega) _ _ _ _ ⟨.bl _, H, I, rfl, q⟩
theorem op_neT (hu : X.A.units + 64 < cLine) : OpR X (compareOp .NotEq) (rNeT X.K) := by
  intro pins s σ H x y v u Q I rx ry h
  obtain ⟨d, e, hd, he, sd, se, q⟩ := h
  exact rcNeAt_dt (DtAt.is I d x v hd rx) (DtAt.is I e y u he ry) (by omega) _ _ _ _ ⟨.bl _, H, I, rfl, q⟩
open Classical in
/-- a value's datum -/
noncomputable def datOf (h : Heap) (v : Value) : Dt := if e : ∃ d, DtIs h d v then e.choose else .non
theorem datOf_eq {h : Heap} {v : Value} {d : Dt} (r : DtIs h d v) : datOf h v = d := by
  unfold datOf
  have e : ∃ d, DtIs h d v := ⟨d, r⟩
  rw [dif_pos e]
  exact DtIs.inj _ _ v e.choose_spec r
theorem DtAll.mem {h : Heap} : ∀ {ds : List Dt} {vs : List Value} {v : Value}, DtAll h ds vs → v ∈ vs → ∃ d ∈ ds, DtIs h d v
  | _, _, _, .nil, e => nomatch e
  | _, _, _, .cons r t, e => by
    rcases List.mem_cons.mp e with e | e
    · subst e; exact ⟨_, List.mem_cons_self, r⟩
    · obtain ⟨d, h1, h2⟩ := DtAll.mem t e
      exact ⟨d, List.mem_cons_of_mem _ h1, h2⟩
theorem Dt.depth_mem : ∀ {ds : List Dt} {d : Dt}, d ∈ ds → d.depth ≤ Dt.depthAll ds
  | _ :: _, _, e => by
    rcases List.mem_cons.mp e with e | e
    · subst e; simp only [Dt.depthAll]; omega
    · have := Dt.depth_mem e; simp only [Dt.depthAll]; omega
def rInT (K : PySem.W.Frag) : R2 := fun x y H Q => ∃ d ds, DtAt K H x d ∧ DtAt K H y (.lst ds) ∧ d.depth ≤ 60 ∧ Dt.depthAll ds ≤ 60 ∧ Q (.bl (ds.any fun z => Dt.beq z d)) H
def rNotInT (K : PySem.W.Frag) : R2 := fun x y H Q => ∃ d ds, DtAt K H x d ∧ DtAt K H y (.lst ds) ∧ d.depth ≤ 60 ∧ Dt.depthAll ds ≤ 60 ∧ Q (.bl (!ds.any fun z => Dt.beq z d)) H
theorem any_items {h : Heap} {e : Dt} {ds : List Dt} {vs : Array Value} (r : DtAll h ds vs.toList) : (vs.any fun v => Dt.beq (datOf h v) e) = ds.any fun d => Dt.beq d e := by
  rw [← Array.any_toList]
  generalize hl : vs.toList = l at r
  clear hl
  induction l generalizing ds with
  | nil => cases r; rfl
  | cons v l ih =>
    cases r with
    | cons r1 r2 => rw [List.any_cons, List.any_cons, datOf_eq r1, ih r2]
theorem op_inT (hu : X.A.units + 64 < cLine) : OpR X (compareOp .In) (rInT X.K) := by
  intro pins s σ H x y v u Q I rx ry h
  obtain ⟨d, ds, hd, he, sd, se, q⟩ := h
  have r1 := DtAt.is I d x v hd rx
  have r2 := DtAt.is I (.lst ds) y u he ry
  cases r2 with
  | @lst a vs _ h1 h4 =>
    refine SeqAt.in_listAt (fun w => Dt.beq (datOf s.heap w) d) h1 (fun w hw => ?_) ?_
    · obtain ⟨c, hc, rc⟩ := DtAll.mem h4 (Array.mem_def.mp hw)
      rw [datOf_eq rc]
      have hc2 := Dt.depth_mem hc
      exact eqAt_dt c d X.A.in1 s _ _ rc r1 (by rw [Around.in1_units]; omega)
    · rw [any_items h4]
      exact ⟨.bl _, H, I, rfl, q⟩
theorem op_notInT (hu : X.A.units + 64 < cLine) : OpR X (compareOp .NotIn) (rNotInT X.K) := by
  intro pins s σ H x y v u Q I rx ry h
  obtain ⟨d, ds, hd, he, sd, se, q⟩ := h
  have r1 := DtAt.is I d x v hd rx
  have r2 := DtAt.is I (.lst ds) y u he ry
  cases r2 with
  | @lst a vs _ h1 h4 =>
    refine SeqAt.notIn_listAt (fun w => Dt.beq (datOf s.heap w) d) h1 (fun w hw => ?_) ?_
    · obtain ⟨c, hc, rc⟩ := DtAll.mem h4 (Array.mem_def.mp hw)
      rw [datOf_eq rc]
      have hc2 := Dt.depth_mem hc
      exact eqAt_dt c d X.A.in1 s _ _ rc r1 (by rw [Around.in1_units]; omega)
    · rw [any_items h4]
      exact ⟨.bl _, H, I, rfl, q⟩
end
end GT
namespace GT
open PySem PySem.Spec PyProof.Rows L2
/-! ### isinstance of data -/
def Dt.ty : Dt → String
  | .non => "NoneType"
  | .bl _ => "bool"
  | .num _ => "int"
  | .txt _ => "str"
  | .tup _ => "tuple"
  | .lst _ => "list"
theorem tyx_dt {K : PySem.W.Frag} {H : Hp} {v : V} {d : Dt} (h : DtAt K H v d) : TyX K H v (.type d.ty) := by
  cases h with
  | non => exact .base .non
  | bl b => exact .base (.bl b)
  | num i => exact .base (.int i)
  | txt x => exact .base (.str x)
  | tup h1 h2 =>
    rcases h1 with h1 | ⟨o, its, n, e, c, _⟩
    · exact .base (.tup h1)
    · exact .kTuple e c
  | lst h1 h2 =>
    rcases h1 with (h1 | ⟨o, h1⟩) | ⟨o, its, n, e, c, _⟩
    · exact .base (.lst h1)
    · exact .base (.frz h1)
    · exact .kList e c
theorem i_Isi {K : PySem.W.Frag} {H : Hp} {Q : VK} {v : V} {n : String} {d : Dt} (T : String) (b : Bool) (h : DtAt K H v d) (q : Q (.bl b) H) (hT : d.ty = T := by rfl) (e : kitB T n = some b := by decide +kernel) : rIsi K [v, .ty n] H Q :=
  ⟨v, .ty n, _, _, b, rfl, .ty n, tyx_dt h, kit_ty (by rw [hT]; exact e), q⟩
theorem i_EqT {K : PySem.W.Frag} {H : Hp} {Q : VK} {x y : V} {d e : Dt} (hd : DtAt K H x d) (he : DtAt K H y e) (q : Q (.bl (Dt.beq d e)) H) (h1 : d.depth ≤ 60 := by first | decide | (simp [Dt.depth, Dt.depthAll]; done) | omega) (h2 : e.depth ≤ 60 := by first | decide | (simp [Dt.depth, Dt.depthAll]; done) | omega) : rEqT K x y H Q := ⟨d, e, hd, he, h1, h2, q⟩
theorem i_NeT {K : PySem.W.Frag} {H : Hp} {Q : VK} {x y : V} {d e : Dt} (hd : DtAt K H x d) (he : DtAt K H y e) (q : Q (.bl (!Dt.beq d e)) H) (h1 : d.depth ≤ 60 := by first | decide | (simp [Dt.depth, Dt.depthAll]; done) | omega) (h2 : e.depth ≤ 60 := by first | decide | (simp [Dt.depth, Dt.depthAll]; done) | omega) : rNeT K x y H Q := ⟨d, e, hd, he, h1, h2, q⟩
end GT

/-! ## dicts whose keys are tuples, nested ones too -/
namespace GT
open PySem PySem.Spec PyProof.Rows L2
/-! ### data without lists as keys -/
mutual
theorem Dt.depth_key : ∀ d : Dt, d.flat = true → (Dt.key d).depth = d.depth
  | .non, _ => rfl
  | .bl _, f => by simp [Dt.flat] at f
  | .num _, _ => rfl
  | .txt _, _ => rfl
  | .tup ds, f => by
    simp only [Dt.flat] at f
    simp only [Dt.key, NestedKey.depth, Dt.depth, Dt.depth_keys ds f]
  | .lst _, f => by simp [Dt.flat] at f
theorem Dt.depth_keys : ∀ ds : List Dt, Dt.flatAll ds = true → NestedKey.depthAll (Dt.keys ds) = Dt.depthAll ds
  | [], _ => rfl
  | d :: ds, f => by
    simp only [Dt.flatAll, Bool.and_eq_true] at f
    simp only [Dt.keys, NestedKey.depthAll, Dt.depthAll, Dt.depth_key d f.1, Dt.depth_keys ds f.2]
end
mutual
theorem DtIs.nested {h : Heap} : ∀ (d : Dt) (v : Value), d.flat = true → DtIs h d v → NestedIs h d.key v
  | .non, _, _, r => by cases r; exact .none
  | .bl _, _, f, _ => by simp [Dt.flat] at f
  | .num _, _, _, r => by cases r; exact .int _ _
  | .txt _, _, _, r => by cases r; exact .text _ _
  | .tup ds, _, f, r => by
    cases r with
    | tup h1 h2 =>
      obtain ⟨o, e, c, n, dd⟩ := h1
      exact .tup e c dd (DtAll.nested ds _ (by simpa [Dt.flat] using f) h2)
  | .lst _, _, f, _ => by simp [Dt.flat] at f
theorem DtAll.nested {h : Heap} : ∀ (ds : List Dt) (vs : List Value), Dt.flatAll ds = true → DtAll h ds vs → NestedAll h (Dt.keys ds) vs
  | [], _, _, r => by cases r; exact .nil
  | d :: ds, _, f, r => by
    cases r with
    | cons r1 r2 =>
      simp only [Dt.flatAll, Bool.and_eq_true] at f
      exact .cons (DtIs.nested d _ f.1 r1) (DtAll.nested ds _ f.2 r2)
end
mutual
theorem Dt.key_inj : ∀ a b : Dt, a.flat = true → b.flat = true → a.key = b.key → a = b
  | .non, .non, _, _, _ => rfl
  | .num a, .num b, _, _, h => by simp only [Dt.key, NestedKey.num.injEq] at h; rw [h]
  | .txt a, .txt b, _, _, h => by simp only [Dt.key, NestedKey.text.injEq] at h; rw [h]
  | .tup a, .tup b, fa, fb, h => by
    simp only [Dt.key, NestedKey.tup.injEq] at h
    rw [Dt.keys_inj a b (by simpa [Dt.flat] using fa) (by simpa [Dt.flat] using fb) h]
  | .bl _, _, f, _, _ | .lst _, _, f, _, _ => by simp [Dt.flat] at f
  | _, .bl _, _, f, _ | _, .lst _, _, f, _ => by simp [Dt.flat] at f
  | .non, .num _, _, _, h | .non, .txt _, _, _, h | .non, .tup _, _, _, h => by simp [Dt.key] at h
  | .num _, .non, _, _, h | .num _, .txt _, _, _, h | .num _, .tup _, _, _, h => by simp [Dt.key] at h
  | .txt _, .non, _, _, h | .txt _, .num _, _, _, h | .txt _, .tup _, _, _, h => by simp [Dt.key] at h
  | .tup _, .non, _, _, h | .tup _, .num _, _, _, h | .tup _, .txt _, _, _, h => by simp [Dt.key] at h
theorem Dt.keys_inj : ∀ a b : List Dt, Dt.flatAll a = true → Dt.flatAll b = true → Dt.keys a = Dt.keys b → a = b
  | [], [], _, _, _ => rfl
  | a :: as, b :: bs, fa, fb, h => by
    simp only [Dt.keys, List.cons.injEq] at h
    simp only [Dt.flatAll, Bool.and_eq_true] at fa fb
    rw [Dt.key_inj a b fa.1 fb.1 h.1, Dt.keys_inj as bs fa.2 fb.2 h.2]
  | [], _ :: _, _, _, h => by simp [Dt.keys] at h
  | _ :: _, [], _, _, h => by simp [Dt.keys] at h
end
/-- the value y is the key k -/
def KyAt (K : PySem.W.Frag) (H : Hp) (y : V) (k : NestedKey) : Prop := ∃ d : Dt, d.flat = true ∧ d.key = k ∧ d.depth ≤ 8 ∧ DtAt K H y d
theorem KyAt.of {K : PySem.W.Frag} {H : Hp} {y : V} {d : Dt} (h : DtAt K H y d) (f : d.flat = true := by rfl) (n : d.depth ≤ 8 := by first | decide | (simp [Dt.depth, Dt.depthAll]; done)) : KyAt K H y d.key := ⟨d, f, rfl, n, h⟩
theorem KyAt.stp {K : PySem.W.Frag} {M : List Addr} {H H1 : Hp} {y : V} {k : NestedKey} (h : KyAt K H y k) (s : Stp M H H1) : KyAt K H1 y k :=
  let ⟨d, f, e, n, x⟩ := h; ⟨d, f, e, n, DtAt.stp s d y f x⟩
theorem KyAt.is {X : Cx} {pins : List (Addr × Obj)} {σ : L2.St} {H : Hp} {s : Shared} {a : Addr} {k : NestedKey} (I : Inv X pins σ H s) (h : KyAt X.K H (.ref a) k) : (nestedKind X.prog X.w).is s.heap k a := by
  obtain ⟨d, f, e, n, x⟩ := h
  have r := DtIs.nested d _ f (DtAt.is I d _ _ x (show RelV (.ref a) (.ref a) from rfl))
  rw [e] at r
  exact ⟨r, by rw [← e, Dt.depth_key d f]; exact n⟩
/-! ### the object -/
section
variable (P : Program) (w : World)
abbrev NdRel : List (NestedKey × Addr × V) → List (NestedKey × Addr × Value) → Prop := Paired fun p q => p.1 = q.1 ∧ p.2.1 = q.2.1 ∧ RelV p.2.2 q.2.2
def NdRaw (d : Addr) (xs : List (NestedKey × Addr × V)) (h : Heap) : Prop :=
  xs.length ≤ sizeLine ∧ (d == sysModules) = false ∧ ∃ ys : List (NestedKey × Addr × Value), NdRel xs ys ∧
    ∃ o es ep, h.get? d = some o ∧ o.ExactDict ∧ o.data = .dict es ep ∧ es.toList = ys.map (entryOfKey (nestedKind P w)) ∧ (ys.map (·.1)).Nodup
/-- a dict, its entries in order: key, the key's tuple, value -/
def ndO (d : Addr) (xs : List (NestedKey × Addr × V)) : HO := .ext (NdRaw P w d xs)
end
section
variable {P : Program} {w : World} {d : Addr} {xs : List (NestedKey × Addr × V)} {H : Hp} {h : Heap}
theorem ndO_ok (x : NdRaw P w d xs h) : ObjOk P w H h d (ndO P w d xs) := by
  refine ⟨x, ?_, fun h1 h2 y k => ?_⟩
  · obtain ⟨_, _, ys, _, o, es, ep, e, _⟩ := x
    exact ⟨o, e⟩
  · obtain ⟨z, hd, ys, r, o, es, ep, e, q⟩ := y
    exact ⟨z, hd, ys, r, o, es, ep, k o e, q⟩
theorem ndO_of {o : HO} (x : ObjOk P w H h d (ndO P w d xs)) : NdRaw P w d xs h := x.1
end
/-! ### entries by their keys -/
abbrev NKV := NestedKey × V
def plainX (xs : List (NestedKey × Addr × V)) : List NKV := xs.map fun x => (x.1, x.2.2)
theorem plainX_len (xs : List (NestedKey × Addr × V)) : (plainX xs).length = xs.length := by simp [plainX]
def putX (xs : List (NestedKey × Addr × V)) (k : NestedKey) (a : Addr) (v : V) : List (NestedKey × Addr × V) :=
  if (xs.any fun x => decide (x.1 = k)) = true then xs.map (fun x => if x.1 = k then (x.1, x.2.1, v) else x) else xs ++ [(k, a, v)]
theorem plainX_put (xs : List (NestedKey × Addr × V)) (k : NestedKey) (a : Addr) (v : V) : plainX (putX xs k a v) = putK (plainX xs) k v := by
  unfold putX putK plainX
  have e : ((xs.map fun x => ((x.1, x.2.2) : NKV)).any fun kv => decide (kv.1 = k)) = xs.any fun x => decide (x.1 = k) := by
    rw [List.any_map]; rfl
  rw [e]
  split
  · rw [List.map_map, List.map_map]
    refine List.map_congr_left fun x _ => ?_
    by_cases h : x.1 = k <;> simp [h]
  · simp
theorem putX_mem {xs : List (NestedKey × Addr × V)} {k : NestedKey} {a : Addr} {v : V} {x : NestedKey × Addr × V} (h : x ∈ putX xs k a v) : (x.1 = k ∧ x.2.1 = a) ∨ ∃ y ∈ xs, y.1 = x.1 ∧ y.2.1 = x.2.1 := by
  unfold putX at h
  split at h
  · obtain ⟨y, hy, e⟩ := List.mem_map.mp h
    refine .inr ⟨y, hy, ?_⟩
    by_cases q : y.1 = k
    · rw [if_pos q] at e; rw [← e]; exact ⟨rfl, rfl⟩
    · rw [if_neg q] at e; rw [← e]; exact ⟨rfl, rfl⟩
  · rcases List.mem_append.mp h with h | h
    · exact .inr ⟨x, h, rfl, rfl⟩
    · rw [List.mem_singleton] at h
      rw [h]; exact .inl ⟨rfl, rfl⟩
theorem NdRel.val {xs : List (NestedKey × Addr × V)} {ys : List (NestedKey × Addr × Value)} (r : NdRel xs ys) (k : NestedKey) : RelO (valV (plainX xs) k) ((atKey ys k).map (·.2)) := by
  induction r with
  | nil => exact True.intro
  | @cons p q ps qs h t ih =>
    obtain ⟨h1, _, h2⟩ := h
    by_cases e : p.1 = k
    · have e' : q.1 = k := h1.symm.trans e
      have b : atKey (q :: qs) k = some q.2 := by simp [atKey, List.find?_cons, e']
      have c : valV (plainX (p :: ps)) k = some p.2.2 := valV_pos (p := (p.1, p.2.2)) e
      rw [c, b]; exact h2
    · have e' : ¬ q.1 = k := fun z => e (h1.trans z)
      have b : atKey (q :: qs) k = atKey qs k := by simp [atKey, List.find?_cons, e']
      have c : valV (plainX (p :: ps)) k = valV (plainX ps) k := valV_neg (p := (p.1, p.2.2)) e
      rw [c, b]; exact ih
theorem NdRel.any {xs : List (NestedKey × Addr × V)} {ys : List (NestedKey × Addr × Value)} (r : NdRel xs ys) (k : NestedKey) : (xs.any fun x => decide (x.1 = k)) = (atKey ys k).isSome := by
  have h := (r.val k).isSome_eq
  rw [Option.isSome_map] at h
  rw [← h, ← valV_any]
  show _ = (plainX xs).any _
  unfold plainX
  rw [List.any_map]; rfl
theorem NdRel.repl {xs : List (NestedKey × Addr × V)} {ys : List (NestedKey × Addr × Value)} (r : NdRel xs ys) (k : NestedKey) {v : V} {u : Value} (rv : RelV v u) : NdRel (xs.map fun x => if x.1 = k then (x.1, x.2.1, v) else x) (ys.map (putAt k u)) := by
  induction r with
  | nil => exact .nil
  | @cons p q ps qs h t ih =>
    rw [List.map_cons, List.map_cons]
    refine .cons ?_ ih
    obtain ⟨h1, h2, h3⟩ := h
    unfold putAt
    by_cases e : p.1 = k
    · rw [if_pos e, if_pos (h1.symm.trans e)]; exact ⟨h1, h2, rv⟩
    · rw [if_neg e, if_neg (fun z => e (h1.trans z))]; exact ⟨h1, h2, h3⟩
theorem NdRel.put {xs : List (NestedKey × Addr × V)} {ys : List (NestedKey × Addr × Value)} (r : NdRel xs ys) (k : NestedKey) {a : Addr} {v : V} {u : Value} (rv : RelV v u) : NdRel (putX xs k a v) (storedH ys k a u) := by
  unfold putX storedH
  rw [r.any k]
  by_cases q : (atKey ys k).isSome = true
  · rw [if_pos q, if_pos q]; exact r.repl k rv
  · rw [if_neg q, if_neg q]; exact Paired.snoc r ⟨rfl, rfl, rv⟩
theorem putX_len (xs : List (NestedKey × Addr × V)) (k : NestedKey) (a : Addr) (v : V) : (putX xs k a v).length ≤ xs.length + 1 := by
  have h := length_putK (plainX xs) k v
  rw [← plainX_put xs k a v, plainX_len, plainX_len] at h
  exact h
/-! ### what is known of a dict -/
/-- the entries xs have their keys' tuples where they say -/
def KeysAt (K : PySem.W.Frag) (H : Hp) (xs : List (NestedKey × Addr × V)) : Prop := ∀ x ∈ xs, KyAt K H (.ref x.2.1) x.1
theorem KeysAt.stp {K : PySem.W.Frag} {M : List Addr} {H H1 : Hp} {xs : List (NestedKey × Addr × V)} (h : KeysAt K H xs) (s : Stp M H H1) : KeysAt K H1 xs := fun x hx => (h x hx).stp s
theorem KeysAt.put {K : PySem.W.Frag} {H : Hp} {xs : List (NestedKey × Addr × V)} {k : NestedKey} {a : Addr} {v : V} (h : KeysAt K H xs) (ha : KyAt K H (.ref a) k) : KeysAt K H (putX xs k a v) := fun x hx => by
  rcases putX_mem hx with ⟨e1, e2⟩ | ⟨y, hy, e1, e2⟩
  · rw [e1, e2]; exact ha
  · rw [← e1, ← e2]; exact h y hy
/-- a dict that is ours: may be read and written -/
def ND (P : Program) (w : World) (K : PySem.W.Frag) (H : Hp) (d : Addr) (kvs : List NKV) : Prop := ∃ xs, H d = some (ndO P w d xs) ∧ KeysAt K H xs ∧ plainX xs = kvs
/-- .. while it is walked -/
def NDF (P : Program) (w : World) (K : PySem.W.Frag) (H : Hp) (d : Addr) (o : Obj) (kvs : List NKV) : Prop := ∃ xs, H d = some (.frz o (ndO P w d xs)) ∧ KeysAt K H xs ∧ plainX xs = kvs
/-- .. either -/
def NDR (P : Program) (w : World) (K : PySem.W.Frag) (H : Hp) (d : Addr) (kvs : List NKV) : Prop := ∃ xs, Rd H d (ndO P w d xs) ∧ KeysAt K H xs ∧ plainX xs = kvs
section
variable {P : Program} {w : World} {K : PySem.W.Frag} {H H1 : Hp} {M : List Addr} {d : Addr} {kvs : List NKV} {o : Obj}
theorem ND.r (h : ND P w K H d kvs) : NDR P w K H d kvs := let ⟨xs, e, q⟩ := h; ⟨xs, .inl e, q⟩
theorem NDF.r (h : NDF P w K H d o kvs) : NDR P w K H d kvs := let ⟨xs, e, q⟩ := h; ⟨xs, .inr ⟨o, e⟩, q⟩
theorem ND.stp (h : ND P w K H d kvs) (s : Stp M H H1) (n : d ∉ M) : ND P w K H1 d kvs := let ⟨xs, e, k, q⟩ := h; ⟨xs, s.keep _ _ e n, k.stp s, q⟩
theorem NDF.stp (h : NDF P w K H d o kvs) (s : Stp M H H1) (n : d ∉ M) : NDF P w K H1 d o kvs := let ⟨xs, e, k, q⟩ := h; ⟨xs, s.keep _ _ e n, k.stp s, q⟩
theorem ND.there (h : ND P w K H d kvs) : ∃ u, H d = some u ∧ ∀ xs, u ≠ .tup xs := let ⟨xs, e, _⟩ := h; ⟨_, e, fun _ z => nomatch z⟩
end
section
variable {X : Cx} {pins : List (Addr × Obj)} {σ : L2.St} {H : Hp} {s : Shared} {d a : Addr} {k : NestedKey} {kvs : List NKV} {v : V} {u : Value} {A : Around} {E : Value → Shared → Prop} {xs : List (NestedKey × Addr × V)}
theorem nd_raw (I : Inv X pins σ H s) (e : Rd H d (ndO X.prog X.w d xs)) (hk : KeysAt X.K H xs) : xs.length ≤ sizeLine ∧ (d == sysModules) = false ∧ ∃ ys, NdRel xs ys ∧ s.heap.DictOfH (nestedKind X.prog X.w) d ys := by
  obtain ⟨z, hd, ys, r, o, es, ep, h1, h2, h3, h4, h5⟩ := (ndO_of (o := ndO X.prog X.w d xs) (e.ok I.hok))
  refine ⟨z, hd, ys, r, o, es, ep, h1, h2, h3, h4, ?_, h5⟩
  have all : ∀ {l : List (NestedKey × Addr × V)} {m : List (NestedKey × Addr × Value)}, NdRel l m → KeysAt X.K H l → ∀ x ∈ m, (nestedKind X.prog X.w).is s.heap x.1 x.2.1 := by
    intro l m q
    induction q with
    | nil => intro _ x hx; exact nomatch hx
    | @cons p q ps qs hq t ih =>
      intro ha x hx
      rcases List.mem_cons.mp hx with e | hx
      · subst e
        rw [← hq.1, ← hq.2.1]
        exact (ha p List.mem_cons_self).is I
      · exact ih (fun y hy => ha y (List.mem_cons_of_mem _ hy)) x hx
  exact all r hk
theorem nd_room (hu : A.units + 9 < cLine) : (nestedKind X.prog X.w).room A.in1 := by
  show A.in1.units + 8 < cLine
  rw [Around.in1_units]; omega
theorem nd_getItem {Q : Value → Shared → Prop} (hu : A.units + 9 < cLine) (I : Inv X pins σ H s) (g : NDR X.prog X.w X.K H d kvs) (hk : KyAt X.K H (.ref a) k) (hv : valV kvs k = some v) (h : ∀ w' s', Inv X pins σ H s' → RelV v w' → Q w' s') :
    wpAny (model X.prog X.w) A (getItem (.ref d) (.ref a)) Q E s := by
  obtain ⟨xs, e, ks, rfl⟩ := g
  obtain ⟨z, hd, ys, rel, dd⟩ := nd_raw I e ks
  obtain ⟨w', hw, rw'⟩ := RelO.some_of (v := v) (o := (atKey ys k).map (·.2)) (by rw [← hv]; exact rel.val k)
  obtain ⟨p, hp, hp2⟩ := Option.map_eq_some_iff.mp hw
  refine wpAny_getItem_heap (nd_room hu) (hk.is I) dd hp ?_
  rw [hp2]
  exact h w' _ (I.tok _) rw'
theorem nd_in {Q : Value → Shared → Prop} (hu : A.units + 9 < cLine) (I : Inv X pins σ H s) (g : NDR X.prog X.w X.K H d kvs) (hk : KyAt X.K H (.ref a) k) (h : ∀ s', Inv X pins σ H s' → Q (.bool (valV kvs k).isSome) s') :
    wpAny (model X.prog X.w) A (compareOp .In (.ref a) (.ref d)) Q E s := by
  obtain ⟨xs, e, ks, rfl⟩ := g
  obtain ⟨z, hd, ys, rel, dd⟩ := nd_raw I e ks
  refine wpAny_in_heap (nd_room hu) (hk.is I) hd dd ?_
  have q := (rel.val k).isSome_eq
  rw [Option.isSome_map] at q
  rw [← q]
  exact h _ (I.tok _)
theorem nd_notIn {Q : Value → Shared → Prop} (hu : A.units + 9 < cLine) (I : Inv X pins σ H s) (g : NDR X.prog X.w X.K H d kvs) (hk : KyAt X.K H (.ref a) k) (h : ∀ s', Inv X pins σ H s' → Q (.bool (!(valV kvs k).isSome)) s') :
    wpAny (model X.prog X.w) A (compareOp .NotIn (.ref a) (.ref d)) Q E s := by
  obtain ⟨xs, e, ks, rfl⟩ := g
  obtain ⟨z, hd, ys, rel, dd⟩ := nd_raw I e ks
  refine wpAny_notIn_heap (nd_room hu) (hk.is I) hd dd ?_
  have q := (rel.val k).isSome_eq
  rw [Option.isSome_map] at q
  rw [← q]
  exact h _ (I.tok _)
theorem nd_setItem {Q : Unit → Shared → Prop} (hu : A.units + 9 < cLine) (I : Inv X pins σ H s) (e : H d = some (ndO X.prog X.w d xs)) (ks : KeysAt X.K H xs) (hk : KyAt X.K H (.ref a) k) (hl : xs.length < sizeLine) (rv : RelV v u)
    (h : ∀ s', Inv X pins σ (upd H d (ndO X.prog X.w d (putX xs k a v))) s' → Q () s') : wpAny (model X.prog X.w) A (setItem (.ref d) (.ref a) u) Q E s := by
  obtain ⟨z, hd, ys, rel, dd⟩ := nd_raw I (.inl e) ks
  have hz : ys.length ≤ sizeLine := by rw [← Paired.length rel]; exact z
  have hl2 : (putX xs k a v).length ≤ sizeLine := by have := putX_len xs k a v; omega
  refine wpAny_setItem_heap (hsz := hz) (nd_room hu) (hk.is I) dd fun h' dd' hs => h _ ?_
  obtain ⟨q, es, ep, hq, h2, h3, h4, _, h5⟩ := dd'
  refine d_write I (by rw [e]; exact True.intro) hs ⟨q, hq⟩ (ndO_ok ⟨hl2, hd, _, rel.put k rv, q, es, ep, hq, h2, h3, h4, h5⟩)
end
/-! ### readings and rules -/
def tNGet (P : Program) (w : World) (K : PySem.W.Frag) (td ty : TE) : TE := fun σ H Q => td σ H fun x H1 => ty σ H1 fun y H2 => ∃ d a kvs k v, x = .ref d ∧ y = .ref a ∧ NDR P w K H2 d kvs ∧ KyAt K H2 (.ref a) k ∧ valV kvs k = some v ∧ Q v H2
def tNIn (P : Program) (w : World) (K : PySem.W.Frag) (ty td : TE) : TE := fun σ H Q => ty σ H fun y H1 => td σ H1 fun x H2 => ∃ d a kvs k, x = .ref d ∧ y = .ref a ∧ NDR P w K H2 d kvs ∧ KyAt K H2 (.ref a) k ∧ Q (.bl (valV kvs k).isSome) H2
def tNNotIn (P : Program) (w : World) (K : PySem.W.Frag) (ty td : TE) : TE := fun σ H Q => ty σ H fun y H1 => td σ H1 fun x H2 => ∃ d a kvs k, x = .ref d ∧ y = .ref a ∧ NDR P w K H2 d kvs ∧ KyAt K H2 (.ref a) k ∧ Q (.bl (!(valV kvs k).isSome)) H2
/-- d[y] = v: the dict behind has putK; the heap behind told by what is known of it -/
def sNPut (P : Program) (w : World) (K : PySem.W.Frag) (td ty tv : TE) : TS := fun D σ H => tv σ H fun v H1 => td σ H1 fun x H2 => ty σ H2 fun y H3 => ∃ d a kvs k, x = .ref d ∧ y = .ref a ∧ ND P w K H3 d kvs ∧ KyAt K H3 (.ref a) k ∧ kvs.length < sizeLine ∧
  ∀ H4, ND P w K H4 d (putK kvs k v) → Stp [d] H3 H4 → (∀ (H0 : Hp) M, Stp M H0 H3 → H0 d = none → Stp M H0 H4) → D.nx σ H4
def tNNew (P : Program) (w : World) (K : PySem.W.Frag) : TE := fun _ H Q => ∀ p H1, H p = none → ND P w K H1 p [] → Stp [] H H1 → Q (.ref p) H1
section
variable {X : Cx} {o i e value : Expr} {pos pos' tpos : Pos} {td ty tv : TE}
theorem nd_typeIs {pins : List (Addr × Obj)} {σ : L2.St} {H : Hp} {s : Shared} {d : Addr} {kvs : List NKV} (I : Inv X pins σ H s) (g : NDR X.prog X.w X.K H d kvs) : s.TypeIs (.ref d) "dict" := by
  obtain ⟨xs, e, ks, rfl⟩ := g
  obtain ⟨z, hd, ys, rel, dd⟩ := nd_raw I e ks
  exact dd.typeIs
theorem hu9 {A : Around} {k : Nat} (hr : Room k A) : A.units + 9 < cLine := by have := hr.un; omega
theorem pe_nget {k : Nat} (hr : Room k X.A) (ho : PE X o td) (hi : PE X i ty) (hs : NoSl i) : PE X (.Subscript o i pos) (tNGet X.prog X.w X.K td ty) := by
  refine ⟨fun pins s σ H Q I h => ?_⟩
  refine subD_of PySem.F.slot_dict_getitem.lookup hs (thn (ho.run pins s σ H _ I h) fun u s1 ⟨x, H1, I1, rx, q1⟩ => thn (hi.run pins s1 σ H1 _ I1 q1) fun iv s2 ⟨y, H2, I2, ry, d, a, kvs, k, v, ex, ey, g, hk, hv, q2⟩ => ?_)
  subst ex ey
  obtain rfl : u = Value.ref d := rx
  obtain rfl : iv = Value.ref a := ry
  exact ⟨nd_typeIs I2 g, nd_getItem (hu9 hr) I2 g hk hv fun w' s3 I3 rw' => ⟨v, H2, I3, rw', q2⟩⟩
theorem pc_nin {k : Nat} (hr : Room k X.A) (hi : PE X i ty) (ho : PE X o td) : PC X .In i o (tNIn X.prog X.w X.K ty td) := by
  refine ⟨fun pins s σ H Q I h => ?_⟩
  refine thn (hi.run pins s σ H _ I h) fun iv s1 ⟨y, H1, I1, ry, q1⟩ => thn (ho.run pins s1 σ H1 _ I1 q1) fun u s2 ⟨x, H2, I2, rx, d, a, kvs, k, ex, ey, g, hk, q2⟩ => ?_
  subst ex ey
  obtain rfl : u = Value.ref d := rx
  obtain rfl : iv = Value.ref a := ry
  exact nd_in (hu9 hr) I2 g hk fun s3 I3 => ⟨.bl _, H2, I3, rfl, q2⟩
theorem pc_nnotin {k : Nat} (hr : Room k X.A) (hi : PE X i ty) (ho : PE X o td) : PC X .NotIn i o (tNNotIn X.prog X.w X.K ty td) := by
  refine ⟨fun pins s σ H Q I h => ?_⟩
  refine thn (hi.run pins s σ H _ I h) fun iv s1 ⟨y, H1, I1, ry, q1⟩ => thn (ho.run pins s1 σ H1 _ I1 q1) fun u s2 ⟨x, H2, I2, rx, d, a, kvs, k, ex, ey, g, hk, q2⟩ => ?_
  subst ex ey
  obtain rfl : u = Value.ref d := rx
  obtain rfl : iv = Value.ref a := ry
  exact nd_notIn (hu9 hr) I2 g hk fun s3 I3 => ⟨.bl _, H2, I3, rfl, q2⟩
theorem ps_nput {k : Nat} (hr : Room k X.A) (ho : PE X o td) (hi : PE X i ty) (hv : PE X value tv) (hs : swapsWith value (some (.Subscript o i pos')) pos.line X.env = pure false) :
    PS X (.Assign [.Subscript o i pos'] value pos) (sNPut X.prog X.w X.K td ty tv) := by
  refine ⟨fun pins s σ H D I h => ?_⟩
  refine wpAny_Assign_Subscript (thn (hv.run pins s σ H _ I h) fun r s1 ⟨v, H1, I1, rv, q1⟩ => thn (ho.run pins s1 σ H1 _ I1 q1) fun u s2 ⟨x, H2, I2, rx, q2⟩ => thn (hi.run pins s2 σ H2 _ I2 q2) fun iv s3 ⟨y, H3, I3, ry, d, a, kvs, k, ex, ey, g, hk, hl, q3⟩ => ?_) hs
  subst ex ey
  obtain rfl : u = Value.ref d := rx
  obtain rfl : iv = Value.ref a := ry
  obtain ⟨xs, e, ks, rfl⟩ := g
  rw [plainX_len] at hl
  have st : Stp [d] H3 (upd H3 d (ndO X.prog X.w d (putX xs k a v))) := .wr (by simp) e fun _ z => nomatch z
  refine nd_setItem (hu9 hr) I3 e ks hk hl rv fun s4 I4 => ⟨σ, _, I4, q3 _ ⟨_, upd_same, (ks.put hk).stp st, plainX_put xs k a v⟩ st fun H0 M s0 n => s0.mut n⟩
theorem pe_dnewN : PE X (.Dict [] [] pos) (tNNew X.prog X.w X.K) := ⟨fun pins s σ H Q I h => by
  have hn := I.hok.fresh (Nat.le_refl s.heap.objs.size)
  refine wpAny_Dict_empty ⟨.ref s.heap.objs.size, _, I.laid (a := s.heap.objs.size) (o := ndO X.prog X.w s.heap.objs.size []) (t' := s.toks) (fun _ _ q => Heap.get?_push_of_some _ q) (Nat.le_refl _) (ndO_ok ?_), rfl, h _ _ hn ⟨[], upd_same, fun _ z => (nomatch z), rfl⟩ (.new hn)⟩
  exact ⟨Nat.zero_le _, beq_eq_false_iff_ne.mpr (Ne.symm (Nat.ne_of_lt I.big)), [], .nil, _, #[], 0, Heap.get?_push_size _ rfl, ⟨rfl, rfl, rfl⟩, rfl, rfl, List.nodup_nil⟩⟩
end
end GT

/-! ## walks of such dicts -/
namespace GT
open PySem PySem.Spec PyProof.Rows L2
section
variable {X : Cx} {pins : List (Addr × Obj)} {σ : L2.St} {H : Hp} {s : Shared} {d : Addr} {o : Obj}
theorem nd_frz {xs : List (NestedKey × Addr × V)} (I : Inv X pins σ H s) (h : H d = some (.frz o (ndO X.prog X.w d xs))) :
    (d == sysModules) = false ∧ s.heap.get? d = some o ∧ o.ExactDict ∧ ∃ (es : Array DictEntry) (ep : Nat), o.data = .dict es ep ∧ es.size = xs.length ∧
      ∀ (i : Nat) (x : NestedKey × Addr × V), xs[i]? = some x → ∃ en : DictEntry, es[i]? = some en ∧ en.key = .ref x.2.1 ∧ RelV x.2.2 en.val := by
  obtain ⟨hd, z⟩ := I.hok d _ h
  obtain ⟨z, hs, ys, pr, o', es, ep, ho, hx, hdt, he, _⟩ := ndO_of (o := ndO X.prog X.w d xs) z
  rw [hd] at ho
  cases ho
  refine ⟨hs, hd, hx, es, ep, hdt, ?_, fun i x e => ?_⟩
  · have l1 : es.size = ys.length := size_of_entries he
    have l2 : xs.length = ys.length := Paired.length pr
    omega
  · obtain ⟨b, hb, e1, e2, e3⟩ := paired_get pr e
    have q := entry_at he i
    rw [hb] at q
    exact ⟨_, q, congrArg Value.ref e2.symm, e3⟩
end
/-- the entries of the locked dict at d: the keys' tuples | new pairs -/
def ItN (P : Program) (w : World) (d : Addr) (o : Obj) (xs : List (NestedKey × Addr × V)) : It :=
  ⟨fun i H => H d = some (.frz o (ndO P w d xs)) ∧ i < xs.length, fun i H x H' => H' = H ∧ ∃ e, xs[i]? = some e ∧ x = .ref e.2.1, fun i H => H d = some (.frz o (ndO P w d xs)) ∧ xs.length ≤ i⟩
def ItNi (P : Program) (w : World) (d : Addr) (o : Obj) (xs : List (NestedKey × Addr × V)) : It :=
  ⟨fun i H => H d = some (.frz o (ndO P w d xs)) ∧ i < xs.length, fun i H x H' => ∃ T e, xs[i]? = some e ∧ x = .ref T ∧ H T = none ∧ H' = upd H T (.tup [.ref e.2.1, e.2.2]), fun i H => H d = some (.frz o (ndO P w d xs)) ∧ xs.length ≤ i⟩
section
variable {P : Program} {w : World} {K : PySem.W.Frag} {tg : Expr} {d : Addr} {o : Obj} {es : Array DictEntry} {ep : Nat} {xs : List (NestedKey × Addr × V)}
theorem turn_n (it : Addr) (hod : o.data = .dict es ep) : Turn P w K tg (ItN P w d o xs) [it] it (fun i h => h.IsKeyIter it d i xs.length ep) where
  mem := by simp
  obj := fun i h st b hb => by
    have e : b = it := by simpa using hb
    subst e
    obtain ⟨oi, e, c, dd⟩ := st
    exact ⟨oi, e, fun v z => by rw [dd] at z; cases z⟩
  keep := fun i h h' st k => st.at fun oi e => k it (by simp) oi e
  item := by
    intro X hP hw hK hc i pins s σ H E I hf st hg
    subst hP hw hK
    obtain ⟨hd, hi⟩ := hg
    obtain ⟨f0, f1, f2, f3, f4, f5⟩ := hf it (by simp)
    obtain ⟨hs, hgd, hx, es', ep', hdt, hsz, ent⟩ := nd_frz I hd
    obtain ⟨rfl, rfl⟩ := dict_ep hod hdt
    obtain ⟨e, he⟩ : ∃ e, xs[i]? = some e := ⟨xs[i], List.getElem?_eq_getElem hi⟩
    obtain ⟨en, hen, hkey, _⟩ := ent i e he
    refine next_key_item st hgd hdt hsz hen fun h' st' sb => ?_
    have I1 : Inv X pins σ H { s with heap := h' } := I.turned (t' := s.toks) (fun b ob hb e => (sb.2 b hb).trans e) f0 f1 f3 f4 f5
    obtain ⟨oi, e1, c, dd⟩ := id st'
    exact ⟨en.key, rfl, go_of (s := { s with heap := h' }) e1 c dd (by decide) ⟨.ref e.2.1, H, I1, hkey, ⟨rfl, e, he, rfl⟩, st', fun b hb => (hf b hb).1⟩⟩
  done := by
    intro X hP hw hK hc i pins s σ H E I hf st hg
    subst hP hw hK
    obtain ⟨hd, hi⟩ := hg
    obtain ⟨f0, f1, f2, f3, f4, f5⟩ := hf it (by simp)
    obtain ⟨hs, hgd, hx, es', ep', hdt, hsz, ent⟩ := nd_frz I hd
    obtain ⟨rfl, rfl⟩ := dict_ep hod hdt
    exact next_key_end (I.ok.hd hc) st hgd hdt hsz hi fun h' eb => ⟨rfl, I.turned (t' := s.toks) (fun b ob hb e => eb b ob hb e) f0 f1 f3 f4 f5⟩
  self := fun A i s Q E st h => by
    refine wpAny_pyIter_slot st.typeIs F.slot_dict_keyiterator_iter (wpAny_call_entry F.slot_dict_keyiterator_iter st.typeIs F.entry_dict_keyiterator_iter ?_ (F.args_dict_keyiterator_iter_1 _))
    show wpAny _ _ (ret (.ref it)) _ _ s
    exact wpAny_pure ⟨_, rfl, "dict_keyiterator", _, st.typeIs, F.slot_dict_keyiterator_next.lookup, h⟩
theorem turn_ni {elts : List Expr} {kk : Nat} {tpos : Pos} (it : Addr) (hod : o.data = .dict es ep) :
    Turn P w K (.Tuple elts kk tpos) (ItNi P w d o xs) [it] it (fun i h => ∃ ok ov, IsItemIter h it d i xs.length ep ok ov) where
  mem := by simp
  obj := fun i h st b hb => by
    have e : b = it := by simpa using hb
    subst e
    obtain ⟨ok, ov, e⟩ := st
    exact ⟨_, e, fun v z => nomatch z⟩
  keep := fun i h h' st k => let ⟨ok, ov, e⟩ := st; ⟨ok, ov, k it (by simp) _ e⟩
  item := by
    intro X hP hw hK hc i pins s σ H E I hf st hg
    subst hP hw hK
    obtain ⟨hd, hi⟩ := hg
    obtain ⟨hs, hgd, hx, es', ep', hdt, hsz, ent⟩ := nd_frz I hd
    obtain ⟨rfl, rfl⟩ := dict_ep hod hdt
    obtain ⟨e, hxe⟩ : ∃ e, xs[i]? = some e := ⟨xs[i], List.getElem?_eq_getElem hi⟩
    obtain ⟨en, hen, hkey, hval⟩ := ent i e hxe
    obtain ⟨ok, ov, he⟩ := st
    rw [← hsz] at he
    have hlt : it < s.heap.objs.size := Heap.lt_size he
    obtain ⟨hie, hen2⟩ := Array.getElem?_eq_some_iff.mp hen
    refine wpAny_pyNext_items_item_raw he ⟨o, hgd, hx, hdt⟩ hie fun h' ho hT hz hk => ?_
    refine ⟨_, rfl, wpAny_letOwnedTupleGo_items (s := { s with heap := h' }) ho fun h'' he' sb => ?_⟩
    rw [hen2, hkey] at hT
    have hT2 : h''.get? s.heap.objs.size = some { cls := .type "tuple", data := .seq #[.ref e.2.1, en.val] } := (sb.2 _ (Nat.ne_of_gt hlt)).trans hT
    have new : ObjOk X.prog X.w (upd H s.heap.objs.size (.tup [.ref e.2.1, e.2.2])) h'' s.heap.objs.size (.tup [.ref e.2.1, e.2.2]) :=
      ⟨by show 2 ≤ sizeLine; decide, [.ref e.2.1, en.val], .cons rfl (.cons hval .nil), ⟨_, hT2, rfl, _, rfl⟩⟩
    have I1 : Inv X pins σ (upd H s.heap.objs.size (.tup [.ref e.2.1, e.2.2])) { s with heap := h'' } :=
      I.turnedNew (t' := s.toks) (ch := [it]) (fun b ob hb e => (sb.2 b (by simpa using hb)).trans (hk b ob (by simpa using hb) e)) hf (Nat.le_refl _) new
    refine ⟨.ref s.heap.objs.size, _, I1, rfl, ⟨_, e, hxe, rfl, I.hok.fresh (Nat.le_refl _), rfl⟩, ⟨(es'[i]).key, (es'[i]).val, ?_⟩, fun b hb => ?_⟩
    · rw [← hsz]; exact he'
    · have e : b = it := by simpa using hb
      rw [e, upd_ne (Nat.ne_of_lt hlt)]
      exact (hf it (by simp)).1
  done := by
    intro X hP hw hK hc i pins s σ H E I hf st hg
    subst hP hw hK
    obtain ⟨hd, hi⟩ := hg
    obtain ⟨f0, f1, f2, f3, f4, f5⟩ := hf it (by simp)
    obtain ⟨hs, hgd, hx, es', ep', hdt, hsz, ent⟩ := nd_frz I hd
    obtain ⟨rfl, rfl⟩ := dict_ep hod hdt
    obtain ⟨ok, ov, he⟩ := st
    rw [← hsz] at he
    exact wpAny_pyNext_items_end_raw (I.ok.hd hc) he ⟨o, hgd, hx, hdt⟩ (by omega) fun h' eb => ⟨rfl, I.turned (t' := s.toks) (fun b ob hb e => eb b ob hb e) f0 f1 f3 f4 f5⟩
  self := fun A i s Q E st h => let ⟨_, _, e⟩ := st; PySem.W.kcp_self e h
end
def iN (P : Program) (w : World) (td : TE) : TI := fun σ H R => td σ H fun x H1 => ∃ d o xs, x = .ref d ∧ H1 d = some (.frz o (ndO P w d xs)) ∧ R (ItN P w d o xs) H1
def iNi (P : Program) (w : World) (td : TE) : TI := fun σ H R => td σ H fun x H1 => ∃ d o xs, x = .ref d ∧ H1 d = some (.frz o (ndO P w d xs)) ∧ R (ItNi P w d o xs) H1
section
variable {X : Cx} {tg e : Expr} {td : TE} {apos cpos : Pos}
theorem pi_n (he : PE X e td) : PI X tg e (iN X.prog X.w td) := by
  refine ⟨fun pins s σ H R I h => ?_⟩
  refine thn (he.run pins s σ H _ I h) fun u s1 ⟨x, H1, I1, rx, d, o, xs, ex, hd, q⟩ => ?_
  subst ex
  obtain rfl : u = Value.ref d := rx
  obtain ⟨hs, hgd, hx, es, ep, hdt, hsz, ent⟩ := nd_frz I1 hd
  refine iter_keys hs hgd hx hdt (pi_one (tk := s1.toks) I1 _ (turn_n _ hdt) ⟨_, Heap.get?_push_size _ rfl, rfl, ?_⟩ q)
  rw [hsz] <;> rfl
theorem pi_ni {elts : List Expr} {kk : Nat} {tpos : Pos} (he : PE X e td) (hbase : attributeBase e "items" X.env (eval e X.env) = eval e X.env := by rfl) (hline : (apos.endLine == cpos.line) = true := by rfl) :
    PI X (.Tuple elts kk tpos) (.Call (.Attribute e "items" apos) [] [] cpos) (iNi X.prog X.w td) := by
  refine ⟨fun pins s σ H R I h => ?_⟩
  refine wpAny_Call_method (T := "dict") (id := "dict.items") hbase rfl hline F.plainAttrs_dict F.slot_dict_items F.type_dict_items (thn (he.run pins s σ H _ I h) fun u s1 ⟨x, H1, I1, rx, d, o, xs, ex, hd, q⟩ => ?_)
  subst ex
  obtain rfl : u = Value.ref d := rx
  obtain ⟨hs, hgd, hx, es, ep, hdt, hsz, ent⟩ := nd_frz I1 hd
  have dr : s1.heap.DictRaw d es ep := ⟨o, hgd, hx, hdt⟩
  refine ⟨dr.typeIs, fun b q => by cases q; exact ⟨o, hgd, hx.2.1⟩, ?_⟩
  have I2 : Inv X pins σ H1 { s1 with heap := s1.heap.push { cls := .type "dict_items", data := .fields #[.ref d] } } := I1.kept (t' := s1.toks) fun b ob q => Heap.get?_push_of_some _ q
  have fin : wpAny (model X.prog X.w) X.A (pyIter (.ref s1.heap.objs.size)) (PIE X pins σ (.Tuple elts kk tpos) R) X.xe { s1 with heap := s1.heap.push { cls := .type "dict_items", data := .fields #[.ref d] } } := by
    refine wpAny_pyIter_items_raw (d := d) (es := es) (ep := ep) ⟨_, Heap.get?_push_size _ rfl, rfl, rfl⟩ (dr.at fun ob q => Heap.get?_push_of_some _ q) (pi_one (tk := s1.toks) I2 _ (turn_ni _ hdt) ⟨.none, .none, ?_⟩ q)
    rw [← hsz]
    exact Heap.get?_push_size _ rfl
  show wpAny _ _ (callWith cpos (.builtin "dict.items") [.ref d] [] []) _ X.xe s1
  exact method_meetsIn F.slot_dict_items F.entry_dict_items rfl (PySem.evalArgs_none ⟨rfl, dr.typeIs, F.args_dict_items_1 _, _, meets_dict_items_raw d hs, ⟨es, ep, dr⟩, fin⟩)
end
end GT

/-! ## loops over such dicts, locked; data in order -/
namespace GT
open PySem PySem.Spec PyProof.Rows L2
section
variable {P : Program} {w : World} {d : Addr} {o : Obj} {xs : List (NestedKey × Addr × V)}
theorem for_n {g : TG} {tb : TS} {D : Ends} {σ : L2.St} {H : Hp} (Pv : Nat → L2.St → Hp → Prop) (h0 : Pv 0 σ H) (hl : ∀ i σ H, i ≤ xs.length → Pv i σ H → H d = some (.frz o (ndO P w d xs)))
    (hs : ∀ i x σ H, xs[i]? = some x → Pv i σ H → g (.ref x.2.1) σ H fun σ2 H2 => tb { D with nx := Pv (i + 1), ct := Pv (i + 1), bk := D.nx } σ2 H2) (hd : ∀ σ H, Pv xs.length σ H → D.nx σ H) :
    ∃ W : Nat → Nat → L2.St → Hp → Prop, (∃ m, W 0 m σ H) ∧ ∀ i m σ H, W i m σ H →
      ((ItN P w d o xs).stop i H ∧ D.nx σ H) ∨ ((ItN P w d o xs).go i H ∧ ∃ N : L2.St → Hp → Prop, (∀ σ' H', N σ' H' → ∃ m', m' < m ∧ W (i + 1) m' σ' H') ∧ ∀ x H', (ItN P w d o xs).yld i H x H' → g x σ H' fun σ2 H2 => tb { D with nx := N, ct := N, bk := D.nx } σ2 H2) := by
  refine ⟨fun i m σ H => m = xs.length - i ∧ i ≤ xs.length ∧ Pv i σ H, ⟨xs.length, by simp, Nat.zero_le _, h0⟩, ?_⟩
  rintro i m σ H ⟨rfl, hi, p⟩
  have q := hl i σ H hi p
  by_cases hlt : i < xs.length
  · refine .inr ⟨⟨q, hlt⟩, Pv (i + 1), fun σ' H' p' => ⟨xs.length - (i + 1), by omega, rfl, hlt, p'⟩, fun x H' y => ?_⟩
    obtain ⟨e, z, hz, rfl⟩ := y
    subst e
    exact hs i z σ _ hz p
  · have e : i = xs.length := by omega
    subst e
    exact .inl ⟨⟨q, Nat.le_refl _⟩, hd σ H p⟩
theorem for_ni {g : TG} {tb : TS} {D : Ends} {σ : L2.St} {H : Hp} (Pv : Nat → L2.St → Hp → Prop) (h0 : Pv 0 σ H) (hl : ∀ i σ H, i ≤ xs.length → Pv i σ H → H d = some (.frz o (ndO P w d xs)))
    (hs : ∀ i x σ H T, xs[i]? = some x → Pv i σ H → H T = none → g (.ref T) σ (upd H T (.tup [.ref x.2.1, x.2.2])) fun σ2 H2 => tb { D with nx := Pv (i + 1), ct := Pv (i + 1), bk := D.nx } σ2 H2) (hd : ∀ σ H, Pv xs.length σ H → D.nx σ H) :
    ∃ W : Nat → Nat → L2.St → Hp → Prop, (∃ m, W 0 m σ H) ∧ ∀ i m σ H, W i m σ H →
      ((ItNi P w d o xs).stop i H ∧ D.nx σ H) ∨ ((ItNi P w d o xs).go i H ∧ ∃ N : L2.St → Hp → Prop, (∀ σ' H', N σ' H' → ∃ m', m' < m ∧ W (i + 1) m' σ' H') ∧ ∀ x H', (ItNi P w d o xs).yld i H x H' → g x σ H' fun σ2 H2 => tb { D with nx := N, ct := N, bk := D.nx } σ2 H2) := by
  refine ⟨fun i m σ H => m = xs.length - i ∧ i ≤ xs.length ∧ Pv i σ H, ⟨xs.length, by simp, Nat.zero_le _, h0⟩, ?_⟩
  rintro i m σ H ⟨rfl, hi, p⟩
  have q := hl i σ H hi p
  by_cases hlt : i < xs.length
  · refine .inr ⟨⟨q, hlt⟩, Pv (i + 1), fun σ' H' p' => ⟨xs.length - (i + 1), by omega, rfl, hlt, p'⟩, fun x H' y => ?_⟩
    obtain ⟨T, z, hz, rfl, n, rfl⟩ := y
    exact hs i z σ _ T hz p n
  · have e : i = xs.length := by omega
    subst e
    exact .inl ⟨⟨q, Nat.le_refl _⟩, hd σ H p⟩
theorem lc_n {g : TG} {tt : TT} {te : TE} {vs : List Nat} {σ : L2.St} {H1 : Hp} {D : Addr} {Qd : Hp → Prop} (Pv : Nat → Hp → Prop) (h0 : Pv 0 (upd H1 D (.lst []))) (hl : ∀ i H, i ≤ xs.length → Pv i H → H d = some (.frz o (ndO P w d xs)))
    (hs : ∀ i x H, xs[i]? = some x → Pv i H → g (.ref x.2.1) (wipe σ vs) H fun σ2 H2 => wipe σ2 vs = wipe σ vs ∧ tt σ2 H2 fun b H3 =>
      if b = true then te σ2 H3 fun y H4 => ∃ acc, H4 D = some (.lst acc) ∧ acc.length < sizeLine ∧ Pv (i + 1) (upd H4 D (.lst (acc ++ [y]))) else Pv (i + 1) H3) (hd : ∀ H, Pv xs.length H → Qd H) :
    ∃ W : Nat → Nat → Hp → Prop, (∃ m, W 0 m (upd H1 D (.lst []))) ∧ ∀ i m H, W i m H →
      ((ItN P w d o xs).stop i H ∧ Qd H) ∨ ((ItN P w d o xs).go i H ∧ ∃ Nx : Hp → Prop, (∀ H', Nx H' → ∃ m', m' < m ∧ W (i + 1) m' H') ∧ ∀ x H', (ItN P w d o xs).yld i H x H' → g x (wipe σ vs) H' fun σ2 H2 => wipe σ2 vs = wipe σ vs ∧ tt σ2 H2 fun b H3 =>
        if b = true then te σ2 H3 fun y H4 => ∃ acc, H4 D = some (.lst acc) ∧ acc.length < sizeLine ∧ Nx (upd H4 D (.lst (acc ++ [y]))) else Nx H3) := by
  refine ⟨fun i m H => m = xs.length - i ∧ i ≤ xs.length ∧ Pv i H, ⟨xs.length, by simp, Nat.zero_le _, h0⟩, ?_⟩
  rintro i m H ⟨rfl, hi, p⟩
  have q := hl i H hi p
  by_cases hlt : i < xs.length
  · refine .inr ⟨⟨q, hlt⟩, Pv (i + 1), fun H' p' => ⟨xs.length - (i + 1), by omega, rfl, hlt, p'⟩, fun x H' y => ?_⟩
    obtain ⟨e, z, hz, rfl⟩ := y
    subst e
    exact hs i z _ hz p
  · have e : i = xs.length := by omega
    subst e
    exact .inl ⟨⟨q, Nat.le_refl _⟩, hd H p⟩
theorem lc_ni {g : TG} {tt : TT} {te : TE} {vs : List Nat} {σ : L2.St} {H1 : Hp} {D : Addr} {Qd : Hp → Prop} (Pv : Nat → Hp → Prop) (h0 : Pv 0 (upd H1 D (.lst []))) (hl : ∀ i H, i ≤ xs.length → Pv i H → H d = some (.frz o (ndO P w d xs)))
    (hs : ∀ i x H T, xs[i]? = some x → Pv i H → H T = none → g (.ref T) (wipe σ vs) (upd H T (.tup [.ref x.2.1, x.2.2])) fun σ2 H2 => wipe σ2 vs = wipe σ vs ∧ tt σ2 H2 fun b H3 =>
      if b = true then te σ2 H3 fun y H4 => ∃ acc, H4 D = some (.lst acc) ∧ acc.length < sizeLine ∧ Pv (i + 1) (upd H4 D (.lst (acc ++ [y]))) else Pv (i + 1) H3) (hd : ∀ H, Pv xs.length H → Qd H) :
    ∃ W : Nat → Nat → Hp → Prop, (∃ m, W 0 m (upd H1 D (.lst []))) ∧ ∀ i m H, W i m H →
      ((ItNi P w d o xs).stop i H ∧ Qd H) ∨ ((ItNi P w d o xs).go i H ∧ ∃ Nx : Hp → Prop, (∀ H', Nx H' → ∃ m', m' < m ∧ W (i + 1) m' H') ∧ ∀ x H', (ItNi P w d o xs).yld i H x H' → g x (wipe σ vs) H' fun σ2 H2 => wipe σ2 vs = wipe σ vs ∧ tt σ2 H2 fun b H3 =>
        if b = true then te σ2 H3 fun y H4 => ∃ acc, H4 D = some (.lst acc) ∧ acc.length < sizeLine ∧ Nx (upd H4 D (.lst (acc ++ [y]))) else Nx H3) := by
  refine ⟨fun i m H => m = xs.length - i ∧ i ≤ xs.length ∧ Pv i H, ⟨xs.length, by simp, Nat.zero_le _, h0⟩, ?_⟩
  rintro i m H ⟨rfl, hi, p⟩
  have q := hl i H hi p
  by_cases hlt : i < xs.length
  · refine .inr ⟨⟨q, hlt⟩, Pv (i + 1), fun H' p' => ⟨xs.length - (i + 1), by omega, rfl, hlt, p'⟩, fun x H' y => ?_⟩
    obtain ⟨T, z, hz, rfl, n, rfl⟩ := y
    exact hs i z _ T hz p n
  · have e : i = xs.length := by omega
    subst e
    exact .inl ⟨⟨q, Nat.le_refl _⟩, hd H p⟩
end
/-! ### locks -/
section
variable {P : Program} {w : World} {K : PySem.W.Frag} {H : Hp} {d : Addr} {kvs : List NKV} {σ : L2.St} {Q : VK} {D : Ends}
theorem lockE_nd {t : TE} (g : ND P w K H d kvs) (h : ∀ o xs, plainX xs = kvs → KeysAt K H xs → H d = some (ndO P w d xs) →
    t σ (upd H d (.frz o (ndO P w d xs))) fun v H' => H' d = some (.frz o (ndO P w d xs)) ∧ Q v (upd H' d (ndO P w d xs))) : tLockE t σ H Q := by
  obtain ⟨xs, e, k, hx⟩ := g
  exact ⟨d, _, e, True.intro, fun o => h o xs hx k e⟩
theorem lock_nd {t : TS} (g : ND P w K H d kvs) (h : ∀ o xs, plainX xs = kvs → KeysAt K H xs → H d = some (ndO P w d xs) →
    t ⟨fun σ' H' => H' d = some (.frz o (ndO P w d xs)) ∧ D.nx σ' (upd H' d (ndO P w d xs)), fun v H' => H' d = some (.frz o (ndO P w d xs)) ∧ D.rt v (upd H' d (ndO P w d xs)), fun σ' H' => H' d = some (.frz o (ndO P w d xs)) ∧ D.bk σ' (upd H' d (ndO P w d xs)), fun σ' H' => H' d = some (.frz o (ndO P w d xs)) ∧ D.ct σ' (upd H' d (ndO P w d xs))⟩ σ (upd H d (.frz o (ndO P w d xs)))) : tLock t D σ H := by
  obtain ⟨xs, e, k, hx⟩ := g
  exact ⟨d, _, e, True.intro, fun o => h o xs hx k e⟩
theorem Stp.lock {M : List Addr} {H : Hp} {d : Addr} {o : Obj} {u : HO} (e : H d = some u) (nt : ∀ xs, u ≠ .tup xs) : Stp (d :: M) H (upd H d (.frz o u)) := .wr (by simp) e nt
theorem Stp.unlock {M : List Addr} {H H' : Hp} {d : Addr} {u : HO} (s : Stp (d :: M) H H') (e : H d = some u) (nt : ∀ xs, u ≠ .tup xs) (nb : ∀ ps, u ≠ .tbl ps := by exact fun _ z => nomatch z) : Stp M H (upd H' d u) :=
  ⟨fun c v h n => by
    by_cases q : c = d
    · rw [q, upd_same]; rw [q, e] at h; exact h
    · rw [upd_ne q]; exact s.keep c v h (by simp [q, n]),
   fun c xs h => by
    by_cases q : c = d
    · rw [q, e] at h; exact absurd (Option.some.inj h) (nt xs)
    · rw [upd_ne q]; exact s.tups c xs h,
   fun c ps h => by
    by_cases q : c = d
    · rw [q, upd_same] at h; exact absurd (Option.some.inj h) (nb ps)
    · rw [upd_ne q] at h; exact s.tbls c ps h⟩
/-- what is behind the lock, seen from within -/
theorem Stp.off {H' : Hp} {d : Addr} {o : Obj} {u : HO} (e : H' d = some (.frz o u)) (nb : ∀ ps, u ≠ .tbl ps := by exact fun _ z => nomatch z) : Stp [d] H' (upd H' d u) := .wr (by simp) e (fun _ z => nomatch z) nb
theorem ndO_nt {d : Addr} {xs : List (NestedKey × Addr × V)} : ∀ ys, ndO P w d xs ≠ .tup ys := fun _ z => nomatch z
theorem ndf {H' : Hp} {d : Addr} {o : Obj} {xs : List (NestedKey × Addr × V)} (e : H' d = some (.frz o (ndO P w d xs))) (k : KeysAt K H' xs) : NDF P w K H' d o (plainX xs) := ⟨xs, e, k, rfl⟩
theorem nd_of {H' : Hp} {d : Addr} {xs : List (NestedKey × Addr × V)} (e : H' d = some (ndO P w d xs)) (k : KeysAt K H' xs) : ND P w K H' d (plainX xs) := ⟨xs, e, k, rfl⟩
theorem plainX_at {xs : List (NestedKey × Addr × V)} {i : Nat} {x : NestedKey × Addr × V} (h : xs[i]? = some x) : (plainX xs)[i]? = some (x.1, x.2.2) := by unfold plainX; rw [List.getElem?_map, h]; rfl
end
/-! ### putK -/
section
variable {κ : Type} [DecidableEq κ]
theorem putK_mem {kvs : List (κ × V)} {k : κ} {v : V} {p : κ × V} (h : p ∈ putK kvs k v) : p = (k, v) ∨ (p ∈ kvs ∧ p.1 ≠ k) := by
  unfold putK at h
  split at h
  · obtain ⟨y, hy, e⟩ := List.mem_map.mp h
    by_cases q : y.1 = k
    · simp only [q, if_true] at e; left; rw [← e]
    · simp only [q, if_false] at e; right; rw [← e]; exact ⟨hy, q⟩
  · rename_i hn
    rcases List.mem_append.mp h with h | h
    · refine .inr ⟨h, fun e => hn ?_⟩
      rw [List.any_eq_true]; exact ⟨p, h, by simp [e]⟩
    · rw [List.mem_singleton] at h; exact .inl h
theorem putK_keys (kvs : List (κ × V)) (k : κ) (v : V) : (putK kvs k v).map (·.1) = if (kvs.any fun kv => decide (kv.1 = k)) = true then kvs.map (·.1) else kvs.map (·.1) ++ [k] := by
  unfold putK
  split
  · rw [List.map_map]
    refine List.map_congr_left fun x _ => ?_
    by_cases h : x.1 = k <;> simp [h]
  · simp
theorem putK_nd {kvs : List (κ × V)} {k : κ} {v : V} (h : (kvs.map (·.1)).Nodup) : ((putK kvs k v).map (·.1)).Nodup := by
  rw [putK_keys]
  split
  · exact h
  · rename_i hn
    rw [List.nodup_append]
    refine ⟨h, List.pairwise_singleton .., ?_⟩
    intro a ha b hb e
    rw [List.mem_singleton] at hb
    subst hb; subst e
    obtain ⟨p, hp, e⟩ := List.mem_map.mp ha
    exact hn (by rw [List.any_eq_true]; exact ⟨p, hp, by simp [e]⟩)
theorem valV_mem {kvs : List (κ × V)} {k : κ} {v : V} (h : valV kvs k = some v) : (k, v) ∈ kvs := by
  unfold valV at h
  obtain ⟨p, hp, rfl⟩ := Option.map_eq_some_iff.mp h
  have h1 := List.mem_of_find?_eq_some hp
  have h2 := List.find?_some hp
  simp only [decide_eq_true_eq] at h2
  rw [← h2]; exact h1
theorem valV_of {kvs : List (κ × V)} {k : κ} {v : V} (n : (kvs.map (·.1)).Nodup) (h : (k, v) ∈ kvs) : valV kvs k = some v := by
  induction kvs with
  | nil => cases h
  | cons p r ih =>
    rw [List.map_cons, List.nodup_cons] at n
    rcases List.mem_cons.mp h with e | h
    · subst e; simp [valV, List.find?_cons]
    · have : p.1 ≠ k := fun e => n.1 (List.mem_map.mpr ⟨_, h, e.symm⟩)
      rw [show valV (p :: r) k = valV r k by simp [valV, List.find?_cons, this]]
      exact ih n.2 h
end
/-! ### data in order -/
mutual
def Dt.py : Dt → PyData
  | .non => .none
  | .bl b => .bool b
  | .num i => .int i
  | .txt x => .str x
  | .tup ds => .tuple (Dt.pys ds)
  | .lst ds => .list (Dt.pys ds)
def Dt.pys : List Dt → List PyData
  | [] => []
  | d :: ds => d.py :: Dt.pys ds
end
theorem Dt.pys_map : ∀ ds : List Dt, Dt.pys ds = ds.map Dt.py
  | [] => rfl
  | d :: ds => by rw [Dt.pys, Dt.pys_map ds]; rfl
mutual
theorem Dt.py_depth : ∀ d : Dt, d.py.depth = d.depth
  | .non => rfl
  | .bl _ => rfl
  | .num _ => rfl
  | .txt _ => rfl
  | .tup ds => by simp only [Dt.py, PyData.depth, Dt.depth, Dt.pys_depth ds]
  | .lst ds => by simp only [Dt.py, PyData.depth, Dt.depth, Dt.pys_depth ds]
theorem Dt.pys_depth : ∀ ds : List Dt, PyData.depthAll (Dt.pys ds) = Dt.depthAll ds
  | [] => rfl
  | d :: ds => by simp only [Dt.pys, PyData.depthAll, Dt.depthAll, Dt.py_depth d, Dt.pys_depth ds]
end
mutual
theorem DtIs.reads {h : Heap} : ∀ (d : Dt) (v : Value), d.flat = true → DtIs h d v → Reads h v d.py []
  | .non, _, _, r => by cases r; exact .none
  | .bl _, _, f, _ => by simp [Dt.flat] at f
  | .num _, _, _, r => by cases r; exact .int _ _
  | .txt _, _, _, r => by cases r; exact .str _ _
  | .tup ds, _, f, r => by
    cases r with
    | tup h1 h2 =>
      obtain ⟨o, e, c, n, dd⟩ := h1
      exact .tuple e c dd (DtAll.reads ds _ (by simpa [Dt.flat] using f) h2)
  | .lst _, _, f, _ => by simp [Dt.flat] at f
theorem DtAll.reads {h : Heap} : ∀ (ds : List Dt) (vs : List Value), Dt.flatAll ds = true → DtAll h ds vs → ReadsAll h vs (Dt.pys ds) []
  | [], _, _, r => by cases r; exact .nil
  | d :: ds, _, f, r => by
    cases r with
    | cons r1 r2 =>
      simp only [Dt.flatAll, Bool.and_eq_true] at f
      exact .cons (as := []) (bs := []) (DtIs.reads d _ f.1 r1) (DtAll.reads ds _ f.2 r2)
end
open PySem.W in
section
variable {X : Cx}
/-- two that can be ordered -/
structure Ordb (K : PySem.W.Frag) (H : Hp) (x y : V) (d e : Dt) : Prop where
  x : DtAt K H x d
  y : DtAt K H y e
  fx : d.flat = true
  fy : e.flat = true
  al : alike d.py e.py = true
  nn : d.py ≠ .none
  dp : d.depth ≤ 8
def rLtO (K : PySem.W.Frag) : R2 := fun x y H Q => ∃ d e, Ordb K H x y d e ∧ Q (.bl (dataLt d.py e.py)) H
def rGtO (K : PySem.W.Frag) : R2 := fun x y H Q => ∃ d e, Ordb K H x y d e ∧ Q (.bl (dataLt e.py d.py)) H
theorem op_ltO (hu : X.A.units + 64 < cLine) : OpR X (compareOp .Lt) (rLtO X.K) := by
  intro pins s σ H x y v u Q I rx ry h
  obtain ⟨d, e, ⟨hx, hy, fx, fy, al, nn, dp⟩, q⟩ := h
  have n1 := Dt.py_depth d
  refine lt_data (DtIs.reads d _ fx (DtAt.is I d x v hx rx)) (DtIs.reads e _ fy (DtAt.is I e y u hy ry)) al nn (by omega) ⟨.bl _, H, I, rfl, q⟩
theorem op_gtO (hu : X.A.units + 64 < cLine) : OpR X (compareOp .Gt) (rGtO X.K) := by
  intro pins s σ H x y v u Q I rx ry h
  obtain ⟨d, e, ⟨hx, hy, fx, fy, al, nn, dp⟩, q⟩ := h
  have n1 := Dt.py_depth d
  refine gt_data (DtIs.reads d _ fx (DtAt.is I d x v hx rx)) (DtIs.reads e _ fy (DtAt.is I e y u hy ry)) al nn (by omega) ⟨.bl _, H, I, rfl, q⟩
end
end GT
/-! ### the rules where the context is a comprehension's block: P, w, K told -/
namespace GT
open PySem PySem.Spec PyProof.Rows L2
section
variable {P : Program} {w : World} {K : PySem.W.Frag} {X : Cx} {o i e value : Expr} {pos pos' tpos : Pos} {td ty tv : TE}
theorem pe_ngetK {k : Nat} (eP : X.prog = P) (ew : X.w = w) (eK : X.K = K) (hr : Room k X.A) (ho : PE X o td) (hi : PE X i ty) (hs : NoSl i) : PE X (.Subscript o i pos) (tNGet P w K td ty) := by
  subst eP; subst ew; subst eK; exact pe_nget hr ho hi hs
theorem pc_ninK {k : Nat} (eP : X.prog = P) (ew : X.w = w) (eK : X.K = K) (hr : Room k X.A) (hi : PE X i ty) (ho : PE X o td) : PC X .In i o (tNIn P w K ty td) := by
  subst eP; subst ew; subst eK; exact pc_nin hr hi ho
theorem pc_nnotinK {k : Nat} (eP : X.prog = P) (ew : X.w = w) (eK : X.K = K) (hr : Room k X.A) (hi : PE X i ty) (ho : PE X o td) : PC X .NotIn i o (tNNotIn P w K ty td) := by
  subst eP; subst ew; subst eK; exact pc_nnotin hr hi ho
end
end GT
/-! ### steps of loops -/
namespace GT
open PySem PySem.Spec PyProof.Rows L2
section
variable {σ : L2.St} {H : Hp} {Q : VK} {D : Ends} {R : It → Hp → Prop} {ta : TA} {td te tk tv : TE} {wi : TI} {g : TG} {tb : TS} {tt : TT} {vs : List Nat} {K : PySem.W.Frag} {P : Program} {w : World}
theorem i_For (q : wi σ H fun J H1 => ∃ W : Nat → Nat → L2.St → Hp → Prop, (∃ m, W 0 m σ H1) ∧ ∀ i m σ H, W i m σ H →
  (J.stop i H ∧ D.nx σ H) ∨ (J.go i H ∧ ∃ N : L2.St → Hp → Prop, (∀ σ' H', N σ' H' → ∃ m', m' < m ∧ W (i + 1) m' σ' H') ∧ ∀ x H', J.yld i H x H' → g x σ H' fun σ2 H2 => tb { D with nx := N, ct := N, bk := D.nx } σ2 H2)) : tFor wi g tb D σ H := q
theorem i_Lc (q : wi σ H fun J H1 => ∀ D, H1 D = none → ∃ W : Nat → Nat → Hp → Prop, (∃ m, W 0 m (upd H1 D (.lst []))) ∧ ∀ i m H, W i m H →
  (J.stop i H ∧ Q (.ref D) H) ∨ (J.go i H ∧ ∃ Nx : Hp → Prop, (∀ H', Nx H' → ∃ m', m' < m ∧ W (i + 1) m' H') ∧ ∀ x H', J.yld i H x H' → g x (wipe σ vs) H' fun σ2 H2 => wipe σ2 vs = wipe σ vs ∧ tt σ2 H2 fun b H3 =>
    if b = true then te σ2 H3 fun y H4 => ∃ acc, H4 D = some (.lst acc) ∧ acc.length < sizeLine ∧ Nx (upd H4 D (.lst (acc ++ [y]))) else Nx H3)) : tLc wi g tt te vs σ H Q := q
theorem i_Rng1 (q : ta σ H fun vs H1 => ∃ j : Int, vs = [.int j] ∧ -(2 ^ 62) ≤ j ∧ j < 2 ^ 62 ∧ R (Itr 0 j.toNat) H1) : iRng1 ta σ H R := q
theorem i_Rng2 (q : ta σ H fun vs H1 => ∃ i j : Int, vs = [.int i, .int j] ∧ (-(2 ^ 62) ≤ i ∧ i < 2 ^ 62 ∧ -(2 ^ 62) ≤ j ∧ j < 2 ^ 62) ∧ R (Itr i (j - i).toNat) H1) : iRng2 ta σ H R := q
theorem i_List (q : td σ H fun x H1 => ∃ a, x = .ref a ∧ (∃ xs, SqL K H1 a xs) ∧ R (Itl K a) H1) : iList K td σ H R := q
theorem i_Nk (q : td σ H fun x H1 => ∃ d o xs, x = .ref d ∧ H1 d = some (.frz o (ndO P w d xs)) ∧ R (ItN P w d o xs) H1) : iN P w td σ H R := q
theorem i_Nki (q : td σ H fun x H1 => ∃ d o xs, x = .ref d ∧ H1 d = some (.frz o (ndO P w d xs)) ∧ R (ItNi P w d o xs) H1) : iNi P w td σ H R := q
theorem i_NGet (q : td σ H fun x H1 => te σ H1 fun y H2 => ∃ d a kvs k v, x = .ref d ∧ y = .ref a ∧ NDR P w K H2 d kvs ∧ KyAt K H2 (.ref a) k ∧ valV kvs k = some v ∧ Q v H2) : tNGet P w K td te σ H Q := q
theorem i_NIn (q : te σ H fun y H1 => td σ H1 fun x H2 => ∃ d a kvs k, x = .ref d ∧ y = .ref a ∧ NDR P w K H2 d kvs ∧ KyAt K H2 (.ref a) k ∧ Q (.bl (valV kvs k).isSome) H2) : tNIn P w K te td σ H Q := q
theorem i_NNotIn (q : te σ H fun y H1 => td σ H1 fun x H2 => ∃ d a kvs k, x = .ref d ∧ y = .ref a ∧ NDR P w K H2 d kvs ∧ KyAt K H2 (.ref a) k ∧ Q (.bl (!(valV kvs k).isSome)) H2) : tNNotIn P w K te td σ H Q := q
theorem i_NPut (q : tv σ H fun v H1 => td σ H1 fun x H2 => tk σ H2 fun y H3 => ∃ d a kvs k, x = .ref d ∧ y = .ref a ∧ ND P w K H3 d kvs ∧ KyAt K H3 (.ref a) k ∧ kvs.length < sizeLine ∧
  ∀ H4, ND P w K H4 d (putK kvs k v) → Stp [d] H3 H4 → (∀ (H0 : Hp) M, Stp M H0 H3 → H0 d = none → Stp M H0 H4) → D.nx σ H4) : sNPut P w K td tk tv D σ H := q
end
/-- what is new and is written: an item more -/
theorem Stp.into {M : List Addr} {H0 H1 H2 : Hp} {p : Addr} (s : Stp M H0 H1) (n : H0 p = none) (t : Stp (p :: M) H1 H2) : Stp M H0 H2 :=
  ⟨fun c o h m => t.keep c o (s.keep c o h m) (by
      simp only [List.mem_cons, not_or]
      exact ⟨fun e => (by rw [e, n] at h; cases h), m⟩), fun c xs h => t.tups c xs (s.tups c xs h), fun c ps h => let ⟨qs, e⟩ := t.tbls c ps h; s.tbls c qs e⟩
/-- .. and the other way: the steps before it was made do not count -/
theorem key_num2 (a b : Int) : (Dt.tup [.num a, .num b]).key = .tup [.num a, .num b] := rfl
end GT

/-! ## two such dicts compared -/
namespace GT
open PySem PySem.Spec PyProof.Rows PySem.Calls
section
variable {prog : Program} {w : World} {K : Type} [DecidableEq K] {knd : HeapKind prog w K} {A : Around} {E : Value → Shared → Prop} {s : Shared}
inductive HHits {K : Type} [DecidableEq K] (A : Around) (s : Shared) (kb : List (K × Addr × Value)) : List (K × Addr × Value) → Bool → Prop
  | nil : HHits A s kb [] true
  | miss {k : K} {q : Addr × Value} {r : List (K × Addr × Value)} : (∀ p, (k, p) ∉ kb) → HHits A s kb ((k, q) :: r) false
  | hit {k : K} {q : Addr × Value} {r : List (K × Addr × Value)} {e b : Bool} : (∃ p, (k, p) ∈ kb) → (∀ p, (k, p) ∈ kb → SeqAt.EqAt A s q.2 p.2 e) → HHits A s kb r b → HHits A s kb ((k, q) :: r) (e && b)
theorem HHits.inv {kb : List (K × Addr × Value)} {k : K} {q : Addr × Value} {r : List (K × Addr × Value)} {b : Bool} (h : HHits A s kb ((k, q) :: r) b) :
    ((∀ p, (k, p) ∉ kb) ∧ b = false) ∨ ∃ e b', (∃ p, (k, p) ∈ kb) ∧ (∀ p, (k, p) ∈ kb → SeqAt.EqAt A s q.2 p.2 e) ∧ HHits A s kb r b' ∧ b = (e && b') := by
  cases h with
  | miss hn => exact .inl ⟨hn, rfl⟩
  | hit hy he hr => exact .inr ⟨_, _, hy, he, hr, rfl⟩
theorem h_samePairs {nm : String} {a b : Addr} {ka kb : List (K × Addr × Value)} {r : Bool} {Q : Bool → Shared → Prop} (hu : knd.room A) (ha : (a == sysModules) = false) (hb : (b == sysModules) = false)
    (da : s.heap.DictOfH knd a ka) (db : s.heap.DictOfH knd b kb) (hits : ka.length = kb.length → HHits A s kb ka r) (h : Q (ka.length == kb.length && r) s) :
    wpAny (model prog w) A (Builtin.Dict.samePairs nm a b) Q E s := by
  obtain ⟨oa, es, ep, hoa, _, hda, hka, hia, _⟩ := da
  obtain ⟨ob, es', ep', hob, _, hdb, hkb, hib, hnb⟩ := db
  have hla : ka.length = es.size := (size_of_entries hka).symm
  have hlb : kb.length = es'.size := (size_of_entries hkb).symm
  rw [hla, hlb] at h
  unfold Builtin.Dict.samePairs Builtin.Dict.showsAll
  rw [if_neg (show ¬ (a == sysModules) = true by rw [ha]; exact Bool.false_ne_true), if_neg (show ¬ (b == sysModules) = true by rw [hb]; exact Bool.false_ne_true)]
  refine wpAny_bind (wpAny_pure (wpAny_bind (wpAny_pure ?_)))
  refine wpAny_bind (wpAny_dictEntries hoa hda ?_)
  dsimp only
  refine wpAny_bind (wpAny_dictEntries hob hdb ?_)
  by_cases hsz : es.size = es'.size
  case neg =>
    rw [if_pos (by simpa using hsz)]
    have hbf : (es.size == es'.size) = false := by simpa using hsz
    rw [hbf, Bool.false_and] at h
    exact wpAny_bind (wpAny_rule (wpAny_pure h))
  case pos =>
    have h' : Q r s := by simpa [hsz] using h
    have hits' := hits (by rw [hla, hlb]; exact hsz)
    rw [if_neg (by rw [hsz]; simp)]
    refine wpAny_bind (wpAny_dictEpoch hoa hda ?_)
    refine wpAny_bind ?_
    rw [Std.Legacy.Range.forIn_eq_forIn_range']
    simp only [Std.Legacy.Range.size, Nat.sub_zero, Nat.add_sub_cancel, Nat.div_one]
    refine wpAny_forIn_list _
      (fun rest q s' => s' = s ∧ q = (none, ()) ∧ ∃ i, rest = List.range' i (es.size - i) ∧ i ≤ es.size ∧ HHits A s kb (ka.drop i) r)
      _ ?_ ?_ _ _ ⟨rfl, rfl, 0, by simp, Nat.zero_le _, hits'⟩
    · rintro x rest q s' ⟨rfl, rfl, i, hr, hi, hpre⟩
      have hlt : i < es.size := by
        rcases Nat.lt_or_ge i es.size with h | h
        · exact h
        · rw [Nat.sub_eq_zero_of_le h] at hr; simp at hr
      obtain ⟨rfl, hrest⟩ : x = i ∧ rest = List.range' (i + 1) (es.size - (i + 1)) := by
        have e : es.size - i = (es.size - (i + 1)) + 1 := by omega
        rw [e, List.range'_succ] at hr
        injection hr with h1 h2
        exact ⟨h1, h2⟩
      refine wpAny_bind (wpAny_dictEntries hoa hda ?_)
      have hlt' : x < ka.length := by rw [hla]; exact hlt
      obtain ⟨k, ad, v, hkv⟩ : ∃ k ad v, ka[x] = (k, ad, v) := ⟨_, _, _, rfl⟩
      have hdrop : ka.drop x = (k, ad, v) :: ka.drop (x + 1) := by rw [← hkv]; exact List.drop_eq_getElem_cons hlt'
      have hent : es[x]? = some (entryOfKey knd (k, ad, v)) := by rw [entry_at hka x, List.getElem?_eq_getElem hlt', hkv]; rfl
      have hkey : knd.is s'.heap k ad := by
        have := hia (k, ad, v) (by rw [← hkv]; exact List.getElem_mem hlt')
        exact this
      rw [hent]
      rw [hdrop] at hpre
      show wpAny _ _ (holding [Value.ref ad, v] _ >>= _) _ _ _
      refine wpAny_bind (wpAny_holding (wpAny_bind (wpAny_dictFind_heap hu hkey hob hdb hkb hib hnb (fun hn => ?_) fun j p hj => ?_)))
      · rcases hpre.inv with ⟨_, er⟩ | ⟨_, _, ⟨p, hp⟩, _⟩
        · rw [er] at h'
          refine wpAny_pure ?_
          show wpAny _ _ (if (!false) = true then _ else _) _ _ _
          rw [if_pos (by decide)]
          exact wpAny_pure (wpAny_pure h')
        · obtain ⟨j, hj⟩ := List.getElem?_of_mem hp
          exact absurd hj (hn j p)
      · have hm : (k, p) ∈ kb := List.mem_of_getElem? hj
        refine wpAny_bind (wpAny_dictEntries hob hdb ?_)
        have hent' : es'[j]? = some (entryOfKey knd (k, p)) := by rw [entry_at hkb j, hj]; rfl
        rw [hent']
        rcases hpre.inv with ⟨hn, _⟩ | ⟨e, b', _, he, hrr, er⟩
        · exact absurd hm (hn p)
        · refine wpAny_holding (he p hm prog w _ _ ?_)
          cases e with
          | false =>
            rw [er, Bool.false_and] at h'
            show wpAny _ _ (if (!false) = true then _ else _) _ _ _
            rw [if_pos (by decide)]
            exact wpAny_pure (wpAny_pure h')
          | true =>
            rw [Bool.true_and] at er
            rw [← er] at hrr
            show wpAny _ _ (if (!true) = true then _ else _) _ _ _
            rw [if_neg (by decide)]
            refine wpAny_bind (wpAny_dictEpoch hoa hda ?_)
            rw [if_neg (by simp)]
            exact wpAny_pure ⟨rfl, rfl, x + 1, hrest, hlt, hrr⟩
    · rintro q s' ⟨rfl, rfl, i, hr, hi, hpre⟩
      have hin : i = es.size := by
        rcases Nat.lt_or_ge i es.size with h | h
        · have e : es.size - i = (es.size - (i + 1)) + 1 := by omega
          rw [e, List.range'_succ] at hr; exact nomatch hr
        · exact Nat.le_antisymm hi h
      refine wpAny_pure ?_
      rw [hin, ← hla, List.drop_length] at hpre
      cases hpre
      exact h'
theorem h_eq {a b : Addr} {ka kb : List (K × Addr × Value)} {r : Bool} {Q : Value → Shared → Prop} (hk : knd.room A.in1) (ha : (a == sysModules) = false) (hb : (b == sysModules) = false)
    (da : s.heap.DictOfH knd a ka) (db : s.heap.DictOfH knd b kb) (hu : A.units < cLine) (hits : ka.length = kb.length → HHits A.in1 s kb ka r) (h : Q (.bool (ka.length == kb.length && r)) s) :
    wpAny (model prog w) A (compareOp .Eq (.ref a) (.ref b)) Q E s := by
  refine wpAny_richCompare_same_room (op := .Eq) da.typeIs db.typeIs PySem.F.slot_dict_eq (wpAny_call_entry PySem.F.slot_dict_eq da.typeIs PySem.F.entry_dict_eq ?_ (PySem.F.args_dict_eq_2 _ _)) hu
  show wpAny _ _ (Builtin.Dict.dictSlotArgs "__eq__" ⟨[.ref a, .ref b], []⟩ >>= _) _ _ s
  refine wpAny_bind ?_
  unfold Builtin.Dict.dictSlotArgs
  refine wpAny_bind (wpAny_notOrdered_dict da.typeIs ?_)
  show wpAny _ _ (pure (Value.ref a, Value.ref b)) _ _ s
  refine wpAny_pure ?_
  refine wpAny_bind (wpAny_isInstance (T := "dict") db.typeIs PySem.F.sub_dict_dict ?_)
  simp only [Bool.not_true, Bool.false_eq_true, if_false]
  refine wpAny_bind (wpAny_pure (wpAny_bind (wpAny_pure ?_)))
  refine wpAny_bind (h_samePairs hk ha hb da db hits ?_)
  refine wpAny_pure ⟨_, rfl, ?_, ?_⟩
  · exact fun x => nomatch x
  · simpa using h
theorem h_ne {a b : Addr} {ka kb : List (K × Addr × Value)} {r : Bool} {Q : Value → Shared → Prop} (hk : knd.room A.in1) (ha : (a == sysModules) = false) (hb : (b == sysModules) = false)
    (da : s.heap.DictOfH knd a ka) (db : s.heap.DictOfH knd b kb) (hu : A.units < cLine) (hits : ka.length = kb.length → HHits A.in1 s kb ka r) (h : Q (.bool (!(ka.length == kb.length && r))) s) :
    wpAny (model prog w) A (compareOp .NotEq (.ref a) (.ref b)) Q E s := by
  refine wpAny_richCompare_same_room (op := .NotEq) da.typeIs db.typeIs PySem.F.slot_dict_ne (wpAny_call_entry PySem.F.slot_dict_ne da.typeIs PySem.F.entry_dict_ne ?_ (PySem.F.args_dict_ne_2 _ _)) hu
  show wpAny _ _ (Builtin.Dict.dictSlotArgs "__ne__" ⟨[.ref a, .ref b], []⟩ >>= _) _ _ s
  refine wpAny_bind ?_
  unfold Builtin.Dict.dictSlotArgs
  refine wpAny_bind (wpAny_notOrdered_dict da.typeIs ?_)
  show wpAny _ _ (pure (Value.ref a, Value.ref b)) _ _ s
  refine wpAny_pure ?_
  refine wpAny_bind (wpAny_isInstance (T := "dict") db.typeIs PySem.F.sub_dict_dict ?_)
  simp only [Bool.not_true, Bool.false_eq_true, if_false]
  refine wpAny_bind (wpAny_pure (wpAny_bind (wpAny_pure ?_)))
  refine wpAny_bind (h_samePairs hk ha hb da db hits ?_)
  refine wpAny_pure ⟨_, rfl, ?_, ?_⟩
  · exact fun x => nomatch x
  · simpa using h
end
end GT
namespace GT
open PySem PySem.Spec PyProof.Rows L2
/-! ### entries whose values are data -/
abbrev NKD := NestedKey × Dt
def valD (kd : List NKD) (k : NestedKey) : Option Dt := (kd.find? fun p => decide (p.1 = k)).map (·.2)
/-- == of two such dicts -/
def dEq (ka kb : List NKD) : Bool := ka.length == kb.length && ka.all fun p => match valD kb p.1 with
  | none => false
  | some d => Dt.beq p.2 d
/-- the values at kvs are the data of kd -/
def DD (K : PySem.W.Frag) (H : Hp) : List NKV → List NKD → Prop := Paired fun p q => p.1 = q.1 ∧ DtAt K H p.2 q.2 ∧ q.2.flat = true ∧ q.2.depth ≤ 8
section
variable {K : PySem.W.Frag} {H H1 : Hp} {M : List Addr} {kvs : List NKV} {kd : List NKD}
theorem DD.stp (h : DD K H kvs kd) (s : Stp M H H1) : DD K H1 kvs kd := by
  induction h with
  | nil => exact .nil
  | cons h _ ih => exact .cons ⟨h.1, DtAt.stp s _ _ h.2.2.1 h.2.1, h.2.2⟩ ih
theorem DD.keys (h : DD K H kvs kd) : kvs.map (·.1) = kd.map (·.1) := by
  induction h with
  | nil => rfl
  | cons h _ ih => rw [List.map_cons, List.map_cons, h.1, ih]
theorem DD.len (h : DD K H kvs kd) : kvs.length = kd.length := Paired.length h
theorem DD.val (h : DD K H kvs kd) (k : NestedKey) : (valV kvs k = none ∧ valD kd k = none) ∨ ∃ v d, valV kvs k = some v ∧ valD kd k = some d ∧ DtAt K H v d ∧ d.flat = true ∧ d.depth ≤ 8 := by
  induction h with
  | nil => exact .inl ⟨rfl, rfl⟩
  | @cons p q ps qs h t ih =>
    obtain ⟨h1, h2, h3, h4⟩ := h
    by_cases e : p.1 = k
    · have e' : q.1 = k := h1.symm.trans e
      exact .inr ⟨p.2, q.2, by simp [valV, List.find?_cons, e], by simp [valD, List.find?_cons, e'], h2, h3, h4⟩
    · have e' : ¬ q.1 = k := fun z => e (h1.trans z)
      rw [show valV (p :: ps) k = valV ps k by simp [valV, List.find?_cons, e], show valD (q :: qs) k = valD qs k by simp [valD, List.find?_cons, e']]
      exact ih
def putD (kd : List NKD) (k : NestedKey) (d : Dt) : List NKD :=
  if (kd.any fun p => decide (p.1 = k)) = true then kd.map (fun p => if p.1 = k then (p.1, d) else p) else kd ++ [(k, d)]
theorem DD.put (h : DD K H kvs kd) {k : NestedKey} {v : V} {d : Dt} (hv : DtAt K H v d) (f : d.flat = true) (n : d.depth ≤ 8) : DD K H (putK kvs k v) (putD kd k d) := by
  have e : (kvs.any fun p => decide (p.1 = k)) = kd.any fun p => decide (p.1 = k) := by
    clear hv f n
    induction h with
    | nil => rfl
    | cons h _ ih => rw [List.any_cons, List.any_cons, ih, h.1]
  unfold putK putD
  rw [e]
  split
  · rename_i hs
    clear e hs
    induction h with
    | nil => exact .nil
    | @cons p q ps qs h t ih =>
      rw [List.map_cons, List.map_cons]
      refine .cons ?_ ih
      by_cases c : p.1 = k
      · rw [if_pos c, if_pos (h.1.symm.trans c)]; exact ⟨h.1, hv, f, n⟩
      · rw [if_neg c, if_neg (fun z => c (h.1.trans z))]; exact h
  · exact Paired.snoc h ⟨rfl, hv, f, n⟩
theorem valD_put (kd : List NKD) (k j : NestedKey) (d : Dt) : valD (putD kd k d) j = if j = k then some d else valD kd j := by
  unfold putD
  split
  · rename_i ha
    rw [List.any_eq_true] at ha
    obtain ⟨p, hp, hk⟩ := ha
    simp only [decide_eq_true_eq] at hk
    induction kd with
    | nil => cases hp
    | cons q r ih =>
      by_cases e : q.1 = k
      · rw [List.map_cons, if_pos e]
        by_cases c : j = k
        · rw [if_pos c]; simp [valD, List.find?_cons, e, c]
        · rw [if_neg c]
          have n1 : ¬ q.1 = j := fun z => c (z.symm.trans e)
          rw [show valD ((q.1, d) :: r.map (fun p => if p.1 = k then (p.1, d) else p)) j = valD (r.map (fun p => if p.1 = k then (p.1, d) else p)) j by simp [valD, List.find?_cons, n1], show valD (q :: r) j = valD r j by simp [valD, List.find?_cons, n1]]
          clear ih hp hk
          induction r with
          | nil => rfl
          | cons x r ih2 =>
            rw [List.map_cons]
            by_cases ex : x.1 = k
            · rw [if_pos ex]
              have n2 : ¬ x.1 = j := fun z => c (z.symm.trans ex)
              simpa [valD, List.find?_cons, n2] using ih2
            · rw [if_neg ex]
              by_cases ej : x.1 = j
              · simp [valD, List.find?_cons, ej]
              · simpa [valD, List.find?_cons, ej] using ih2
      · rw [List.map_cons, if_neg e]
        rcases List.mem_cons.mp hp with z | hp
        · rw [z] at hk; exact absurd hk e
        · by_cases ej : q.1 = j
          · have c : ¬ j = k := fun z => e (ej.trans z)
            rw [if_neg c]; simp [valD, List.find?_cons, ej]
          · have := ih hp
            simpa [valD, List.find?_cons, ej] using this
  · rename_i ha
    have hn : ∀ p ∈ kd, ¬ p.1 = k := fun p hp e => ha (by rw [List.any_eq_true]; exact ⟨p, hp, by simp [e]⟩)
    clear ha
    induction kd with
    | nil =>
      by_cases c : j = k
      · rw [if_pos c]; simp [valD, c]
      · rw [if_neg c]
        have : ¬ k = j := fun z => c z.symm
        simp [valD, this]
    | cons q r ih =>
      have ih := ih fun p hp => hn p (List.mem_cons_of_mem _ hp)
      by_cases ej : q.1 = j
      · have c : ¬ j = k := fun z => hn q List.mem_cons_self (ej.trans z)
        rw [if_neg c]; simp [valD, List.find?_cons, ej]
      · simpa [valD, List.find?_cons, ej] using ih
end
theorem valD_mem {kd : List NKD} {k : NestedKey} {d : Dt} (h : valD kd k = some d) : (k, d) ∈ kd := by
  unfold valD at h
  obtain ⟨p, hp, rfl⟩ := Option.map_eq_some_iff.mp h
  have h2 := List.find?_some hp
  simp only [decide_eq_true_eq] at h2
  rw [← h2]; exact List.mem_of_find?_eq_some hp
theorem valD_of {kd : List NKD} {k : NestedKey} {d : Dt} (n : (kd.map (·.1)).Nodup) (h : (k, d) ∈ kd) : valD kd k = some d := by
  induction kd with
  | nil => cases h
  | cons p r ih =>
    rw [List.map_cons, List.nodup_cons] at n
    rcases List.mem_cons.mp h with e | h
    · subst e; simp [valD, List.find?_cons]
    · have : p.1 ≠ k := fun e => n.1 (List.mem_map.mpr ⟨_, h, e.symm⟩)
      rw [show valD (p :: r) k = valD r k by simp [valD, List.find?_cons, this]]
      exact ih n.2 h
theorem len_sub {κ : Type} [DecidableEq κ] : ∀ (a b : List κ), a.Nodup → a ⊆ b → a.length ≤ b.length
  | [], _, _, _ => Nat.zero_le _
  | x :: r, b, n, h => by
    rw [List.nodup_cons] at n
    have hx : x ∈ b := h List.mem_cons_self
    have ih := len_sub r (b.erase x) n.2 fun y hy => by
      have ne : y ≠ x := fun e => n.1 (e ▸ hy)
      exact (List.mem_erase_of_ne ne).mpr (h (List.mem_cons_of_mem _ hy))
    have l := List.length_erase_of_mem hx
    have p : 0 < b.length := List.length_pos_of_mem hx
    rw [List.length_cons]
    omega
/-- == tells whether each key has the same value -/
theorem dEq_iff {ka kb : List NKD} (na : (ka.map (·.1)).Nodup) (nb : (kb.map (·.1)).Nodup) (pa : ∀ p ∈ ka, p.2.pure = true) (pb : ∀ p ∈ kb, p.2.pure = true) : dEq ka kb = true ↔ ∀ k, valD ka k = valD kb k := by
  unfold dEq
  rw [Bool.and_eq_true, List.all_eq_true, beq_iff_eq]
  constructor
  · rintro ⟨hl, h⟩
    have sub : ∀ p ∈ ka, valD kb p.1 = some p.2 := fun p hp => by
      have := h p hp
      cases q : valD kb p.1 with
      | none => rw [q] at this; exact absurd this (by simp)
      | some d =>
        rw [q] at this
        rw [Dt.eq_of_beq _ _ (pa p hp) (pb _ (valD_mem q)) this]
    -- keys of ka are those of kb
    have s1 : (ka.map (·.1)) ⊆ (kb.map (·.1)) := fun k hk => by
      obtain ⟨p, hp, rfl⟩ := List.mem_map.mp hk
      exact List.mem_map.mpr ⟨_, valD_mem (sub p hp), rfl⟩
    intro k
    cases q : valD ka k with
    | some d => exact (sub _ (valD_mem q)).symm
    | none =>
      cases r : valD kb k with
      | none => rfl
      | some d =>
        have hk : k ∈ kb.map (·.1) := List.mem_map.mpr ⟨_, valD_mem r, rfl⟩
        by_cases hka : k ∈ ka.map (·.1)
        · obtain ⟨p, hp, rfl⟩ := List.mem_map.mp hka
          rw [valD_of na hp] at q
          cases q
        · have := len_sub (k :: ka.map (·.1)) (kb.map (·.1)) (List.nodup_cons.mpr ⟨hka, na⟩) fun y hy => by
            rcases List.mem_cons.mp hy with e | e
            · rw [e]; exact hk
            · exact s1 e
          simp at this
          omega
  · intro h
    have sub : ∀ {x y : List NKD}, (x.map (·.1)).Nodup → (∀ k, valD x k = valD y k) → (x.map (·.1)) ⊆ (y.map (·.1)) := fun nx hxy k hk => by
      obtain ⟨p, hp, rfl⟩ := List.mem_map.mp hk
      have := hxy p.1
      rw [valD_of nx hp] at this
      exact List.mem_map.mpr ⟨_, valD_mem this.symm, rfl⟩
    refine ⟨?_, fun p hp => ?_⟩
    · have l1 := len_sub _ _ na (sub na h)
      have l2 := len_sub _ _ nb (sub nb fun k => (h k).symm)
      simp at l1 l2
      omega
    · rw [← h p.1, valD_of na hp]
      exact Dt.beq_self _
end GT

namespace GT
open PySem PySem.Spec PyProof.Rows L2
abbrev YD (h : Heap) : List (NestedKey × Addr × Value) → List NKD → Prop := Paired fun y q => y.1 = q.1 ∧ DtIs h q.2 y.2.2 ∧ q.2.depth ≤ 8
section
variable {X : Cx} {pins : List (Addr × Obj)} {σ : L2.St} {H : Hp} {s : Shared}
theorem yd_of (I : Inv X pins σ H s) : ∀ {xs : List (NestedKey × Addr × V)} {ys : List (NestedKey × Addr × Value)} {da : List NKD}, NdRel xs ys → DD X.K H (plainX xs) da → YD s.heap ys da := by
  intro xs ys da r
  induction r generalizing da with
  | nil =>
    intro d
    have d' : DD X.K H [] da := d
    cases d'
    exact .nil
  | @cons p q ps qs h t ih =>
    intro d
    have d' : DD X.K H ((p.1, p.2.2) :: plainX ps) da := d
    cases d' with
    | cons e et => exact .cons ⟨h.1.symm.trans e.1, DtAt.is I _ _ _ e.2.1 h.2.2, e.2.2.2⟩ (ih et)
theorem YD.keys {h : Heap} {ys : List (NestedKey × Addr × Value)} {da : List NKD} (r : YD h ys da) : ys.map (·.1) = da.map (·.1) := by
  induction r with
  | nil => rfl
  | cons h _ ih => rw [List.map_cons, List.map_cons, h.1, ih]
theorem YD.len {h : Heap} {ys : List (NestedKey × Addr × Value)} {da : List NKD} (r : YD h ys da) : ys.length = da.length := Paired.length r
theorem YD.at {h : Heap} {ys : List (NestedKey × Addr × Value)} {da : List NKD} (r : YD h ys da) {k : NestedKey} {p : Addr × Value} (m : (k, p) ∈ ys) : ∃ d, (k, d) ∈ da ∧ DtIs h d p.2 ∧ d.depth ≤ 8 := by
  induction r with
  | nil => cases m
  | @cons y q _ _ e _ ih =>
    rcases List.mem_cons.mp m with z | m
    · subst z
      obtain ⟨k', d'⟩ := q
      obtain ⟨rfl, e2, e3⟩ := e
      exact ⟨_, List.mem_cons_self, e2, e3⟩
    · obtain ⟨d, hd, x⟩ := ih m
      exact ⟨d, List.mem_cons_of_mem _ hd, x⟩
theorem YD.hits {A : Around} {yb : List (NestedKey × Addr × Value)} {db : List NKD} (hu : A.units + 32 < cLine) (rb : YD s.heap yb db) (nb : (db.map (·.1)).Nodup) {ya : List (NestedKey × Addr × Value)} {da : List NKD} (r : YD s.heap ya da) :
    HHits A s yb ya (da.all fun p => match valD db p.1 with
      | none => false
      | some d => Dt.beq p.2 d) := by
  induction r with
  | nil => exact .nil
  | @cons y q _ _ e _ ih =>
    obtain ⟨k, a, u⟩ := y
    obtain ⟨k', d⟩ := q
    obtain ⟨e1, e2, e3⟩ := e
    obtain rfl : k = k' := e1
    rw [List.all_cons]
    cases hv : valD db k with
    | none =>
      simp only [hv, Bool.false_and]
      refine .miss fun p hp => ?_
      obtain ⟨d', hd, _⟩ := rb.at hp
      rw [valD_of nb hd] at hv
      cases hv
    | some d2 =>
      simp only [hv]
      refine .hit ?_ (fun p hp => ?_) ih
      · have hm : k ∈ yb.map (·.1) := by rw [rb.keys]; exact List.mem_map.mpr ⟨_, valD_mem hv, rfl⟩
        obtain ⟨⟨k2, p⟩, hp, ek⟩ := List.mem_map.mp hm
        obtain rfl : k2 = k := ek
        exact ⟨p, hp⟩
      · obtain ⟨d', hd, h1, h2⟩ := rb.at hp
        rw [valD_of nb hd] at hv
        cases hv
        exact eqAt_dt d _ A s u p.2 e2 h1 (by omega)
end
section
variable {P : Program} {w : World} {K : PySem.W.Frag} {X : Cx}
def rEqN (P : Program) (w : World) (K : PySem.W.Frag) : R2 := fun x y H Q => ∃ a b ka kb da db, x = .ref a ∧ y = .ref b ∧ NDR P w K H a ka ∧ NDR P w K H b kb ∧ DD K H ka da ∧ DD K H kb db ∧
  ((da.map (·.1)).Nodup → (db.map (·.1)).Nodup → Q (.bl (dEq da db)) H)
def rNeN (P : Program) (w : World) (K : PySem.W.Frag) : R2 := fun x y H Q => ∃ a b ka kb da db, x = .ref a ∧ y = .ref b ∧ NDR P w K H a ka ∧ NDR P w K H b kb ∧ DD K H ka da ∧ DD K H kb db ∧
  ((da.map (·.1)).Nodup → (db.map (·.1)).Nodup → Q (.bl (!dEq da db)) H)
theorem DictOfH.nd {h : Heap} {P : Program} {w : World} {d : Addr} {ys : List (NestedKey × Addr × Value)} (x : h.DictOfH (nestedKind P w) d ys) : (ys.map (·.1)).Nodup := by
  obtain ⟨_, _, _, _, _, _, _, _, n⟩ := x
  exact n
theorem op_eqN (eP : X.prog = P) (ew : X.w = w) (eK : X.K = K) (hu : X.A.units + 64 < cLine) : OpR X (compareOp .Eq) (rEqN P w K) := by
  subst eP; subst ew; subst eK
  intro pins s σ H x y v u Q I rx ry h
  obtain ⟨a, b, ka, kb, da, db, rfl, rfl, ⟨xa, ea, ksa, rfl⟩, ⟨xb, eb, ksb, rfl⟩, dda, ddb, q⟩ := h
  obtain rfl : v = Value.ref a := rx
  obtain rfl : u = Value.ref b := ry
  obtain ⟨_, ha, ya, ra, oa⟩ := nd_raw I ea ksa
  obtain ⟨_, hb, yb, rb, ob⟩ := nd_raw I eb ksb
  have ja := yd_of I ra dda
  have jb := yd_of I rb ddb
  have na : (da.map (·.1)).Nodup := by rw [← ja.keys]; exact DictOfH.nd oa
  have nb : (db.map (·.1)).Nodup := by rw [← jb.keys]; exact DictOfH.nd ob
  have hu1 : X.A.in1.units = X.A.units + 1 := Around.in1_units ..
  refine h_eq (knd := nestedKind X.prog X.w) (show X.A.in1.units + 8 < cLine by omega) ha hb oa ob (by omega) (fun _ => YD.hits (by omega) jb nb ja) ?_
  refine ⟨.bl _, H, I, rfl, ?_⟩
  rw [ja.len, jb.len]
  exact q na nb
theorem op_neN (eP : X.prog = P) (ew : X.w = w) (eK : X.K = K) (hu : X.A.units + 64 < cLine) : OpR X (compareOp .NotEq) (rNeN P w K) := by
  subst eP; subst ew; subst eK
  intro pins s σ H x y v u Q I rx ry h
  obtain ⟨a, b, ka, kb, da, db, rfl, rfl, ⟨xa, ea, ksa, rfl⟩, ⟨xb, eb, ksb, rfl⟩, dda, ddb, q⟩ := h
  obtain rfl : v = Value.ref a := rx
  obtain rfl : u = Value.ref b := ry
  obtain ⟨_, ha, ya, ra, oa⟩ := nd_raw I ea ksa
  obtain ⟨_, hb, yb, rb, ob⟩ := nd_raw I eb ksb
  have ja := yd_of I ra dda
  have jb := yd_of I rb ddb
  have na : (da.map (·.1)).Nodup := by rw [← ja.keys]; exact DictOfH.nd oa
  have nb : (db.map (·.1)).Nodup := by rw [← jb.keys]; exact DictOfH.nd ob
  have hu1 : X.A.in1.units = X.A.units + 1 := Around.in1_units ..
  refine h_ne (knd := nestedKind X.prog X.w) (show X.A.in1.units + 8 < cLine by omega) ha hb oa ob (by omega) (fun _ => YD.hits (by omega) jb nb ja) ?_
  refine ⟨.bl _, H, I, rfl, ?_⟩
  rw [ja.len, jb.len]
  exact q na nb
end
end GT

/-! ## methods and makers -/
namespace GT
open PySem PySem.Spec PyProof.Rows L2
def Dfm (K : PySem.W.Frag) (C : Addr) (d : He.DefD) : Prop := ∃ (f : Addr) (fd : FuncData), FunD K d.name d.qual d.params d.body d.scope [] [] f fd ∧ Meth K C d.name f
def Dfi (K : PySem.W.Frag) (mg : Str → Option Value) (C : Addr) (x : Str) (d : He.DefD) : Prop := ∃ (f : Addr) (fd : FuncData), FunD K d.name d.qual d.params d.body d.scope [] [] f fd ∧ (Mk K C f ∧ mg x = some (.ref C))
def Mth (P : Program) (w : World) (K : PySem.W.Frag) (mg : Str → Option Value) (base : Heap) (k : Nat) (C : Addr) (m : Str) (ps : List Str) (sp : Sp) : Prop :=
  ∃ (f : Addr) (fd : FuncData), FnOk P w K mg base CX0 k f fd ps sp ∧ Meth K C m f ∧ PySem.W.keepIn K (.ref f) = true ∧ Binds K fd ps []
def Mki (P : Program) (w : World) (K : PySem.W.Frag) (mg : Str → Option Value) (base : Heap) (k : Nat) (C : Addr) (x : Str) (ps : List Str) (sp : Sp) : Prop :=
  ∃ (f : Addr) (fd : FuncData), FnOk P w K mg base CX0 k f fd ps sp ∧ (Mk K C f ∧ mg x = some (.ref C)) ∧ PySem.W.keepIn K (.ref f) = true ∧ Binds K fd ps []
section
variable {X : Cx} {o e : Expr} {es : List Expr} {t : TA} {ta : TE} {x m : Str} {p pos apos : Pos} {ps : List Str} {sp : Sp} {k : Nat} {C : Addr}
theorem pc_meth {pl : Sem Bool} (he : PE X o ta) (c : Cls X.K C) (M : Mth X.prog X.w X.K X.mg X.base k C m ps sp) (hr : Room k X.A) (ha : PA X (e :: es) t)
    (hst : starEach (e :: es) X.env = (false, eval e X.env) :: starEach es X.env := by rfl) (hpl : (backTo pos (starEach es X.env)).any (·.1) = false := by rfl)
    (ht : eval (.Call (.Attribute o m apos) (e :: es) [] pos) X.env = (do
      let ov ← eval o X.env
      standAt apos.atName
      let (f, first) ← holding [ov] (getMethod ov m pl)
      callWith pos f first (backTo pos (starEach (e :: es) X.env)) (backToKw pos (keywordEach [] X.env))) := by rfl) :
    PE X (.Call (.Attribute o m apos) (e :: es) [] pos) (tMeth C m sp [] E0 ta t) := by
  obtain ⟨f, fd, F, hm, hk, hb⟩ := M
  exact pe_meth he c hm F hr hb .nil pass0 ha hst hpl ht
theorem pc_meth0 {pl : Sem Bool} (he : PE X o ta) (c : Cls X.K C) (M : Mth X.prog X.w X.K X.mg X.base k C m ps sp) (hr : Room k X.A)
    (ht : eval (.Call (.Attribute o m apos) [] [] pos) X.env = (do
      let ov ← eval o X.env
      standAt apos.atName
      let (f, first) ← holding [ov] (getMethod ov m pl)
      callWith pos f first (backTo pos (starEach [] X.env)) (backToKw pos (keywordEach [] X.env))) := by rfl) :
    PE X (.Call (.Attribute o m apos) [] [] pos) (tMeth C m sp [] E0 ta tNil) := by
  obtain ⟨f, fd, F, hm, hk, hb⟩ := M
  exact pe_meth0 he c hm F hr hb .nil pass0 ht
theorem pc_make0 (M : Mki X.prog X.w X.K X.mg X.base k C x ps sp) (hr : Room (k + 1) X.A) (hg : Gl X x) (hdb : (x == ("__debug__" : Str)) = false := by decide) : PE X (.Call (.Name x p) [] [] pos) (tMake C sp [] E0 tNil) := by
  obtain ⟨f, fd, F, ⟨hm, hx⟩, hk, hb⟩ := M
  exact pe_make0 hm F hr hg hx hb .nil pass0 hdb
theorem pc_make (M : Mki X.prog X.w X.K X.mg X.base k C x ps sp) (hr : Room (k + 1) X.A) (hg : Gl X x) (ha : PA X (e :: es) t) (hdb : (x == ("__debug__" : Str)) = false := by decide)
    (he : starEach (e :: es) X.env = (false, eval e X.env) :: starEach es X.env := by rfl) (hpl : (backTo pos (starEach es X.env)).any (·.1) = false := by rfl) : PE X (.Call (.Name x p) (e :: es) [] pos) (tMake C sp [] E0 t) := by
  obtain ⟨f, fd, F, ⟨hm, hx⟩, hk, hb⟩ := M
  exact pe_make hm F hr hg hx hb .nil pass0 ha hdb he hpl
end
section
variable {σ : L2.St} {H : Hp} {Q : VK} {ta tv : TE} {t : TA} {K : PySem.W.Frag} {C : Addr} {m f : Str} {sp : Sp} {dvs : List V} {E : XK} {D : Ends}
theorem i_Meth (q : ta σ H fun x H1 => ∃ a dx fs, x = .ref a ∧ H1 a = some (.ins C dx fs) ∧ fs.lookup m = none ∧ t σ H1 fun vs H2 => sp (x :: (vs ++ dvs)) H2 Q E) : tMeth C m sp dvs E ta t σ H Q := q
theorem i_Make (q : t σ H fun vs H1 => ∀ x dx, H1 x = none → H1 dx = none → dx ≠ x → sp (.ref x :: (vs ++ dvs)) (upd (upd H1 dx (.own x)) x (.ins C dx [])) (fun v H2 => v = .non ∧ Q (.ref x) H2) E) : tMake C sp dvs E t σ H Q := q
theorem i_Fld (q : ta σ H fun x H1 => ∃ a C dx fs v, x = .ref a ∧ H1 a = some (.ins C dx fs) ∧ Cls K C ∧ NoAttr K C f ∧ fs.lookup f = some v ∧ Q v H1) : tFld K ta f σ H Q := q
theorem i_sFld (q : tv σ H fun y H1 => ta σ H1 fun x H2 => ∃ a C dx fs, x = .ref a ∧ H2 a = some (.ins C dx fs) ∧ Cls K C ∧ NoAttr K C f ∧ fs.length < 1000 ∧ D.nx σ (upd H2 a (.ins C dx (putF f y fs)))) : sFld K ta tv f D σ H := q
end
/-! ### stamps, pairs of numbers in order -/
def ltP2 (a b : Int × Int) : Bool := decide (a.1 < b.1 ∨ (a.1 = b.1 ∧ a.2 < b.2))
theorem ltP2_eq (a b : Int × Int) : PySem.W.dataLt (Dt.tup [.num a.1, .num a.2]).py (Dt.tup [.num b.1, .num b.2]).py = ltP2 a b := PySem.W.dataLt_ii a.1 a.2 b.1 b.2
theorem al2 (a b : Int × Int) : PySem.W.alike (Dt.tup [.num a.1, .num a.2]).py (Dt.tup [.num b.1, .num b.2]).py = true := rfl
theorem i_LtP {K : PySem.W.Frag} {H : Hp} {Q : VK} {x y : V} {a b : Int × Int} (hx : DtAt K H x (.tup [.num a.1, .num a.2])) (hy : DtAt K H y (.tup [.num b.1, .num b.2])) (q : Q (.bl (ltP2 a b)) H) : rLtO K x y H Q :=
  ⟨_, _, ⟨hx, hy, rfl, rfl, rfl, by simp [Dt.py], by simp [Dt.depth, Dt.depthAll]⟩, by rw [ltP2_eq]; exact q⟩
theorem i_GtP {K : PySem.W.Frag} {H : Hp} {Q : VK} {x y : V} {a b : Int × Int} (hx : DtAt K H x (.tup [.num a.1, .num a.2])) (hy : DtAt K H y (.tup [.num b.1, .num b.2])) (q : Q (.bl (ltP2 b a)) H) : rGtO K x y H Q :=
  ⟨_, _, ⟨hx, hy, rfl, rfl, rfl, by simp [Dt.py], by simp [Dt.depth, Dt.depthAll]⟩, by rw [ltP2_eq]; exact q⟩
end GT

/-! ## sorted, max of data -/
namespace GT
open PySem PySem.Spec PyProof.Rows L2 PySem.W
section
variable {X : Cx} {K : PySem.W.Frag} {H : Hp}
theorem Dt.flat_mem : ∀ {ds : List Dt} {d : Dt}, Dt.flatAll ds = true → d ∈ ds → d.flat = true
  | _ :: _, _, f, e => by
    simp only [Dt.flatAll, Bool.and_eq_true] at f
    rcases List.mem_cons.mp e with e | e
    · subst e; exact f.1
    · exact Dt.flat_mem f.2 e
theorem dts_each {pins : List (Addr × Obj)} {σ : L2.St} {s : Shared} (I : Inv X pins σ H s) : ∀ {xs : List V} {us : List Value} {ds : List Dt}, Vals xs us → DtsAt X.K H xs ds → EachIs (fun (u : Value) (d : Dt) => ∃ x, RelV x u ∧ DtAt X.K H x d) us ds
  | _, _, _, .nil, h => by cases h; exact .nil
  | _, _, _, .cons r rs, h => by
    cases h with
    | cons h1 h2 => exact .cons ⟨_, r, h1⟩ (dts_each I rs h2)
theorem each_dts : ∀ {us : List Value} {ds : List Dt}, EachIs (fun (u : Value) (d : Dt) => ∃ x, RelV x u ∧ DtAt K H x d) us ds → ∃ xs, Vals xs us ∧ DtsAt K H xs ds
  | _, _, .nil => ⟨[], .nil, .nil⟩
  | _, _, .cons ⟨x, r, h⟩ t => by
    obtain ⟨xs, h1, h2⟩ := each_dts t
    exact ⟨x :: xs, .cons r h1, .cons h h2⟩
def leD (d e : Dt) : Bool := dataLe false Dt.py d e
def rSortedD (K : PySem.W.Frag) : List V → Hp → VK → Prop := fun vs H Q => ∃ (a : Addr) (xs : List V) (ds : List Dt), vs = [.ref a] ∧ SqL K H a xs ∧ DtsAt K H xs ds ∧ Dt.flatAll ds = true ∧ Dt.depthAll ds ≤ 8 ∧ AllAlike (ds.map Dt.py) ∧ Sortable (ds.map Dt.py) ∧
  ∀ (p : Addr) (ys : List V), H p = none → DtsAt K H ys (ds.mergeSort leD) → Q (.ref p) (upd H p (.lst ys))
theorem cr_sortedD (hu : X.A.units + 64 < cLine) : CallR X (.builtin "sorted") (rSortedD X.K) := by
  intro pins s σ H vs us Q I r h
  obtain ⟨a, xs, ds, rfl, hs, hd, hf, hdp, hal, hsk, q⟩ := h
  obtain rfl := Vals.ref1 r
  obtain ⟨its, rv, hl, hz⟩ := I.list hs
  have e := dts_each I rv hd
  have er : EachIs (fun v d => ∃ as, Reads s.heap v (Dt.py d) as) its ds := (each_mem e).mono fun u d ⟨⟨x, rx, hx⟩, hm⟩ => ⟨[], DtIs.reads d u (Dt.flat_mem hf hm) (DtAt.is I d x u hx rx)⟩
  have ln : xs.length = ds.length := hd.length
  refine sorted_data hl.isList e er hal hsk (by rw [← ln]; exact hz) (fun d hm => ?_) fun out ho hR => ?_
  · have h1 := Dt.depth_mem hm
    have h2 := Dt.py_depth d
    omega
  · obtain ⟨ys, vy, dy⟩ := each_dts hR
    obtain ⟨ep, he'⟩ := sortedAll_at s.heap its out.toArray
    have hlen : ys.length ≤ sizeLine := by
      have h1 := vy.length
      have : ys.length = out.length := h1
      rw [this, ho, ← ln]; exact hz
    exact ⟨.ref _, upd H (s.heap.objs.size + 1) (.lst ys), I.laid (t' := s.toks) (fun _ _ => sortedAll_old) (Nat.le_succ _) ⟨hlen, out, ep, vy, he'⟩, rfl, q _ ys (I.hok.fresh (Nat.le_succ _)) dy⟩
end
end GT
namespace GT
open PySem PySem.Spec PyProof.Rows L2 PySem.W
section
variable {X : Cx}
theorem each_at {α β : Type} {R : α → β → Prop} : ∀ {us : List α} {ds : List β} {i : Nat} {u : α}, EachIs R us ds → us[i]? = some u → ∃ d, ds[i]? = some d ∧ R u d
  | _, _, _, _, .nil, e => by simp at e
  | _, _, 0, _, .cons r _, e => by simp at e; subst e; exact ⟨_, rfl, r⟩
  | _, _, i + 1, _, .cons _ t, e => by
    obtain ⟨d, h1, h2⟩ := each_at (i := i) t (by simpa using e)
    exact ⟨d, by simpa using h1, h2⟩
theorem maxD_mem : ∀ (xs : List PyData) (x : PyData), maxD x xs ∈ x :: xs
  | [], x => by simp [maxD]
  | y :: ys, x => by
    have e : maxD x (y :: ys) = maxD (if dataLt x y then y else x) ys := rfl
    rw [e]
    have h := maxD_mem ys (if dataLt x y then y else x)
    rcases List.mem_cons.mp h with z | z
    · rw [z]; split <;> simp
    · simp [z]
/-- max(xs, default=None): the data of xs are alike; what is greatest, as it stands -/
def rMaxN (K : PySem.W.Frag) : List V → List V → Hp → VK → Prop := fun vs zs H Q => ∃ (a : Addr) (xs : List V) (ds : List Dt), vs = [.ref a] ∧ zs = [.non] ∧ SqL K H a xs ∧ DtsAt K H xs ds ∧ Dt.flatAll ds = true ∧ Dt.depthAll ds ≤ 8 ∧ AllAlike (ds.map Dt.py) ∧ (∀ d ∈ ds, d.py ≠ .none) ∧
  (ds = [] → Q .non H) ∧ ∀ (d : Dt) (es : List Dt) (x : Dt) (v : V), ds = d :: es → x ∈ ds → x.py = maxD d.py (es.map Dt.py) → DtAt K H v x → Q v H
theorem cr_maxN (hc : X.calm = true) (hu : X.A.units + 64 < cLine) : CallRK X (.builtin "max") [Str.ofString "default"] (rMaxN X.K) := by
  intro pins s σ H vs zs us ws Q I r rz h
  obtain ⟨a, xs, ds, rfl, rfl, hs, hd, hf, hdp, hal, hnn, q0, q1⟩ := h
  obtain rfl := Vals.ref1 r
  obtain ⟨w1, rfl, e1⟩ := vals1 rz
  obtain rfl : w1 = Value.none := e1
  obtain ⟨its, rv, hl, hz⟩ := I.list hs
  have hr : ReadsAll s.heap its (Dt.pys ds) [] := DtAll.reads ds its hf (DtsAt.is I ds xs its hd rv)
  have hr' : ReadsAll s.heap (its.toArray).toList (ds.map Dt.py) [] := by rw [← Dt.pys_map]; simpa using hr
  have ha : AlikeAll (ds.map Dt.py) := ⟨fun x hx y hy => hal x hx y hy, fun x hx => by
    obtain ⟨d, hd, rfl⟩ := List.mem_map.mp hx
    exact hnn d hd⟩
  have hdep : PyData.depthAll (ds.map Dt.py) ≤ 8 := by rw [← Dt.pys_map, Dt.pys_depth]; exact hdp
  refine max_list_default (I.ok.hd hc) hl.isList hr' ha (by omega) (fun hnil h' tk k => ?_) fun y ys i v h' tk bs hx hv hR k => ?_
  · exact ⟨.non, H, I.kept k, rfl, q0 (by simpa using hnil)⟩
  · have hv' : its[i]? = some v := by simpa using hv
    obtain ⟨d, hdi, x, rx, hx2⟩ := each_at (dts_each I rv hd) hv'
    have hdm := List.mem_of_getElem? hdi
    have hrd := PyProof.Rows.Reads.keeps k (DtIs.reads d v (Dt.flat_mem hf hdm) (DtAt.is I d x v hx2 rx))
    have hmm : maxD y ys ∈ ds.map Dt.py := by rw [hx]; exact maxD_mem ys y
    have heq : d.py = maxD y ys := alike_unique _ _ v _ _ (hal _ (List.mem_map.mpr ⟨d, hdm, rfl⟩) _ hmm) hrd hR
    cases ds with
    | nil => cases hx
    | cons d0 es =>
      rw [List.map_cons] at hx
      injection hx with h1 h2
      refine ⟨x, H, I.kept k, rx, q1 d0 es d x rfl hdm (by rw [heq, ← h1, ← h2]) hx2⟩
end
end GT

/-! ## a lambda of one parameter, a tuple: (x[0], x[1], x[2]) -/
namespace GT
open PySem PySem.Spec PyProof.Rows L2
section
variable {prog : Program} {w : World} {A : Around} {E : Value → Shared → Prop} {s : Shared} {env : Env}
theorem raw_ix {x : Str} {p p2 pos : Pos} {kd : Nat} {k : Nat} {t : Addr} {items : Array Value} {v : Value} {m : Str → Option Value} {Q : Value → Shared → Prop} (hk : env.scope.kind = .function) (hl : env.kindOf x = some .local) (hn : s.heap.Ns env.locals m) (hm : m x = some (.ref t)) (ht : IsTup s.heap t items) (hv : items[k]? = some v) (h9 : k < 9)
    (q : Q v { s with toks := s.toks + 1 }) (hd : (x == ("__debug__" : Str)) = false) : wpAny (model prog w) A (eval (.Subscript (.Name x p) (.Constant (.int (k : Int)) kd p2) pos) env) Q E s := by
  have hlt : k < items.size := (Array.getElem?_eq_some_iff.mp hv).1
  refine subD_of (T := "tuple") slot_tuple_getitem.lookup (fun _ _ => rfl) (wpAny_Name (wpAny_loadName_local hk hl hn hm (wpAny_Constant_int ⟨ht.typeIs, ?_⟩)) hd)
  refine getItem_tuple (j := k) ht (by omega) (by omega) ?_ hv q
  unfold seqIndex?
  rw [if_neg (show ¬ (k : Int) < 0 by omega)]
  have h1 : (0 : Int) ≤ (k : Int) := by omega
  have h2 : (k : Int) < (items.size : Int) := by omega
  simp only [h1, h2, decide_true, Bool.and_true, if_true]
  simp
theorem raw_key3 {x : Str} {p0 p1 p2 q0 q1 q2 r0 r1 r2 pos : Pos} {d0 d1 d2 kd : Nat} {t : Addr} {items : Array Value} {v0 v1 v2 : Value} {m : Str → Option Value} {Q : Value → Shared → Prop} (hk : env.scope.kind = .function) (hl : env.kindOf x = some .local) (hn : s.heap.Ns env.locals m) (hm : m x = some (.ref t)) (ht : IsTup s.heap t items)
    (h0 : items[0]? = some v0) (h1 : items[1]? = some v1) (h2 : items[2]? = some v2) (hd : (x == ("__debug__" : Str)) = false)
    (q : Q (.ref s.heap.objs.size) { s with heap := s.heap.push { cls := .type "tuple", data := .seq #[v0, v1, v2] }, toks := s.toks + 3 }) :
    wpAny (model prog w) A (eval (.Tuple [.Subscript (.Name x p0) (.Constant (.int (0 : Int)) d0 q0) r0, .Subscript (.Name x p1) (.Constant (.int (1 : Int)) d1 q1) r1, .Subscript (.Name x p2) (.Constant (.int (2 : Int)) d2 q2) r2] kd pos) env) Q E s := by
  refine wpAny_Tuple ?_
  refine spliced_more (raw_ix (k := 0) hk hl hn hm ht h0 (by decide) ?_ hd)
  refine spliced_more (raw_ix (k := 1) hk hl hn hm ht h1 (by decide) ?_ hd)
  refine spliced_more (raw_ix (k := 2) hk hl hn hm ht h2 (by decide) ?_ hd)
  exact spliced_none ⟨by show 3 ≤ sizeLine; decide, q⟩
/-- the call of such a lambda -/
theorem lam_key3 {f c' t : Addr} {qual x : Str} {params : Arguments} {scope : Scope} {pm ctv : Value} {p0 p1 p2 q0 q1 q2 r0 r1 r2 pos : Pos} {d0 d1 d2 kd : Nat} {items : Array Value} {v0 v1 v2 : Value}
    (of : s.heap.get? f = some (PySem.W.kla_obj "<lambda>" qual params (.Tuple [.Subscript (.Name x p0) (.Constant (.int (0 : Int)) d0 q0) r0, .Subscript (.Name x p1) (.Constant (.int (1 : Int)) d1 q1) r1, .Subscript (.Name x p2) (.Constant (.int (2 : Int)) d2 q2) r2] kd pos) scope [] pm c' ctv))
    (rc : s.heap.CodeRec (.ref c') qual) (nl : s.heap.NoLimit) (room : A.depth < recursionLimit)
    (hbind : bindArgs (PySem.W.kla_fn "<lambda>" qual params (.Tuple [.Subscript (.Name x p0) (.Constant (.int (0 : Int)) d0 q0) r0, .Subscript (.Name x p1) (.Constant (.int (1 : Int)) d1 q1) r1, .Subscript (.Name x p2) (.Constant (.int (2 : Int)) d2 q2) r2] kd pos) scope [] pm (.ref c') ctv) ⟨[.ref t], []⟩ = pure [(x, .ref t)])
    (hk : scope.kind = .function) (co : scope.isCoroutine = false) (gen : scope.isGenerator = false) (hc : ∀ y ∈ scope.names, y.2 ≠ .cell) (hx : scope.names.lookup x = some .local) (hd : (x == ("__debug__" : Str)) = false)
    (ht : IsTup s.heap t items) (h0 : items[0]? = some v0) (h1 : items[1]? = some v1) (h2 : items[2]? = some v2) :
    wpAny (model prog w) A (call (.ref f) [.ref t]) (fun v s' => ∃ h' tk b, s' = { s with heap := h', toks := tk } ∧ (∀ b o, s.heap.get? b = some o → h'.get? b = some o) ∧ v = .ref b ∧ h'.get? b = some { cls := .type "tuple", data := .seq #[v0, v1, v2] }) (fun _ _ => False) s := by
  refine wpAny_call (codeAny_mono (R := fun r s' => ∃ v, r = .ok (.ret v) ∧ ∃ h' tk b, s' = { s with heap := h', toks := tk } ∧ (∀ b o, s.heap.get? b = some o → h'.get? b = some o) ∧ v = .ref b ∧ h'.get? b = some { cls := .type "tuple", data := .seq #[v0, v1, v2] }) ?_ fun r s' h => ?_)
  · refine PySem.W.kla_callFunE room of rfl co gen rfl rc ?_
    rw [hbind]
    refine wpAny_pure (wpAny_newFunctionEnv hc (fun y hy => ?_) (fun h₁ hns hsb => ⟨nl.fresh _ hsb, ?_⟩) hk)
    · rw [List.mem_singleton.mp hy]; exact hx
    · have kp : ∀ b o, s.heap.get? b = some o → h₁.get? b = some o := fun b o e => hsb.extBut b o (Nat.ne_of_lt (Heap.lt_size e)) (Heap.get?_push_of_some _ e)
      have ht1 : IsTup h₁ t items := let ⟨o, e, r⟩ := ht; ⟨o, kp _ _ e, r⟩
      refine PySem.W.kla_codeExpr (raw_key3 (items := items) hk ?_ hns ?_ ht1 h0 h1 h2 hd ?_)
      · first | exact hx | (show scope.names.lookup x = some .local; exact hx) | simpa [Env.kindOf] using hx
      · first | (simp; done) | (show List.lookup x [(x, Value.ref t)] = _; simp [List.lookup])
      · exact ⟨_, rfl, _, _, _, rfl, fun b o e => Heap.get?_push_of_some _ (kp b o e), rfl, Heap.get?_push_size _ rfl⟩
  · obtain ⟨v, rfl, h⟩ := h
    exact h
end
end GT
/-! ## sorted(d, key=f): the keys of a dict -/
namespace GT
open PySem PySem.Spec PySem.Calls PyProof.Rows L2 PySem.W
section
variable {prog : Program} {w : World} {A : Around} {E : Value → Shared → Prop} {s : Shared} {β : Type} {bs : List β} {R : Value → β → Prop}
theorem each_of_items {P : Nat → Value → Prop} {acc : Array Value} (it : ItemsOf P acc bs.length) (h : ∀ (i : Nat) (v : Value) (b : β), P i v → bs[i]? = some b → R v b) : EachIs R acc.toList bs := by
  obtain ⟨hn, hp⟩ := it
  refine EachIs.of_zip (by rw [Array.length_toList]; exact hn) fun p hm => ?_
  obtain ⟨i, hi⟩ := List.getElem?_of_mem hm
  rw [List.getElem?_zip_eq_some] at hi
  refine h i p.1 p.2 (hp i p.1 ?_) hi.2
  rw [← Array.getElem?_toList]; exact hi.1
theorem raw_sorted_dict {d q : Addr} {es : Array DictEntry} {ep : Nat} {Q : Value → Shared → Prop} (k : β → PyData) (lo : (d == sysModules) = false) (hm : s.heap.DictRaw d es ep) (hh : A.handled = none) (hn : es.size ≤ sizeLine) (hes : es.size = bs.length)
    (hit : ∀ (i : Nat) (b : β) (hi : i < es.size), bs[i]? = some b → R es[i].key b) (hal : AllAlike (bs.map k)) (hk : Sortable (bs.map k)) (hu : ∀ x, x ∈ bs → A.units + 2 + (k x).depth < cLine)
    (turn : ∀ (v : Value) (x : β), R v x → x ∈ bs → ∀ (h : Heap) (tk : Nat), (∀ b o, s.heap.get? b = some o → h.get? b = some o) →
      wpAny (model prog w) A.in1.in1 (call (.ref q) [v]) (KeyPure (k x) { s with heap := h, toks := tk }) (fun _ _ => False) { s with heap := h, toks := tk })
    (h : ∀ (out : List Value) (c : Nat) (h1 h' : Heap) (tk : Nat) (a : Addr), (∀ b o, s.heap.get? b = some o → h1.get? b = some o) → (∀ b o, h1.get? b = some o → h'.get? b = some o) → h1.objs.size ≤ a → h'.get? a = some (seqObj "list" (List.toArray out) c) → out.length = bs.length → EachIs R out (bs.mergeSort (dataLe false k)) →
      Q (.ref a) { s with heap := h', toks := tk }) :
    wpAny (model prog w) A (call (.builtin "sorted") [.ref d] [(Str.ofString "key", .ref q)]) Q E s := by
  refine call_function_entry_kw kind_sorted plain_sorted entry_sorted (ksk_s1 _ _) ?_
  unfold Builtin.«sorted»
  refine wpAny_bind (m := checkCount "sorted" 1 1 _) (wpAny_pure ?_)
  refine wpAny_bind (kdu_collect (A := A.in1) (KdlSrc.rawDict lo) hh hm hn fun h1 tk1 acc hk1 hacc => ?_)
  have he : EachIs R acc.toList bs := each_of_items (P := fun i v => ∃ hi : i < es.size, v = es[i].key) ⟨hacc.1.trans hes, hacc.2⟩ fun i v b ⟨hi, e⟩ hb => by rw [e]; exact hit i b hi hb
  have hl : acc.toList.length = bs.length := he.length
  have hz : acc.toList.length ≤ sizeLine := by rw [hl, ← hes]; exact hn
  refine wpAny_bind (wpAny_newList ?_ hz)
  have ho : (h1.push { cls := .type "list", data := .seq acc.toList.toArray }).get? h1.objs.size = some (seqObj "list" acc.toList.toArray 0) := Heap.get?_push_size _ rfl
  refine wpAny_bind (wpAny_holding (wpAny_call_entry_kw slot_list_sort ⟨_, ho, rfl⟩ entry_list_sort ?body (ksk_l1 _ _)))
  case body =>
    rw [ksk_t1]
    refine wpAny_mono (keyH_tree (A := A.in1.in1) (E := fun _ _ => False) (P := fun f s' => ∃ out c h' tk, f = .done (.ret .none) ∧ s' = { s with heap := h', toks := tk } ∧ (∀ b o, h1.get? b = some o → h'.get? b = some o) ∧ h'.get? h1.objs.size = some (seqObj "list" (List.toArray out) c) ∧ out.length = bs.length ∧ EachIs R out (bs.mergeSort (dataLe false k)))
      (kz := bs.map k) (s := { s with heap := h1.push { cls := .type "list", data := .seq acc.toList.toArray }, toks := tk1 }) ho (by rw [List.length_map]; exact hl.symm) hz hal hk (bound_map (A := A.in1.in1) hu)
      (keyH_turns (s := { s with heap := h1.push { cls := .type "list", data := .seq acc.toList.toArray }, toks := tk1 }) he fun v x hR hx h tk kp => turn v x hR hx h tk fun b o e => kp b o (Nat.ne_of_lt (Heap.lt_size (hk1 b o e))) (Heap.get?_push_of_some _ (hk1 b o e)))
      fun h' tk out c kp hD ko => ⟨out, c, h', tk, rfl, rfl, fun b o e => kp b o (Nat.ne_of_lt (Heap.lt_size e)) (Heap.get?_push_of_some _ e), hD, (ko.length (by rw [List.length_map]; exact hl.symm)).trans hl, keyedOut_each k ko he⟩) (fun f s' hf => ?_) fun _ _ e => e.elim
    obtain ⟨out, c, h', tk, rfl, rfl, hkp, hD, ho2, hR2⟩ := hf
    exact ⟨_, rfl, wpAny_pure ⟨_, rfl, h out c h1 h' tk _ hk1 hkp (Nat.le_refl _) hD ho2 hR2⟩⟩
end
end GT

/-! ## rules with K told (for the blocks of comprehensions) -/
namespace GT
open PySem PySem.Spec PyProof.Rows L2
section
variable {X : Cx} {K : PySem.W.Frag}
theorem ix_tupK (e : X.K = K) : IxR X (rIxT K) := by subst e; exact ix_tup
theorem ix_listK (e : X.K = K) : IxR X (rIxL K) := by subst e; exact ix_list
theorem op_eqTK (e : X.K = K) (hu : X.A.units + 64 < cLine) : OpR X (compareOp .Eq) (rEqT K) := by subst e; exact op_eqT hu
theorem op_neTK (e : X.K = K) (hu : X.A.units + 64 < cLine) : OpR X (compareOp .NotEq) (rNeT K) := by subst e; exact op_neT hu
theorem op_inTK (e : X.K = K) (hu : X.A.units + 64 < cLine) : OpR X (compareOp .In) (rInT K) := by subst e; exact op_inT hu
theorem op_notInTK (e : X.K = K) (hu : X.A.units + 64 < cLine) : OpR X (compareOp .NotIn) (rNotInT K) := by subst e; exact op_notInT hu
theorem op_ltOK (e : X.K = K) (hu : X.A.units + 64 < cLine) : OpR X (compareOp .Lt) (rLtO K) := by subst e; exact op_ltO hu
theorem op_gtOK (e : X.K = K) (hu : X.A.units + 64 < cLine) : OpR X (compareOp .Gt) (rGtO K) := by subst e; exact op_gtO hu
theorem pe_fldK {e : Expr} {ta : TE} {f : Str} {pos : Pos} (eK : X.K = K) (he : PE X e ta) (hb : attributeBase e f X.env (eval e X.env) = eval e X.env) : PE X (.Attribute e f pos) (tFld K ta f) := by subst eK; exact pe_fld he hb
end
end GT

/-! ## a lambda made: what its making changes, told exactly -/
namespace GT
open PySem PySem.Spec PyProof.Rows L2 LamX
section
variable {X : Cx} {pins : List (Addr × Obj)} {σ : L2.St} {H : Hp} {s : Shared}
theorem codeO_tbl {c : Addr} {q : Str} : ∀ ps, CodeO c q ≠ .tbl ps := fun ps => codeO_ne ps
/-- the table at P: its code objects, of the name q, are among L -/
structure Tab (H : Hp) (P : Addr) (q : Str) (L : List Addr) : Prop where
  ex : ∃ ps : Array Value, H P = some (.tbl ps) ∧ TriplesOk ps.toList ∧ ∀ (pos : Pos) (cv : Value), codeAmong pos ps.toList = some cv → ∃ c ∈ L, cv = .ref c
  codes : ∀ c ∈ L, H c = some (CodeO c q)
theorem Tab.nil {H : Hp} {P : Addr} {q : Str} (h : H P = some (.tbl #[])) : Tab H P q [] := ⟨⟨#[], h, True.intro, fun pos cv hc => by
  have z : codeAmong pos [] = some cv := hc
  simp [codeAmong] at z⟩, fun c hc => nomatch hc⟩
theorem Tab.stp {H H1 : Hp} {P : Addr} {q : Str} {L M : List Addr} (t : Tab H P q L) (s : Stp M H H1) (nP : P ∉ M) (nL : ∀ c ∈ L, c ∉ M) : Tab H1 P q L :=
  ⟨let ⟨ps, h, r⟩ := t.ex; ⟨ps, s.keep _ _ h nP, r⟩, fun c hc => s.keep _ _ (t.codes c hc) (nL c hc)⟩
theorem Tab.grow {H H1 : Hp} {P : Addr} {q : Str} {L : List Addr} (t : Tab H P q L) (s : Stp [] H H1) : Tab H1 P q L := t.stp s (by simp) (fun _ _ => by simp)
theorem Tab.there {H : Hp} {P : Addr} {q : Str} {L : List Addr} (t : Tab H P q L) : ∃ ps, H P = some (.tbl ps) := let ⟨ps, h, _⟩ := t.ex; ⟨ps, h⟩
/-- the table with one code object more -/
theorem tab_more {P c : Addr} {q : Str} {ps : Array Value} {pos : Pos} {L : List Addr} (hP : H P = some (.tbl ps)) (ht : TriplesOk ps.toList) (ha : ∀ p' cv, codeAmong p' ps.toList = some cv → ∃ c ∈ L, cv = .ref c) (hL : ∀ c ∈ L, H c = some (CodeO c q)) (nC : H c = none) :
    Tab (upd (upd H P (.tbl (ps ++ #[rawInt pos.line, rawInt pos.col, .ref c]))) c (CodeO c q)) P q (c :: L) ∧ Stp [P] H (upd (upd H P (.tbl (ps ++ #[rawInt pos.line, rawInt pos.col, .ref c]))) c (CodeO c q)) := by
  have nPc : P ≠ c := ne_of_none hP nC
  have at_ : ∀ b, b ≠ P → b ≠ c → upd (upd H P (.tbl (ps ++ #[rawInt pos.line, rawInt pos.col, .ref c]))) c (CodeO c q) b = H b := fun b h1 h2 => by rw [upd_ne h2, upd_ne h1]
  refine ⟨⟨⟨_, by rw [upd_ne nPc, upd_same], ?_, fun p' cv hcv => ?_⟩, fun c0 h0 => ?_⟩, ⟨fun b o e n => ?_, fun b xs e => ?_, fun b qs e => ?_⟩⟩
  · rw [Array.toList_append]; exact PySem.TriplesOk_snoc _ _ _ _ ht
  · rw [Array.toList_append] at hcv
    rcases among_app _ ht hcv with z | z
    · obtain ⟨c0, e1, e2⟩ := ha p' cv z
      exact ⟨c0, List.mem_cons_of_mem _ e1, e2⟩
    · exact ⟨c, List.mem_cons_self, z⟩
  · rcases List.mem_cons.mp h0 with z | z
    · rw [z]; exact upd_same
    · have e2 := hL c0 z
      have h1 : c0 ≠ P := fun z => by rw [z, hP] at e2; exact codeO_tbl _ (Option.some.inj e2).symm
      rw [at_ c0 h1 (ne_of_none e2 nC)]; exact e2
  · rw [at_ b (fun z => n (by rw [z]; simp)) (ne_of_none e nC)]; exact e
  · have h1 : b ≠ P := fun z => by rw [z, hP] at e; cases e
    rw [at_ b h1 (ne_of_none e nC)]; exact e
  · by_cases h1 : b = P
    · exact ⟨ps, by rw [h1]; exact hP⟩
    · by_cases h2 : b = c
      · rw [h2, upd_same] at e; exact absurd (Option.some.inj e) (codeO_tbl _)
      · rw [at_ b h1 h2] at e; exact ⟨qs, e⟩
/-- the function object at f stands as it was made -/
def LamO (f : Addr) (ob : Obj) : HO := .ext fun h => h.get? f = some ob
theorem lamO_ok {P : Program} {w : World} {H : Hp} {h : Heap} {f : Addr} {ob : Obj} (e : h.get? f = some ob) : ObjOk P w H h f (LamO f ob) := ⟨e, ⟨ob, e⟩, fun _ _ y k => k _ y⟩
theorem lamO_tbl {f : Addr} {ob : Obj} : ∀ ps, LamO f ob ≠ .tbl ps := fun _ z => nomatch z
/-- the evaluation of a lambda that captures nothing -/
def tLam (P : Addr) (q : Str) (params : Arguments) (body : Expr) (scope : Scope) (clo : List (Str × Addr)) : TE := fun _ H Q => ∃ L, Tab H P q L ∧ ∀ (f c' : Addr) (pm ctv : Value) (H1 : Hp) (L1 : List Addr), Tab H1 P q L1 → (∀ c ∈ L1, c ∈ L ∨ H c = none) → Stp [P] H H1 → H1 c' = some (CodeO c' q) → H f = none →
  H1 f = some (LamO f (PySem.W.kla_obj "<lambda>" q params body scope clo pm c' ctv)) → Q (.ref f) H1
theorem pe_lam {c P : Addr} {params : Arguments} {body : Expr} {scope : Scope} {pos : Pos} (TB : TabB X.base X.mg c P) (hcode : X.env.code = .ref c) (hdef : defaultsOf params X.env = ([], [])) (hfree : ∀ y ∈ scope.names, y.2 ≠ .free) :
    PE X (.Lambda params body scope pos) (tLam P (X.env.qual ++ "<lambda>") params body scope (cloFrom X.env.cells scope.names [])) := by
  refine ⟨fun pins s σ H Q I hh => ?_⟩
  obtain ⟨L, hT, h⟩ := hh
  have hT0 := hT
  obtain ⟨⟨ps, hP, ht, ha⟩, hL⟩ := hT
  have hP' : s.heap.get? P = some { cls := .none, data := .fields ps } := I.hok P _ hP
  have clo := closure_ok (env := X.env) (scope := scope) fun y hy e => absurd e (hfree y hy)
  have bP : s.heap.BuiltinsAt X.mg P := TB.bm.keeps I.bk
  refine PySem.W.kla_eval hdef ?_
  cases hc : codeAmong pos ps.toList with
  | some cv =>
    obtain ⟨c', hcL, rfl⟩ := ha pos cv hc
    have hco := hL c' hcL
    refine PySem.W.kla_makeFunctionHit (mg := X.mg) (c := c) (P := P) (ps := ps) clo I.ok.glob (I.mod.glob.keeps I.bk) hcode (TB.code.keeps I.bk) hP' ht hc bP fun ctv h' tk hx hsz => ?_
    have nf : H h'.objs.size = none := I.hok.fresh hsz
    have st : Stp [] H (upd H h'.objs.size (LamO h'.objs.size (PySem.W.kla_obj "<lambda>" (X.env.qual ++ "<lambda>") params body scope (cloFrom X.env.cells scope.names []) ((X.mg "__name__").getD .none) c' ctv))) := .new nf lamO_tbl
    exact ⟨.ref _, _, I.laid (t' := tk) (fun b o e => Heap.get?_push_of_some _ (hx b o e)) hsz (lamO_ok (Heap.get?_push_size _ rfl)), rfl, h _ c' _ ctv _ L (hT0.grow st) (fun c hc => .inl hc) (st.mono (by simp)) (st.keep _ _ hco (by simp)) nf upd_same⟩
  | none =>
    refine PySem.W.kla_makeFunction (mg := X.mg) (c := c) (P := P) (ps := ps) clo I.ok.glob (I.mod.glob.keeps I.bk) hcode (TB.code.keeps I.bk) hP' ht hc TB.gP bP fun c' ctv h' tk hx hge hlt hrec htb => ?_
    obtain ⟨c2, oc, vs, t, e2, hoc, hd, hv⟩ := hrec
    cases e2
    have nC : H c' = none := I.hok.fresh hge
    obtain ⟨t1, st1⟩ := tab_more (pos := pos) hP ht ha hL nC
    have I1 := inv_table (t' := tk) (more := #[rawInt pos.line, rawInt pos.col, .ref c']) (q := X.env.qual ++ "<lambda>") (h' := h') I hP hx htb hge ⟨oc, vs, t, hoc, hd, hv⟩
    have nf : H h'.objs.size = none := I.hok.fresh (Nat.le_trans hge (Nat.le_of_lt hlt))
    have nf1 := I1.hok.fresh (Nat.le_refl _)
    have st2 : Stp [] _ (upd _ h'.objs.size (LamO h'.objs.size (PySem.W.kla_obj "<lambda>" (X.env.qual ++ "<lambda>") params body scope (cloFrom X.env.cells scope.names []) ((X.mg "__name__").getD .none) c' ctv))) := Stp.new nf1 lamO_tbl
    have co1 := t1.codes c' List.mem_cons_self
    exact ⟨.ref _, _, I1.laid (t' := tk) (a := h'.objs.size) (o := LamO h'.objs.size (PySem.W.kla_obj "<lambda>" (X.env.qual ++ "<lambda>") params body scope (cloFrom X.env.cells scope.names []) ((X.mg "__name__").getD .none) c' ctv)) (fun b o e => Heap.get?_push_of_some _ e) (Nat.le_refl _) (lamO_ok (Heap.get?_push_size _ rfl)), rfl,
      h _ c' _ ctv _ (c' :: L) (t1.grow st2) (fun c hc => (List.mem_cons.mp hc).elim (fun z => .inr (by rw [z]; exact nC)) .inl) (st1.trans (st2.mono (by simp))) (st2.keep _ _ co1 (by simp)) nf upd_same⟩
end
end GT

/-! ## dict comprehensions whose keys are tuples -/
namespace GT
open PySem PySem.Spec PyProof.Rows L2
section
variable {X : Cx} {pins : List (Addr × Obj)} {σ : L2.St} {H : Hp} {s : Shared}
/-- one entry stored by a comprehension -/
theorem nd_store {E : Value → Shared → Prop} {Q : Unit → Shared → Prop} {D a : Addr} {k : NestedKey} {kvs : List NKV} {v : V} {u ku : Value} (hu : X.A.units + 9 < cLine) (I : Inv X pins σ H s) (g : ND X.prog X.w X.K H D kvs) (hk : KyAt X.K H (.ref a) k) (hl : kvs.length < sizeLine)
    (rk : RelV (.ref a) ku) (rv : RelV v u) (h : ∀ s' H', Inv X pins σ H' s' → ND X.prog X.w X.K H' D (putK kvs k v) → Stp [D] H H' → Q () s') : wpAny (model X.prog X.w) X.A (dictSet D ku u) Q E s := by
  obtain ⟨xs, e, ks, rfl⟩ := g
  obtain rfl : ku = Value.ref a := rk
  obtain ⟨z, hd, ys, rel, dd⟩ := nd_raw I (.inl e) ks
  rw [plainX_len] at hl
  have l1 : ys.length ≤ sizeLine := by rw [← Paired.length rel]; exact z
  have l2 : (putX xs k a v).length ≤ sizeLine := by have := putX_len xs k a v; omega
  have st : Stp [D] H (upd H D (ndO X.prog X.w D (putX xs k a v))) := .wr (by simp) e fun _ z => nomatch z
  refine wpAny_dictSet_heap (hsz := l1) (show X.A.units + 8 < cLine by omega) (hk.is I) dd fun h' dd' hs => h _ (upd H D (ndO X.prog X.w D (putX xs k a v))) ?_ ⟨_, upd_same, (ks.put hk).stp st, plainX_put xs k a v⟩ st
  obtain ⟨q, es, ep, hq, h2, h3, h4, _, h5⟩ := dd'
  exact d_write I (by rw [e]; exact True.intro) hs ⟨q, hq⟩ (ndO_ok ⟨l2, hd, _, rel.put k rv, q, es, ep, hq, h2, h3, h4, h5⟩)
/-- {k: v for target in iter if ..}: D the new dict -/
def tDn (P : Program) (w : World) (K : PySem.W.Frag) (wi : TI) (g : TG) (tt : TT) (tk tv : TE) (vs : List Nat) : TE := fun σ H Q => wi σ H fun J H1 => ∀ D H2, H1 D = none → ND P w K H2 D [] → Stp [] H1 H2 → ∃ W : Nat → Nat → Hp → Prop, (∃ m, W 0 m H2) ∧ ∀ i m H, W i m H →
  (J.stop i H ∧ Q (.ref D) H) ∨ (J.go i H ∧ ∃ Nx : Hp → Prop, (∀ H', Nx H' → ∃ m', m' < m ∧ W (i + 1) m' H') ∧ ∀ x H', J.yld i H x H' → g x (wipe σ vs) H' fun σ2 H2 => wipe σ2 vs = wipe σ vs ∧ tt σ2 H2 fun b H3 =>
    if b = true then tk σ2 H3 fun y H4 => tv σ2 H4 fun z H5 => ∃ a kvs k, y = .ref a ∧ ND P w K H5 D kvs ∧ KyAt K H5 (.ref a) k ∧ kvs.length < sizeLine ∧ ∀ H6, ND P w K H6 D (putK kvs k z) → Stp [D] H5 H6 → Nx H6 else Nx H3)
/-- what the block is made of, whatever frame it runs in -/
structure DcB (X : Cx) (scope : Scope) (tg : Expr) (ifs : List Expr) (kx vx : Expr) (g : TG) (tt : TT) (tk tv : TE) : Prop where
  tgt : ∀ (s : Shared) (H : Hp) (C : Addr) (cl : List (Str × Addr)) (fp : List Addr), PG (X.blk s H scope (compEnvC scope cl C X.env) fp) tg g
  tst : ∀ (s : Shared) (H : Hp) (C : Addr) (cl : List (Str × Addr)) (fp : List Addr), PTs (X.blk s H scope (compEnvC scope cl C X.env) fp) ifs tt
  key : ∀ (s : Shared) (H : Hp) (C : Addr) (cl : List (Str × Addr)) (fp : List Addr), PE (X.blk s H scope (compEnvC scope cl C X.env) fp) kx tk
  val : ∀ (s : Shared) (H : Hp) (C : Addr) (cl : List (Str × Addr)) (fp : List Addr), PE (X.blk s H scope (compEnvC scope cl C X.env) fp) vx tv
theorem dn_core {kx vx tg iter : Expr} {ifs : List Expr} {scope : Scope} {own : List (Str × Nat)} {pos pos' : Pos} {wi : TI} {g : TG} {tt : TT} {tk tv : TE} {Q : VK} {use : Option (Value → Sem Unit)} {Qf : Value → Shared → Prop} (hu : X.A.units + 9 < cLine) (hc : X.calm = true) (hN : X.N.Nodup) (I : Inv X pins σ H s) (hi : PI X tg iter wi)
    (ok : BlkOk X.N X.env.scope scope own) (B : DcB X scope tg ifs kx vx g tt tk tv) (fold : ∀ x, foldedSetIterable iter X.env x = pure x) (hq : tDn X.prog X.w X.K wi g tt tk tv (own.map (·.2)) σ H Q)
    (back : ∀ (D C : Addr) (s' : Shared) (m : Str → Option Value) (H' : Hp), Inv X pins σ H' s' → Q (.ref D) H' → s'.heap.Ns C m → FpOk X pins H' C → compPost (model X.prog X.w) X.A X.xe use Qf (.ref D) C (.ok .next) s') :
    wpAny (model X.prog X.w) X.A (comprehension (.DictComp kx vx [⟨tg, iter, ifs, 0⟩] scope pos) scope X.env pos' newDict false (eval iter X.env) use) Qf X.xe s := by
  have captured : ∀ y ∈ scope.names, y.2 = .free → ∃ c, X.env.cells.lookup y.1 = some c := fun y hy e =>
    (ok.free y hy e).elim (fun z => I.ok.has _ (.inl z)) fun z => I.ok.has _ (.inr z)
  refine wpAny_comprehension_free (use := use) rfl fold (closure_ok captured) ok.kind (fun y hy e => by rw [ok.uniq y hy, e]) (thn (hi.run pins s σ H _ I hq) fun _ s1 w1 => thn w1 fun _ s2 w2 => ?_)
  obtain ⟨it, fp, tn, J, H2, rfl, I2, T, t2, f2, body⟩ := w2
  refine wpAny_newObj_type (newEnv_comp ?_)
  -- the new dict at D
  generalize hD : s2.heap.objs.size = D
  have freeD : H2 D = none := I2.hok.fresh (Nat.le_of_eq hD)
  have got : (s2.heap.push { cls := .type "dict", data := .dict #[] }).get? D = some { cls := .type "dict", data := .dict #[] } := by
    rw [← hD]
    exact Heap.get?_push_size _ rfl
  generalize hs3 : ({ s2 with heap := s2.heap.push { cls := .type "dict", data := .dict #[] } } : Shared) = s3
  have hp3 : s3.heap = s2.heap.push { cls := .type "dict", data := .dict #[] } := by rw [← hs3]
  obtain ⟨H3, hH3⟩ : ∃ H3 : Hp, upd H2 D (ndO X.prog X.w D []) = H3 := ⟨_, rfl⟩
  have at3 : H3 D = some (ndO X.prog X.w D []) := by rw [← hH3]; exact upd_same
  have stp3 : Stp [] H2 H3 := by rw [← hH3]; exact .new freeD
  have I3 : Inv X pins σ H3 s3 := by
    rw [← hs3, ← hH3]
    refine I2.laid (a := D) (o := ndO X.prog X.w D []) (t' := s2.toks) (fun b o e => Heap.get?_push_of_some _ e) (Nat.le_of_eq hD) (ndO_ok ⟨Nat.zero_le _, beq_eq_false_iff_ne.mpr (Ne.symm (Nat.ne_of_lt (by rw [← hD]; exact I2.big))), [], .nil, _, #[], 0, got, ⟨rfl, rfl, rfl⟩, rfl, rfl, List.nodup_nil⟩)
  obtain ⟨W, ⟨m0, w0⟩, turn⟩ := body D H3 freeD ⟨[], at3, fun _ z => (nomatch z), rfl⟩ stp3
  have below : ∀ b ∈ fp, b < s2.heap.objs.size := fun b hb => by
    obtain ⟨o, e, _⟩ := T.obj _ _ t2 b hb
    exact Heap.lt_size e
  have f3 : ∀ b ∈ fp, FpOk X pins H3 b ∧ b < s3.heap.objs.size := fun b hb => by
    have lt := below b hb
    refine ⟨⟨?_, (f2 b hb).2⟩, by rw [hp3, Heap.size_push]; exact Nat.lt_succ_of_lt lt⟩
    rw [← hH3, upd_ne (by rw [← hD]; exact Nat.ne_of_lt lt)]
    exact (f2 b hb).1
  have t3 : tn 0 s3.heap := T.keep _ _ _ t2 fun b _ o e => by rw [hp3]; exact Heap.get?_push_of_some _ e
  have J4 := block_start I3 ok hN f3
  have kt := B.tgt s3 H3 s3.heap.objs.size (cellsFrom (s3.heap.objs.size + 1) scope.names (cloFrom X.env.cells scope.names [])) fp
  have kf := B.tst s3 H3 s3.heap.objs.size (cellsFrom (s3.heap.objs.size + 1) scope.names (cloFrom X.env.cells scope.names [])) fp
  have kk := B.key s3 H3 s3.heap.objs.size (cellsFrom (s3.heap.objs.size + 1) scope.names (cloFrom X.env.cells scope.names [])) fp
  have kv := B.val s3 H3 s3.heap.objs.size (cellsFrom (s3.heap.objs.size + 1) scope.names (cloFrom X.env.cells scope.names [])) fp
  have away : ∀ b ∈ fp, H3 b = none := fun b hb => (f3 b hb).1.1
  show codeAny _ _ (.compStart (.DictComp kx vx [⟨tg, iter, ifs, 0⟩] scope pos) 0 (.ref it) (.ref D) (compEnvC scope (cellsFrom (s3.heap.objs.size + 1) scope.names (cloFrom X.env.cells scope.names [])) s3.heap.objs.size X.env)) (compPost (model X.prog X.w) X.A X.xe use Qf (.ref D) s3.heap.objs.size) { s3 with heap := pushCells (s3.heap.push { cls := .type "dict", data := .dict #[] }) scope.names }
  generalize hce : compEnvC scope (cellsFrom (s3.heap.objs.size + 1) scope.names (cloFrom X.env.cells scope.names [])) s3.heap.objs.size X.env = ce at J4 kt kf kk kv ⊢
  have locals_ : ce.locals = s3.heap.objs.size := by rw [← hce]; rfl
  generalize hs4 : ({ s3 with heap := pushCells (s3.heap.push { cls := .type "dict", data := .dict #[] }) scope.names } : Shared) = s4 at J4 ⊢
  have t4 : tn 0 s4.heap := T.keep _ _ _ t3 fun b _ o e => by rw [← hs4]; exact pushCells_keeps _ _ _ _ (Heap.get?_push_of_some _ e)
  -- the iterator's objects are nobody's
  have calmF : ∀ {σ' : L2.St} {H' : Hp} {s' : Shared}, Inv (X.blk s3 H3 scope ce fp) [] σ' H' s' → (∀ b ∈ fp, H' b = none) → ∀ b ∈ fp, FpOk (X.blk s3 H3 scope ce fp) [] H' b := fun {σ' H' s'} I' hn b hb =>
    ⟨hn b hb, (I'.ok.exf b hb).1, I'.ok.exfs b hb, .inl hb, fun x c e => (I'.ok.exf b hb).2 x c e, fun p hp => absurd (show p ∈ ([] : List (Addr × Obj)) ++ [] from hp) (by simp)⟩
  suffices loop : codeAny (model X.prog X.w) X.A (.compLoop (.DictComp kx vx [⟨tg, iter, ifs, 0⟩] scope pos) 0 (.ref it) (.ref D) ce) (compPost (model X.prog X.w) X.A X.xe use Qf (.ref D) s3.heap.objs.size) s4 from
    codeAny_compStart_dict loop (T.self X.A 0 _ _ _ t4 loop)
  refine compLoop_anyD (fun n s' => ∃ i H', Inv (X.blk s3 H3 scope ce fp) [] (wipe σ (own.map (·.2))) H' s' ∧ tn i s'.heap ∧ (∀ b ∈ fp, H' b = none) ∧ W i n H') ?_ m0 ⟨0, H3, J4, t4, away, w0⟩
  rintro n s5 ⟨i, H5, J5, t5, n5, w5⟩
  rcases turn i n H5 w5 with ⟨stop, told⟩ | ⟨go, Nx, less, step⟩
  · refine thnF (T.done (X.blk s3 H3 scope ce fp) rfl rfl rfl hc i [] s5 _ H5 (fun _ _ => False) J5 (calmF J5 n5) t5 stop) fun r s6 ⟨hr6, J6⟩ => ?_
    subst hr6
    have I7 : Inv X pins σ H5 s6 := I3.call' (ch := fp) J6.os J6.base J6.hok J6.bare fun b hb => let f := (f3 b hb).1; ⟨f.2.2.2.1, f.2.1, f.2.2.2.2.1, f.2.2.2.2.2⟩
    have noC : H5 s3.heap.objs.size = none := by
      have z : H5 ce.locals = none := J6.free
      rwa [locals_] at z
    obtain ⟨m, hn, _⟩ := J6.loc
    have hn : s6.heap.Ns ce.locals m := hn
    rw [locals_] at hn
    exact back D _ s6 m H5 I7 told hn (I3.fpOk (Nat.le_refl _) noC)
  · refine thnF (T.item (X.blk s3 H3 scope ce fp) rfl rfl rfl hc i [] s5 _ H5 (fun _ _ => False) J5 (calmF J5 n5) t5 go) fun r s6 ⟨u, hr6, h6⟩ => ?_
    subst hr6
    refine thnF h6 fun _ s7 ⟨x, H7, J7, r7, y7, t7, n7⟩ => ?_
    have P7 := J7.pinned (calmF J7 n7) (T.obj _ _ t7)
    refine thnF (kt.run _ s7 _ H7 x u _ P7 r7 (step x H7 y7)) fun _ s8 ⟨σ8, H8, J8, hw, q8⟩ => thnF (kf.run _ s8 σ8 H8 _ J8 q8) fun b s9 ⟨H9, J9, q9⟩ => ?_
    -- behind a turn
    have next : ∀ {s' : Shared} {H' : Hp}, Inv (X.blk s3 H3 scope ce fp) ([] ++ pinsAt fp s7.heap) σ8 H' s' → Nx H' → ∃ m, m < n ∧ ∃ i H', Inv (X.blk s3 H3 scope ce fp) [] (wipe σ (own.map (·.2))) H' s' ∧ tn i s'.heap ∧ (∀ b ∈ fp, H' b = none) ∧ W i m H' := fun {s' H'} J' nx => by
      obtain ⟨m', lt, w'⟩ := less H' nx
      have stay : ∀ b ∈ fp, ∀ o, s7.heap.get? b = some o → s'.heap.get? b = some o ∧ H' b = none := fun b hb o e =>
        let z := J'.pin (b, o) (List.mem_append_right _ (List.mem_append_right _ (mem_pinsAt hb e)))
        ⟨z.1, z.2.1⟩
      refine ⟨m', lt, i + 1, H', (J'.unpinned (pins := [])).weak (by rw [← hw, wipe_length]) (fun j v e => ?_), T.keep _ _ _ t7 fun b hb o e => (stay b hb o e).1, fun b hb => ?_, w'⟩
      · rw [← hw] at e
        exact (wipe_some e).1
      · obtain ⟨o, e, _⟩ := T.obj _ _ t7 b hb
        exact (stay b hb o e).2
    cases b with
    | false => exact next J9 q9
    | true =>
      refine thnF (kk.run _ s9 σ8 H9 _ J9 q9) fun ku s10 ⟨y, H10, J10, r10, q10⟩ => thnF (kv.run _ s10 σ8 H10 _ J10 q10) fun vu s11 ⟨z, H11, J11, r11, a, kvs, k, ey, g11, k11, l11, nx⟩ => ?_
      subst ey
      exact nd_store (X := X.blk s3 H3 scope ce fp) hu J11 g11 k11 l11 r10 r11 fun s12 H12 J12 g12 st12 => next J12 (nx H12 g12 st12)
section
variable {kx vx tg iter : Expr} {ifs : List Expr} {scope : Scope} {own : List (Str × Nat)} {pos spos : Pos} {wi : TI} {g : TG} {tt : TT} {tk tv : TE} {P : Program} {w : World} {K : PySem.W.Frag} {kr : Nat}
theorem pe_dn (eP : X.prog = P) (ew : X.w = w) (eK : X.K = K) (hr : Room kr X.A) (hc : X.calm = true) (hN : X.N.Nodup) (hi : PI X tg iter wi)
    (ok : BlkOk X.N X.env.scope scope own) (hg : ∀ (s : Shared) (H : Hp) (C : Addr) (cl : List (Str × Addr)) (fp : List Addr), PG (X.blk s H scope (compEnvC scope cl C X.env) fp) tg g) (ht : ∀ (s : Shared) (H : Hp) (C : Addr) (cl : List (Str × Addr)) (fp : List Addr), PTs (X.blk s H scope (compEnvC scope cl C X.env) fp) ifs tt)
    (hk : ∀ (s : Shared) (H : Hp) (C : Addr) (cl : List (Str × Addr)) (fp : List Addr), PE (X.blk s H scope (compEnvC scope cl C X.env) fp) kx tk)
    (hv : ∀ (s : Shared) (H : Hp) (C : Addr) (cl : List (Str × Addr)) (fp : List Addr), PE (X.blk s H scope (compEnvC scope cl C X.env) fp) vx tv) (fold : ∀ x, foldedSetIterable iter X.env x = pure x := by intro _; rfl) :
    PE X (.DictComp kx vx [⟨tg, iter, ifs, 0⟩] scope pos) (tDn P w K wi g tt tk tv (own.map (·.2))) := by
  subst eP ew eK
  refine ⟨fun pins s σ H Q I hq => ?_⟩
  rw [arm_eval_DictComp]
  exact dn_core (hu9 hr) hc hN I hi ok ⟨hg, ht, hk, hv⟩ fold hq fun D C s' m H' I' q hn f => ⟨m, hn, fun h'' sb => ⟨.ref D, H', I'.turned (t' := s'.toks) (fun b o hb e => (sb.2 b hb).trans e) f.1 f.2.1 f.2.2.2.1 f.2.2.2.2.1 f.2.2.2.2.2, rfl, q⟩⟩
/-- kept under a name -/
theorem ps_setDn {i : Nat} {y : Str} {py : Pos} (eP : X.prog = P) (ew : X.w = w) (eK : X.K = K) (hr : Room kr X.A) (hc : X.calm = true) (hN : X.N.Nodup) (hy : X.N[i]? = some y) (hyl : X.env.scope.names.lookup y = some .local)
    (hsw : swapsWith (.DictComp kx vx [⟨tg, iter, ifs, 0⟩] scope pos) (some (.Name y py)) spos.line X.env = pure true) (hi : PI X tg iter wi)
    (ok : BlkOk X.N X.env.scope scope own) (hg : ∀ (s : Shared) (H : Hp) (C : Addr) (cl : List (Str × Addr)) (fp : List Addr), PG (X.blk s H scope (compEnvC scope cl C X.env) fp) tg g) (ht : ∀ (s : Shared) (H : Hp) (C : Addr) (cl : List (Str × Addr)) (fp : List Addr), PTs (X.blk s H scope (compEnvC scope cl C X.env) fp) ifs tt)
    (hk : ∀ (s : Shared) (H : Hp) (C : Addr) (cl : List (Str × Addr)) (fp : List Addr), PE (X.blk s H scope (compEnvC scope cl C X.env) fp) kx tk)
    (hv : ∀ (s : Shared) (H : Hp) (C : Addr) (cl : List (Str × Addr)) (fp : List Addr), PE (X.blk s H scope (compEnvC scope cl C X.env) fp) vx tv) (fold : ∀ x, foldedSetIterable iter X.env x = pure x := by intro _; rfl) :
    PS X (.Assign [.Name y py] (.DictComp kx vx [⟨tg, iter, ifs, 0⟩] scope pos) spos) (tAsg (tDn P w K wi g tt tk tv (own.map (·.2))) (gName i)) := by
  subst eP ew eK
  refine ⟨fun pins s σ H D I hq => ?_⟩
  rw [exec_Assign_Name_used _ _ _ _ hsw]
  have hq : tDn X.prog X.w X.K wi g tt tk tv (own.map (·.2)) σ H (fun x H1 => gName i x σ H1 D.nx) := hq
  refine wpAny_bind (wpAny_standAt (wpAny_bind (wpAny_bind (thn (dn_core (use := some (assign (.Name y py) X.env)) (Qf := fun _ s' => SP X pins D .next s') (hu9 hr) hc hN I hi ok ⟨hg, ht, hk, hv⟩ fold hq fun N C s' m H' I' q hn f => ?_) fun _ s' z => wpAny_pure (wpAny_pure z)))))
  refine wpAny_assign_Name (store_ok2 (v := V.ref N) I' hN hy (.inl hyl) rfl (fun s2 I2 ⟨a, sb, ha⟩ => ?_) (.inr hyl))
  have away : C ≠ a := ha.elim (fun z => by rw [z]; exact f.2.1) fun z e => f.2.2.2.2.1 y a z e.symm
  exact ⟨m, hn.sameBut sb away, fun h3 sb3 => ⟨_, H', I2.turned (t' := s2.toks) (fun b o hb e => (sb3.2 b hb).trans e) f.1 f.2.1 f.2.2.2.1 f.2.2.2.2.1 f.2.2.2.2.2, q⟩⟩
theorem sw_dict {gs : List Comprehension} {py : Pos} {y : Str} {l : Nat} {env : Env} (hk : env.scope.kind = .function) (hy : env.scope.names.lookup y = some .local) (hl : (py.line == pos.line) = true)
    (ha : (scope.names.any fun (n, k) => n == y && (k == .local || k == .cell)) = false) : swapsWith (.DictComp kx vx gs scope pos) (some (.Name y py)) l env = pure true := by
  have ky : env.kindOf y = some .local := hy
  have hb : env.blockKind = .function := by unfold Env.blockKind; rw [hk]; rfl
  simp only [swapsWith, hb, ky, ha, Expr.pos, hl]
  rfl
end
end
section
variable {P : Program} {w : World} {K : PySem.W.Frag} {σ : L2.St} {H : Hp} {Q : VK} {wi : TI} {g : TG} {tt : TT} {tk tv : TE} {vs : List Nat}
theorem i_Dn (q : wi σ H fun J H1 => ∀ D H2, H1 D = none → ND P w K H2 D [] → Stp [] H1 H2 → ∃ W : Nat → Nat → Hp → Prop, (∃ m, W 0 m H2) ∧ ∀ i m H, W i m H →
  (J.stop i H ∧ Q (.ref D) H) ∨ (J.go i H ∧ ∃ Nx : Hp → Prop, (∀ H', Nx H' → ∃ m', m' < m ∧ W (i + 1) m' H') ∧ ∀ x H', J.yld i H x H' → g x (wipe σ vs) H' fun σ2 H2 => wipe σ2 vs = wipe σ vs ∧ tt σ2 H2 fun b H3 =>
    if b = true then tk σ2 H3 fun y H4 => tv σ2 H4 fun z H5 => ∃ a kvs k, y = .ref a ∧ ND P w K H5 D kvs ∧ KyAt K H5 (.ref a) k ∧ kvs.length < sizeLine ∧ ∀ H6, ND P w K H6 D (putK kvs k z) → Stp [D] H5 H6 → Nx H6 else Nx H3)) : tDn P w K wi g tt tk tv vs σ H Q := q
/-- over a list that stays -/
theorem dn_list {a : Addr} {xs : List V} {H2 : Hp} {D : Addr} {Qd : Hp → Prop} (Pv : Nat → Hp → Prop) (h0 : Pv 0 H2) (hl : ∀ i H, i ≤ xs.length → Pv i H → SqL K H a xs)
    (hs : ∀ i x H, xs[i]? = some x → Pv i H → g x (wipe σ vs) H fun σ2 H2 => wipe σ2 vs = wipe σ vs ∧ tt σ2 H2 fun b H3 =>
      if b = true then tk σ2 H3 fun y H4 => tv σ2 H4 fun z H5 => ∃ a kvs k, y = .ref a ∧ ND P w K H5 D kvs ∧ KyAt K H5 (.ref a) k ∧ kvs.length < sizeLine ∧ ∀ H6, ND P w K H6 D (putK kvs k z) → Stp [D] H5 H6 → Pv (i + 1) H6 else Pv (i + 1) H3) (hd : ∀ H, Pv xs.length H → Qd H) :
    ∃ W : Nat → Nat → Hp → Prop, (∃ m, W 0 m H2) ∧ ∀ i m H, W i m H →
      ((Itl K a).stop i H ∧ Qd H) ∨ ((Itl K a).go i H ∧ ∃ Nx : Hp → Prop, (∀ H', Nx H' → ∃ m', m' < m ∧ W (i + 1) m' H') ∧ ∀ x H', (Itl K a).yld i H x H' → g x (wipe σ vs) H' fun σ2 H2 => wipe σ2 vs = wipe σ vs ∧ tt σ2 H2 fun b H3 =>
        if b = true then tk σ2 H3 fun y H4 => tv σ2 H4 fun z H5 => ∃ a kvs k, y = .ref a ∧ ND P w K H5 D kvs ∧ KyAt K H5 (.ref a) k ∧ kvs.length < sizeLine ∧ ∀ H6, ND P w K H6 D (putK kvs k z) → Stp [D] H5 H6 → Nx H6 else Nx H3) := by
  refine ⟨fun i m H => m + i = xs.length ∧ Pv i H, ⟨xs.length, rfl, h0⟩, fun i m H ⟨em, p⟩ => ?_⟩
  have sq := hl i H (by omega) p
  match m, em with
  | 0, em =>
    have e : i = xs.length := by omega
    subst e
    exact .inl ⟨⟨xs, sq, Nat.le_refl _⟩, hd H p⟩
  | m + 1, em =>
    have lt : i < xs.length := by omega
    refine .inr ⟨⟨xs, xs[i], sq, List.getElem?_eq_getElem lt⟩, Pv (i + 1), fun H' p' => ⟨m, Nat.lt_succ_self m, by omega, p'⟩, fun x H' ⟨e, y⟩ => ?_⟩
    subst e
    exact hs i x _ (y xs sq) p
end
end GT

/-! ## sorted(d, key=lambda x: (x[0], x[1], x[2])) -/
namespace GT
open PySem PySem.Spec PyProof.Rows L2 LamX PySem.W
def key3 : Dt → PyData
  | .tup (a :: b :: c :: _) => .tuple [a.py, b.py, c.py]
  | _ => .none
def Has3 (d : Dt) : Prop := ∃ a b c r, d = .tup (a :: b :: c :: r)
theorem key3_depth {d : Dt} (h : Has3 d) (n : d.depth ≤ 8) : (key3 d).depth ≤ 9 := by
  obtain ⟨a, b, c, r, rfl⟩ := h
  have n1 := Dt.py_depth a
  have n2 := Dt.py_depth b
  have n3 := Dt.py_depth c
  simp only [Dt.depth, Dt.depthAll] at n
  simp only [key3, PyData.depth, PyData.depthAll]
  omega
theorem nd_key_at {K : PySem.W.Frag} {H : Hp} {xs : List (NestedKey × Addr × V)} {ds : List Dt} (ks : KeysAt K H xs) (e : xs.map (·.1) = ds.map Dt.key) (f : Dt.flatAll ds = true) {i : Nat} {x : NestedKey × Addr × V} {d : Dt} (hx : xs[i]? = some x) (hd : ds[i]? = some d) : DtAt K H (.ref x.2.1) d := by
  obtain ⟨d', f', k', _, h'⟩ := ks x (List.mem_of_getElem? hx)
  have h1 : (xs.map (·.1))[i]? = some x.1 := by rw [List.getElem?_map, hx]; rfl
  rw [e, List.getElem?_map, hd] at h1
  have h2 : d.key = x.1 := Option.some.inj h1
  rw [← Dt.key_inj d' d f' (Dt.flat_mem f (List.mem_of_getElem? hd)) (k'.trans h2.symm)]
  exact h'
abbrev bod3 (x : Str) (p0 p1 p2 q0 q1 q2 r0 r1 r2 pos : Pos) (d0 d1 d2 kd : Nat) : Expr := .Tuple [.Subscript (.Name x p0) (.Constant (.int (0 : Int)) d0 q0) r0, .Subscript (.Name x p1) (.Constant (.int (1 : Int)) d1 q1) r1, .Subscript (.Name x p2) (.Constant (.int (2 : Int)) d2 q2) r2] kd pos
section
variable {prog : Program} {w : World} {A : Around} {s : Shared} {x q : Str} {params : Arguments} {scope : Scope} {p0 p1 p2 q0 q1 q2 r0 r1 r2 pos : Pos} {d0 d1 d2 kd : Nat} {f c' : Addr} {pm ctv : Value}
/-- one call of the lambda: it tells the key of a datum -/
theorem key3_turn {v : Value} {b : Dt} (hf : s.heap.get? f = some (kla_obj "<lambda>" q params (bod3 x p0 p1 p2 q0 q1 q2 r0 r1 r2 pos d0 d1 d2 kd) scope [] pm c' ctv)) (rc : s.heap.CodeRec (.ref c') q) (nl : s.heap.NoLimit) (room : A.depth < recursionLimit)
    (hbind : ∀ (pm cv ctv v : Value), bindArgs (kla_fn "<lambda>" q params (bod3 x p0 p1 p2 q0 q1 q2 r0 r1 r2 pos d0 d1 d2 kd) scope [] pm cv ctv) ⟨[v], []⟩ = pure [(x, v)])
    (hk : scope.kind = .function) (co : scope.isCoroutine = false) (gen : scope.isGenerator = false) (hcl : ∀ y ∈ scope.names, y.2 ≠ .cell) (hx : scope.names.lookup x = some .local) (hd : (x == ("__debug__" : Str)) = false)
    (h3 : Has3 b) (hbf : b.flat = true) (hdi : DtIs s.heap b v) : wpAny (model prog w) A (call (.ref f) [v]) (KeyPure (key3 b) s) (fun _ _ => False) s := by
  obtain ⟨a1, b1, c1, r1, rfl⟩ := h3
  cases hdi with
  | @tup t its _ ht hall =>
    simp only [Dt.flat, Dt.flatAll, Bool.and_eq_true] at hbf
    obtain ⟨l⟩ := its
    cases hall with
    | @cons _ v0 _ _ g0 hall =>
      cases hall with
      | @cons _ v1 _ _ g1 hall =>
        cases hall with
        | @cons _ v2 _ lr g2 hall =>
          obtain ⟨ot, e1, e2, n2, e4⟩ := ht
          have htup : IsTup s.heap t (Array.mk (v0 :: v1 :: v2 :: lr)) := ⟨ot, e1, e2, n2, e4⟩
          refine wpAny_mono (lam_key3 (x := x) (items := Array.mk (v0 :: v1 :: v2 :: lr)) (v0 := v0) (v1 := v1) (v2 := v2) hf rc nl room (hbind _ _ _ _) hk co gen hcl hx hd htup rfl rfl rfl) (fun u s2 hu => ?_) fun _ _ z => z.elim
          obtain ⟨h2, tk2, b2, rfl, kp2, rfl, hb2⟩ := hu
          exact ⟨h2, tk2, rfl, kp2, .tuple (as := []) hb2 rfl rfl (.cons (as := []) (bs := []) (PyProof.Rows.Reads.keeps kp2 (DtIs.reads a1 v0 hbf.1 g0)) (.cons (as := []) (bs := []) (PyProof.Rows.Reads.keeps kp2 (DtIs.reads b1 v1 hbf.2.1 g1)) (.cons (as := []) (bs := []) (PyProof.Rows.Reads.keeps kp2 (DtIs.reads c1 v2 hbf.2.2.1 g2)) .nil)))⟩
end
section
variable {X : Cx} {x q : Str} {params : Arguments} {scope : Scope} {p0 p1 p2 q0 q1 q2 r0 r1 r2 pos : Pos} {d0 d1 d2 kd : Nat}
def rSortL (P : Program) (w : World) (K : PySem.W.Frag) (q : Str) (params : Arguments) (body : Expr) (scope : Scope) : List V → List V → Hp → VK → Prop := fun vs zs H Q => ∃ (d f c' : Addr) (pm ctv : Value) (kvs : List NKV) (ds : List Dt), vs = [.ref d] ∧ zs = [.ref f] ∧ H f = some (LamO f (kla_obj "<lambda>" q params body scope [] pm c' ctv)) ∧ H c' = some (CodeO c' q) ∧
  ND P w K H d kvs ∧ kvs.map (·.1) = ds.map Dt.key ∧ Dt.flatAll ds = true ∧ Dt.depthAll ds ≤ 8 ∧ (∀ x ∈ ds, Has3 x) ∧ AllAlike (ds.map key3) ∧ Sortable (ds.map key3) ∧
  ∀ (p : Addr) (ys : List V), H p = none → DtsAt K H ys (ds.mergeSort (dataLe false key3)) → Q (.ref p) (upd H p (.lst ys))
theorem cr_sortL {k : Nat} (hc : X.calm = true) (hr : Room (k + 2) X.A)
    (hbind : ∀ (pm cv ctv v : Value), bindArgs (kla_fn "<lambda>" q params (bod3 x p0 p1 p2 q0 q1 q2 r0 r1 r2 pos d0 d1 d2 kd) scope [] pm cv ctv) ⟨[v], []⟩ = pure [(x, v)])
    (hk : scope.kind = .function) (co : scope.isCoroutine = false) (gen : scope.isGenerator = false) (hcl : ∀ y ∈ scope.names, y.2 ≠ .cell) (hx : scope.names.lookup x = some .local) (hd : (x == ("__debug__" : Str)) = false) :
    CallRK X (.builtin "sorted") [Str.ofString "key"] (rSortL X.prog X.w X.K q params (bod3 x p0 p1 p2 q0 q1 q2 r0 r1 r2 pos d0 d1 d2 kd) scope) := by
  intro pins s σ H vs zs us ws Q I r rz h
  obtain ⟨d, f, c', pm, ctv, kvs, ds, rfl, rfl, hf, hco, ⟨xs, e, ks, rfl⟩, hkeys, hfl, hdp, h3, hal, hsk, qq⟩ := h
  obtain rfl := Vals.ref1 r
  obtain rfl := Vals.ref1 rz
  have hun := hr.units
  have hkeys' : xs.map (·.1) = ds.map Dt.key := by rw [← hkeys]; unfold plainX; rw [List.map_map]; rfl
  obtain ⟨hz, lo, ys, rel, o, es, ep, ho, hex, hdat, hen, his, hnd⟩ := nd_raw I (.inl e) ks
  have l1 : es.size = ys.length := size_of_entries hen
  have l2 : xs.length = ys.length := Paired.length rel
  have l3 : xs.length = ds.length := by have := congrArg List.length hkeys'; simpa using this
  have hfob : s.heap.get? f = some (kla_obj "<lambda>" q params (bod3 x p0 p1 p2 q0 q1 q2 r0 r1 r2 pos d0 d1 d2 kd) scope [] pm c' ctv) := (I.hok f _ hf).1
  obtain ⟨oc, vc, tc, hoc, hdc, hvc⟩ : ∃ (oc : Obj) (vs : Array Value) (t : Tok), s.heap.get? c' = some oc ∧ oc.data = .fields vs ∧ vs[1]? = some (.str q t) := (I.hok c' _ hco).1
  have g1 : ∀ (i : Nat) (b : Dt) (hi : i < es.size), ds[i]? = some b → ∃ y, RelV y es[i].key ∧ DtAt X.K H y b := fun i b hi hb => by
    have hi2 : i < xs.length := by omega
    obtain ⟨y, hy, e1, e2, e3⟩ := paired_get rel (List.getElem?_eq_getElem hi2)
    have q1 := entry_at hen i
    rw [hy, Array.getElem?_eq_getElem hi] at q1
    have q2 : es[i] = entryOfKey (nestedKind X.prog X.w) y := Option.some.inj q1
    refine ⟨.ref xs[i].2.1, ?_, nd_key_at ks hkeys' hfl (List.getElem?_eq_getElem hi2) hb⟩
    rw [q2]
    show Value.ref y.2.1 = Value.ref xs[i].2.1
    rw [e2]
  have g2 : ∀ b, b ∈ ds → X.A.units + 2 + (key3 b).depth < cLine := fun b hb => by
    have h1 := key3_depth (h3 b hb) (Nat.le_trans (Dt.depth_mem hb) hdp)
    omega
  have g3 : ∀ (v : Value) (b : Dt), (∃ y, RelV y v ∧ DtAt X.K H y b) → b ∈ ds → ∀ (h : Heap) (tk : Nat), (∀ b o, s.heap.get? b = some o → h.get? b = some o) →
      wpAny (model X.prog X.w) X.A.in1.in1 (call (.ref f) [v]) (KeyPure (key3 b) { s with heap := h, toks := tk }) (fun _ _ => False) { s with heap := h, toks := tk } := fun v b ⟨y, ry, hy⟩ hb h tk kp => by
    have hdi := DtAt.is (s := { s with heap := h, toks := tk }) (I.kept kp) b y v hy ry
    exact key3_turn (s := { s with heap := h, toks := tk }) (kp _ _ hfob) ⟨c', oc, vc, tc, rfl, kp _ _ hoc, hdc, hvc⟩ (I.nolimit.keeps kp) hr.in1.in1.depth hbind hk co gen hcl hx hd (h3 b hb) (Dt.flat_mem hfl hb) hdi
  refine raw_sorted_dict (R := fun (u : Value) (b : Dt) => ∃ y, RelV y u ∧ DtAt X.K H y b) key3 lo ⟨o, ho, hex, hdat⟩ (I.ok.hd hc) (by omega) (by omega) g1 hal hsk g2 g3 fun out c h1 h' tk a hk1 hk2 hle hD hlen hR => ?_
  obtain ⟨yv, vy, dy⟩ := each_dts hR
  have hl9 : yv.length ≤ sizeLine := by
    have h7 := vy.length
    omega
  have I1 : Inv X pins σ H { s with heap := h1, toks := tk } := I.kept hk1
  exact ⟨.ref a, upd H a (.lst yv), I1.laid (t' := tk) hk2 hle ⟨hl9, out, c, vy, hD⟩, rfl, qq a yv (I1.hok.fresh hle) dy⟩
end
end GT

/-! ## the call sorted(d, key=lambda x: (x[0], x[1], x[2])) -/
namespace GT
open PySem PySem.Spec PyProof.Rows L2 LamX PySem.W
/-- a def whose code object is told -/
theorem FunD.okC {P : Program} {w : World} {K : PySem.W.Frag} {mg : Str → Option Value} {base : Heap} {x qual : Str} {params : Arguments} {body : List Stmt} {scope : Scope} {dvs : List V} {kws : List (Str × V)} {f : Addr} {fd : FuncData} {CX : CXT} {N ps : List Str} {k : Nat} {sp : Sp} {c : Addr}
    (F : FunD K x qual params body scope dvs kws f fd) (ec : fd.code = .ref c) (S : FnScope N ps scope) (len : ∀ vs H Q E, sp vs H Q E → vs.length = ps.length)
    (hbody : ∀ (A : Around) (outer : List Env) (s : Shared) (H : Hp) (vs : List V) (Q : VK) (E : XK), Room k (A.deeper (envOfC qual scope s.heap.objs.size f (.ref c))) → sp vs H Q E →
      ∃ t, PSs (cxOf CX P w K mg base N qual scope f (.ref c) A outer s H E) body t ∧ t { nx := fun _ H' => Q .non H', rt := Q } (start N vs) H) : FnOk P w K mg base CX (k + 1) f fd ps sp := by
  obtain ⟨_, _, _, _, _, _, _, cdv, _, _, rfl, lk, hcd, _, _⟩ := F.ex
  obtain rfl : cdv = .ref c := ec
  exact fn_of lk hcd S len fun A outer s H vs Q E hr hsp => hbody A outer s H vs Q E hr hsp
/-- .. found by the head -/
theorem code_told {K : PySem.W.Frag} {d : He.DefD} {fd : FuncData} {dvs : List V} {kws : List (Str × V)} (F : FunD K d.name d.qual d.params d.body d.scope dvs kws (He.fAd K d.at_) fd) : fd.code = .ref (He.codeOf K d.at_) := by
  obtain ⟨_, _, _, _, _, _, _, cdv, _, _, rfl, lk, hcd, _, _⟩ := F.ex
  obtain ⟨c, rfl⟩ := He.codeIn_ref hcd
  rw [He.codeOf_eq lk rfl] <;> rfl
theorem flat_all : ∀ {ds : List Dt}, (∀ z ∈ ds, z.flat = true) → Dt.flatAll ds = true
  | [], _ => rfl
  | d :: ds, h => by rw [Dt.flatAll, h d List.mem_cons_self, flat_all fun z hz => h z (List.mem_cons_of_mem _ hz)]; rfl
def tSortL (P : Program) (w : World) (K : PySem.W.Frag) (T : Addr) (q : Str) (td : TE) : TE := fun σ H Q => td σ H fun x H1 => ∃ L, Tab H1 T q L ∧ ∃ (d : Addr) (kvs : List NKV) (ds : List Dt), x = .ref d ∧ ND P w K H1 d kvs ∧ kvs.map (·.1) = ds.map Dt.key ∧ Dt.flatAll ds = true ∧ Dt.depthAll ds ≤ 8 ∧ (∀ x ∈ ds, Has3 x) ∧ AllAlike (ds.map key3) ∧ Sortable (ds.map key3) ∧
  ∀ (p : Addr) (ys : List V) (H2 : Hp) (L2 : List Addr), Tab H2 T q L2 → (∀ c ∈ L2, c ∈ L ∨ H1 c = none) → Stp [T] H1 H2 → H1 p = none → H2 p = some (.lst ys) → DtsAt K H2 ys (ds.mergeSort (dataLe false key3)) → Q (.ref p) H2
theorem pe_sortL {X : Cx} {P : Program} {w : World} {K : PySem.W.Frag} {c T : Addr} {k : Nat} {x y : Str} {params : Arguments} {scope : Scope} {p0 p1 p2 q0 q1 q2 r0 r1 r2 bpos py pf kpos lpos pos : Pos} {d0 d1 d2 kd i : Nat} (eP : X.prog = P) (ew : X.w = w) (eK : X.K = K) (hr : Room (k + 2) X.A) (hc : X.calm = true) (TB : TabB X.base X.mg c T) (hcode : X.env.code = .ref c)
    (hg : Gl X "sorted") (hm : X.mg "sorted" = none) (he : PE X (.Name y py) (tVar i))
    (hdef : defaultsOf params X.env = ([], []) := by rfl) (hfree : ∀ y ∈ scope.names, y.2 ≠ .free := by decide +kernel) (hclo : cloFrom X.env.cells scope.names [] = [] := by rfl)
    (hbind : ∀ (q : Str) (pm cv ctv v : Value), bindArgs (kla_fn "<lambda>" q params (bod3 x p0 p1 p2 q0 q1 q2 r0 r1 r2 bpos d0 d1 d2 kd) scope [] pm cv ctv) ⟨[v], []⟩ = pure [(x, v)] := by intro _ _ _ _ _; rfl)
    (hk : scope.kind = .function := by rfl) (co : scope.isCoroutine = false := by rfl) (gen : scope.isGenerator = false := by rfl) (hcl : ∀ y ∈ scope.names, y.2 ≠ .cell := by decide +kernel) (hx : scope.names.lookup x = some .local := by decide +kernel) (hd : (x == ("__debug__" : Str)) = false := by decide +kernel) :
    PE X (.Call (.Name "sorted" pf) [.Name y py] [⟨some "key", .Lambda params (bod3 x p0 p1 p2 q0 q1 q2 r0 r1 r2 bpos d0 d1 d2 kd) scope lpos, kpos⟩] pos) (tSortL P w K T (X.env.qual ++ "<lambda>") (tVar i)) := by
  subst eP ew eK
  have all := pe_callBK (p := pf) (pos := pos) (kws := [⟨some "key", .Lambda params (bod3 x p0 p1 p2 q0 q1 q2 r0 r1 r2 bpos d0 d1 d2 kd) scope lpos, kpos⟩]) (cr_sortL (X := X) (q := X.env.qual ++ "<lambda>") (params := params) hc hr (hbind _) hk co gen hcl hx hd) hg hm (by decide +kernel) (pa_cons he pa_nil) (pk_cons (pe_lam TB hcode hdef hfree) pk_nil)
  rw [hclo] at all
  refine ⟨fun pins s σ H Q I h => all.run pins s σ H Q I ?_⟩
  obtain ⟨v, hv, L, hT, d, kvs, ds, rfl, nd, h1, h2, h3, h4, h5, h6, h7⟩ := h
  refine ⟨.ref d, hv, L, hT, fun f c' pm ctv H1 L1 t1 fresh st co1 nf hf => ?_⟩
  obtain ⟨ps, hP⟩ := hT.there
  have dT : d ∉ [T] := by
    obtain ⟨xs, e, _⟩ := nd
    simp only [List.mem_singleton]
    rintro rfl
    rw [hP] at e
    cases e
  refine ⟨d, f, c', pm, ctv, kvs, ds, rfl, rfl, hf, co1, nd.stp st dT, h1, h2, h3, h4, h5, h6, fun p ys np dy => ?_⟩
  have s2 : Stp [] H1 (upd H1 p (.lst ys)) := .new np
  have fl : Dt.flatAll (ds.mergeSort (dataLe false key3)) = true := flat_all fun z hz => Dt.flat_mem h2 ((List.mergeSort_perm _ _).mem_iff.mp hz)
  refine h7 p ys _ L1 (t1.grow s2) fresh (st.trans (s2.mono (by simp))) (st.free np fun z => ?_) upd_same (dy.stp s2 _ _ fl)
  obtain ⟨qs, e⟩ := t1.there
  rw [List.mem_singleton.mp z, e] at np
  cases np
end GT

/-! ## sorted(d): the keys of a dict in order -/
namespace GT
open PySem PySem.Spec PySem.Calls PyProof.Rows L2 PySem.W
section
variable {prog : Program} {w : World} {A : Around} {E : Value → Shared → Prop} {s : Shared} {β : Type} {bs : List β} {R : Value → β → Prop}
theorem raw_sorted_keys {d : Addr} {es : Array DictEntry} {ep : Nat} {Q : Value → Shared → Prop} (enc : β → PyData) (lo : (d == sysModules) = false) (hm : s.heap.DictRaw d es ep) (hh : A.handled = none) (hn : es.size ≤ sizeLine) (hes : es.size = bs.length)
    (hit : ∀ (i : Nat) (b : β) (hi : i < es.size), bs[i]? = some b → R es[i].key b) (er : ∀ (v : Value) (b : β), R v b → b ∈ bs → Reads s.heap v (enc b) []) (hal : AllAlike (bs.map enc)) (hk : Sortable (bs.map enc)) (hu : ∀ x, x ∈ bs → A.units + 2 + (enc x).depth < cLine)
    (h : ∀ (out : List Value) (c : Nat) (h1 h' : Heap) (tk : Nat) (a : Addr), (∀ b o, s.heap.get? b = some o → h1.get? b = some o) → (∀ b o, h1.get? b = some o → h'.get? b = some o) → h1.objs.size ≤ a → h'.get? a = some (seqObj "list" (List.toArray out) c) → out.length = bs.length → EachIs R out (bs.mergeSort (dataLe false enc)) →
      Q (.ref a) { s with heap := h', toks := tk }) :
    wpAny (model prog w) A (call (.builtin "sorted") [.ref d]) Q E s := by
  refine call_function_entry kind_sorted plain_sorted entry_sorted (args_sorted1 _) ?_
  unfold Builtin.«sorted»
  refine wpAny_bind (m := checkCount "sorted" 1 1 _) (wpAny_pure ?_)
  refine wpAny_bind (kdu_collect (A := A.in1) (KdlSrc.rawDict lo) hh hm hn fun h1 tk1 acc hk1 hacc => ?_)
  have he : EachIs R acc.toList bs := each_of_items (P := fun i v => ∃ hi : i < es.size, v = es[i].key) ⟨hacc.1.trans hes, hacc.2⟩ fun i v b ⟨hi, e⟩ hb => by rw [e]; exact hit i b hi hb
  have hl : acc.toList.length = bs.length := he.length
  have hz : acc.toList.length ≤ sizeLine := by rw [hl, ← hes]; exact hn
  refine wpAny_bind (wpAny_newList ?_ hz)
  have ho : (h1.push { cls := .type "list", data := .seq acc.toList.toArray }).get? h1.objs.size = some (seqObj "list" acc.toList.toArray 0) := Heap.get?_push_size _ rfl
  generalize hH2 : h1.push { cls := .type "list", data := .seq acc.toList.toArray } = h2 at ho
  have k2 : ∀ b o, h1.get? b = some o → b ≠ h1.objs.size ∧ b < h2.objs.size ∧ h2.get? b = some o := fun b o q => by
    have l := Heap.lt_size q
    have g : h2.get? b = some o := by rw [← hH2]; exact Heap.get?_push_of_some _ q
    exact ⟨Nat.ne_of_lt l, Heap.lt_size g, g⟩
  have rd : EachIs (fun v b => ∃ as, Reads (sortingHeap h2 h1.objs.size acc.toList) v (enc b) as) acc.toList bs := (each_mem he).mono fun v b ⟨hR, hb⟩ => ⟨[], PyProof.Rows.Reads.keeps (fun b o e => let z := k2 b o (hk1 b o e); sortingHeap_old z.1 z.2.2) (er v b hR hb)⟩
  refine wpAny_bind (wpAny_holding (wpAny_call_entry slot_list_sort ⟨_, ho, rfl⟩ entry_list_sort ?body (args_list_sort _)))
  case body =>
    refine list_sort_vals (κ := dataKind (sortingHeap h2 h1.objs.size acc.toList) (bs.map enc)) (s := { s with heap := h2, toks := tk1 }) ho (SortsAt.data (s := { s with heap := sortingHeap h2 h1.objs.size acc.toList, toks := tk1 }) (each_map (R := fun v d => ∃ as, Reads (sortingHeap h2 h1.objs.size acc.toList) v d as) enc rd) hal hk (bound_map (A := A.in1.in1) hu)) hz ⟨_, rfl, ?_⟩
    obtain ⟨c, hc⟩ := sortedHeap_at (vs := acc.toList) (out := (sortVals (dataKind (sortingHeap h2 h1.objs.size acc.toList) (bs.map enc)) false acc.toList acc.toList).toArray) ho
    exact wpAny_pure ⟨_, rfl, h _ c h1 _ tk1 _ hk1 (fun b o e => (sortedHeap_old (k2 b o e).1 (k2 b o e).2.1).trans (k2 b o e).2.2) (Nat.le_refl _) hc (by rw [sortVals_length false rfl]; exact hl) (sortVals_data false he rd hal)⟩
end
end GT
namespace GT
open PySem PySem.Spec PyProof.Rows L2 PySem.W
section
variable {X : Cx} {P : Program} {w : World} {K : PySem.W.Frag}
/-- sorted(d): d a dict with nested keys, their data ds in the dict's order -/
def rSortK (P : Program) (w : World) (K : PySem.W.Frag) : List V → Hp → VK → Prop := fun vs H Q => ∃ (d : Addr) (kvs : List NKV) (ds : List Dt), vs = [.ref d] ∧ NDR P w K H d kvs ∧ kvs.map (·.1) = ds.map Dt.key ∧ Dt.flatAll ds = true ∧ Dt.depthAll ds ≤ 8 ∧ AllAlike (ds.map Dt.py) ∧ Sortable (ds.map Dt.py) ∧
  ∀ (p : Addr) (ys : List V), H p = none → DtsAt K H ys (ds.mergeSort leD) → Q (.ref p) (upd H p (.lst ys))
theorem cr_sortK (eP : X.prog = P) (ew : X.w = w) (eK : X.K = K) (hc : X.calm = true) (hu : X.A.units + 64 < cLine) : CallR X (.builtin "sorted") (rSortK P w K) := by
  subst eP ew eK
  intro pins s σ H vs us Q I r h
  obtain ⟨d, kvs, ds, rfl, ⟨xs, e, ks, rfl⟩, hkeys, hfl, hdp, hal, hsk, qq⟩ := h
  obtain rfl := Vals.ref1 r
  have hkeys' : xs.map (·.1) = ds.map Dt.key := by rw [← hkeys]; unfold plainX; rw [List.map_map]; rfl
  obtain ⟨hz, lo, ys, rel, o, es, ep, ho, hex, hdat, hen, his, hnd⟩ := nd_raw I e ks
  have l1 : es.size = ys.length := size_of_entries hen
  have l2 : xs.length = ys.length := Paired.length rel
  have l3 : xs.length = ds.length := by have := congrArg List.length hkeys'; simpa using this
  have g1 : ∀ (i : Nat) (b : Dt) (hi : i < es.size), ds[i]? = some b → ∃ y, RelV y es[i].key ∧ DtAt X.K H y b := fun i b hi hb => by
    have hi2 : i < xs.length := by omega
    obtain ⟨y, hy, e1, e2, e3⟩ := paired_get rel (List.getElem?_eq_getElem hi2)
    have q1 := entry_at hen i
    rw [hy, Array.getElem?_eq_getElem hi] at q1
    have q2 : es[i] = entryOfKey (nestedKind X.prog X.w) y := Option.some.inj q1
    refine ⟨.ref xs[i].2.1, ?_, nd_key_at ks hkeys' hfl (List.getElem?_eq_getElem hi2) hb⟩
    rw [q2]
    show Value.ref y.2.1 = Value.ref xs[i].2.1
    rw [e2]
  refine raw_sorted_keys (R := fun (u : Value) (b : Dt) => ∃ y, RelV y u ∧ DtAt X.K H y b) Dt.py lo ⟨o, ho, hex, hdat⟩ (I.ok.hd hc) (by omega) (by omega) g1 (fun v b ⟨y, ry, hy⟩ hb => DtIs.reads b v (Dt.flat_mem hfl hb) (DtAt.is I b y v hy ry)) hal hsk (fun b hb => ?_) fun out c h1 h' tk a hk1 hk2 hle hD hlen hR => ?_
  · have h1 := Dt.depth_mem hb
    have h2 := Dt.py_depth b
    omega
  · obtain ⟨yv, vy, dy⟩ := each_dts hR
    have hl9 : yv.length ≤ sizeLine := by
      have h7 := vy.length
      omega
    have I1 : Inv X pins σ H { s with heap := h1, toks := tk } := I.kept hk1
    exact ⟨.ref a, upd H a (.lst yv), I1.laid (t' := tk) hk2 hle ⟨hl9, out, c, vy, hD⟩, rfl, qq a yv (I1.hok.fresh hle) dy⟩
end
end GT

/-! ## dicts with text keys and data as values; data in order -/
namespace GT
open PySem PySem.Spec PyProof.Rows L2 PySem.W
theorem hu1 {A : Around} {k : Nat} (hr : Room k A) : A.units + 1 < cLine := by have := hr.un; omega
section
variable {σ : L2.St} {H : Hp} {Q : VK} {D : Ends} {R : It → Hp → Prop} {td ty tv : TE}
theorem i_DGet (q : td σ H fun x H1 => ty σ H1 fun y H2 => ∃ a v, x = .ref a ∧ DGet H2 a y (some v) ∧ Q v H2) : tDGet td ty σ H Q := q
theorem i_DIn (q : ty σ H fun y H1 => td σ H1 fun x H2 => ∃ a o, x = .ref a ∧ DGet H2 a y o ∧ Q (.bl o.isSome) H2) : tDIn ty td σ H Q := q
theorem i_DPut (q : tv σ H fun v H1 => td σ H1 fun x H2 => ty σ H2 fun y H3 => ∃ a H4, x = .ref a ∧ DPut H3 a y v H4 ∧ D.nx σ H4) : sDPut td ty tv D σ H := q
theorem i_DNewK (q : ∀ p, H p = none → Q (.ref p) (upd H p (.dK []))) : tDNewK σ H Q := q
theorem i_Keys (q : td σ H fun x H1 => ∃ d o, x = .ref d ∧ ((∃ kvs, H1 d = some (.frz o (.dK kvs)) ∧ R (Itk d o kvs) H1) ∨ ∃ kvs, H1 d = some (.frz o (.dT kvs)) ∧ R (Itkt d o kvs) H1)) : iKeys td σ H R := q
end
/-! ### the dict: texts and what they tell -/
abbrev SD := List (Str × Dt)
abbrev keyS (x : Str) : Key := Sum.inr x
def EntS (K : PySem.W.Frag) (H : Hp) (p : Key × V) (e : Str × Dt) : Prop := p.1 = keyS e.1 ∧ DtAt K H p.2 e.2 ∧ e.2.flat = true
def SdAt (K : PySem.W.Frag) (H : Hp) (d : Addr) (es : SD) : Prop := ∃ kvs, H d = some (.dK kvs) ∧ Paired (EntS K H) kvs es
section
variable {K : PySem.W.Frag} {H H1 : Hp} {M : List Addr} {d : Addr} {es : SD} {kvs : List (Key × V)}
theorem ent_stp (h : Paired (EntS K H) kvs es) (s : Stp M H H1) : Paired (EntS K H1) kvs es := by
  induction h with
  | nil => exact .nil
  | cons x _ ih => exact .cons ⟨x.1, DtAt.stp s _ _ x.2.2 x.2.1, x.2.2⟩ ih
theorem SdAt.stp (h : SdAt K H d es) (s : Stp M H H1) (n : d ∉ M) : SdAt K H1 d es := let ⟨kvs, e, p⟩ := h; ⟨kvs, s.keep _ _ e n, ent_stp p s⟩
theorem ent_keys (h : Paired (EntS K H) kvs es) : kvs.map (·.1) = es.map fun e => keyS e.1 := by
  induction h with
  | nil => rfl
  | cons x _ ih => rw [List.map_cons, List.map_cons, ih, x.1]
theorem ent_len (h : Paired (EntS K H) kvs es) : kvs.length = es.length := by
  have := congrArg List.length (ent_keys h)
  simpa using this
theorem ent_at (h : Paired (EntS K H) kvs es) {i : Nat} {p : Key × V} (e : kvs[i]? = some p) : ∃ r, es[i]? = some r ∧ EntS K H p r := by
  induction h generalizing i with
  | nil => simp at e
  | cons x _ ih =>
    cases i with
    | zero => simp at e; subst e; exact ⟨_, rfl, x⟩
    | succ i => simpa using ih (i := i) (by simpa using e)
theorem ent_none (h : Paired (EntS K H) kvs es) {k : Str} (n : k ∉ es.map (·.1)) : valV kvs (keyS k) = none := by
  induction h with
  | nil => rfl
  | @cons p e ps qs x _ ih =>
    rw [List.map_cons, List.mem_cons, not_or] at n
    rw [valV_neg (fun z => n.1 (by rw [x.1] at z; exact (Sum.inr.inj z).symm))]
    exact ih n.2
theorem ent_val (h : Paired (EntS K H) kvs es) (nd : (es.map (·.1)).Nodup) {i : Nat} {p : Key × V} (e : kvs[i]? = some p) : valV kvs p.1 = some p.2 := by
  refine valV_of ?_ (List.mem_of_getElem? e)
  rw [ent_keys h]
  rw [show (es.map fun e => keyS e.1) = (es.map (·.1)).map keyS by rw [List.map_map]; rfl]
  clear h e
  generalize es.map (·.1) = l at nd
  induction l with
  | nil => exact .nil
  | cons a l ih =>
    rw [List.nodup_cons] at nd
    rw [List.map_cons, List.nodup_cons]
    exact ⟨fun z => nd.1 (by obtain ⟨b, hb, e⟩ := List.mem_map.mp z; cases Sum.inr.inj e; exact hb), ih nd.2⟩
/-- isinstance(d, dict) -/
theorem SdAt.isi {Q : VK} (h : SdAt K H d es) (q : Q (.bl true) H) (e : kitB "dict" "dict" = some true := by decide +kernel) : rIsi K [.ref d, .ty "dict"] H Q := by
  obtain ⟨kvs, hd, _⟩ := h
  exact ⟨.ref d, .ty "dict", _, _, true, rfl, .ty "dict", .base (.dK hd), kit_ty e, q⟩
/-- d[text] = value: a new text -/
theorem sd_put {k : Str} {v : V} {x : Dt} {P : Hp → Prop} (h : SdAt K H d es) (n : k ∉ es.map (·.1)) (l : es.length ≤ 1000) (hv : DtAt K H v x) (f : x.flat = true)
    (q : ∀ H4, SdAt K H4 d (es ++ [(k, x)]) → Stp [d] H H4 → P H4) : ∃ H4, DPut H d (.str k) v H4 ∧ P H4 := by
  obtain ⟨kvs, hd, p⟩ := h
  have pn := ent_none p n
  have pl := ent_len p
  have s : Stp [d] H (upd H d (.dK (putK kvs (keyS k) v))) := .wr (by simp) hd fun _ z => nomatch z
  have s2 := s
  rw [L2.putK_new v pn] at s2
  refine ⟨_, DPut.k (k := keyS k) hd (Nat.lt_of_le_of_lt (show kvs.length ≤ 1000 by omega) (by decide)), q _ ⟨_, upd_same, ?_⟩ s⟩
  rw [L2.putK_new v pn]
  exact Paired.snoc (ent_stp p s2) ⟨rfl, DtAt.stp s2 _ _ f hv, f⟩
end
/-! ### data in order, whatever they are -/
theorem leD_total : PySem.W.TotalLe leD := by
  have h : PySem.W.TotalLe (PySem.W.dataLe false Dt.py) := by
    unfold PySem.W.dataLe
    exact PySem.W.sortLe_total _ _ _
  exact h
theorem dt_perm_map {α : Type} {f : α → Dt} : ∀ {ds : List Dt} {as : List α}, ds.Perm (as.map f) → ∃ bs : List α, bs.Perm as ∧ ds = bs.map f
  | [], as, p => by
    have : as = [] := by
      have := p.length_eq
      cases as with
      | nil => rfl
      | cons _ _ => simp at this
    subst this; exact ⟨[], .refl _, rfl⟩
  | d :: ds, as, p => by
    have hm := p.mem_iff.mp List.mem_cons_self
    obtain ⟨a, ha, ea⟩ := List.mem_map.mp hm
    obtain ⟨l, r, rfl⟩ := List.append_of_mem ha
    have p2 : ds.Perm ((l ++ r).map f) := by
      have q := p.trans (List.perm_middle (a := a) (l₁ := l) (l₂ := r) |>.map f)
      rw [List.map_cons, ea] at q
      exact (List.perm_cons d).mp q
    obtain ⟨bs, pb, eb⟩ := dt_perm_map p2
    exact ⟨a :: bs, (pb.cons a).trans List.perm_middle.symm, by rw [List.map_cons, ea, eb]⟩
/-- sorted: some order of the same, ascending -/
theorem dt_order {α : Type} (f : α → Dt) (as : List α) : ∃ bs : List α, bs.Perm as ∧ (bs.Pairwise fun a b => leD (f a) (f b) = true) ∧ (as.map f).mergeSort leD = bs.map f := by
  have asc := PySem.W.sort_pairwise leD_total (as.map f)
  obtain ⟨bs, pb, eb⟩ := dt_perm_map (List.mergeSort_perm (as.map f) leD)
  rw [eb, List.pairwise_map] at asc
  exact ⟨bs, pb, asc, eb⟩
/-- texts -/
def leT (a b : Str) : Bool := leD (.txt a) (.txt b)
theorem leT_eq (a b : Str) : leT a b = !decide (b.cps.toList < a.cps.toList) := by
  unfold leT leD
  rw [PySem.W.dataLe_eq]
  show (!PySem.W.dataLt (Dt.txt b).py (Dt.txt a).py) = _
  rw [show (Dt.txt b).py = .str b from rfl, show (Dt.txt a).py = .str a from rfl, PySem.W.dataLt_str]
theorem leT_anti {a b : Str} (h1 : leT a b = true) (h2 : leT b a = true) : a = b := by
  rw [leT_eq, Bool.not_eq_true', decide_eq_false_iff_not] at h1 h2
  refine PySem.W.str_of_cps (List.le_antisymm ?_ ?_)
  · exact List.not_lt.mp h1
  · exact List.not_lt.mp h2
/-- the same first part: the second one counts -/
theorem leD_second (d : Dt) (a b : Str) (al : PySem.W.alike d.py d.py = true) (ev : PyData.eqv d.py d.py = true) : leD (.tup [d, .txt a]) (.tup [d, .txt b]) = leT a b := by
  rw [leT_eq]
  unfold leD
  rw [PySem.W.dataLe_eq]
  show (!PySem.W.dataLt (Dt.tup [d, .txt b]).py (Dt.tup [d, .txt a]).py) = _
  rw [show (Dt.tup [d, .txt b]).py = .tuple [d.py, .str b] from rfl, show (Dt.tup [d, .txt a]).py = .tuple [d.py, .str a] from rfl, PySem.W.dataLt_pair al (by simp [PySem.W.alike]), if_pos ev, PySem.W.dataLt_str]
  by_cases e : PyData.eqv (.str b) (.str a) = true
  · rw [if_pos e]
    have e2 : b = a := by simpa [PyData.eqv] using e
    rw [e2]
    simp
  · rw [if_neg e]
/-- a list comprehension over the keys of a dict -/
theorem lc_k {d : Addr} {o : Obj} {kvs : List (Key × V)} {g : TG} {tt : TT} {te : TE} {vs : List Nat} {σ : L2.St} {H1 : Hp} {D : Addr} {Qd : Hp → Prop} (Pv : Nat → Hp → Prop) (h0 : Pv 0 (upd H1 D (.lst []))) (hl : ∀ i H, i ≤ kvs.length → Pv i H → H d = some (.frz o (.dK kvs)))
    (hs : ∀ i p H, kvs[i]? = some p → Pv i H → g (kV p.1) (wipe σ vs) H fun σ2 H2 => wipe σ2 vs = wipe σ vs ∧ tt σ2 H2 fun b H3 =>
      if b = true then te σ2 H3 fun y H4 => ∃ acc, H4 D = some (.lst acc) ∧ acc.length < sizeLine ∧ Pv (i + 1) (upd H4 D (.lst (acc ++ [y]))) else Pv (i + 1) H3) (hd : ∀ H, Pv kvs.length H → Qd H) :
    ∃ W : Nat → Nat → Hp → Prop, (∃ m, W 0 m (upd H1 D (.lst []))) ∧ ∀ i m H, W i m H →
      ((Itk d o kvs).stop i H ∧ Qd H) ∨ ((Itk d o kvs).go i H ∧ ∃ Nx : Hp → Prop, (∀ H', Nx H' → ∃ m', m' < m ∧ W (i + 1) m' H') ∧ ∀ x H', (Itk d o kvs).yld i H x H' → g x (wipe σ vs) H' fun σ2 H2 => wipe σ2 vs = wipe σ vs ∧ tt σ2 H2 fun b H3 =>
        if b = true then te σ2 H3 fun y H4 => ∃ acc, H4 D = some (.lst acc) ∧ acc.length < sizeLine ∧ Nx (upd H4 D (.lst (acc ++ [y]))) else Nx H3) := by
  refine ⟨fun i m H => m = kvs.length - i ∧ i ≤ kvs.length ∧ Pv i H, ⟨kvs.length, by simp, Nat.zero_le _, h0⟩, ?_⟩
  rintro i m H ⟨rfl, hi, p⟩
  have q := hl i H hi p
  by_cases hlt : i < kvs.length
  · refine .inr ⟨⟨q, hlt⟩, Pv (i + 1), fun H' p' => ⟨kvs.length - (i + 1), by omega, rfl, hlt, p'⟩, fun x H' y => ?_⟩
    obtain ⟨e, k, v, hz, rfl⟩ := y
    subst e
    exact hs i (k, v) _ hz p
  · have e : i = kvs.length := by omega
    subst e
    exact .inl ⟨⟨q, Nat.le_refl _⟩, hd H p⟩
/-- len(d) -/
def rLenN (P : Program) (w : World) (K : PySem.W.Frag) : List V → Hp → VK → Prop := fun vs H Q => ∃ (d : Addr) (kvs : List NKV), vs = [.ref d] ∧ NDR P w K H d kvs ∧ Q (.int kvs.length) H
theorem call_lenN {X : Cx} : CallR X (.builtin "len") (rLenN X.prog X.w X.K) := by
  intro pins s σ H vs us Q I r h
  obtain ⟨d, kvs, rfl, ⟨xs, e, ks, rfl⟩, q⟩ := h
  obtain rfl := Vals.ref1 r
  obtain ⟨z, hd, ys, rel, dd⟩ := nd_raw I e ks
  have hl : (plainX xs).length = ys.length := by rw [plainX_len]; exact Paired.length rel
  have hn := line63
  have hz : xs.length = ys.length := Paired.length rel
  refine PySem.call_len_dictH hd dd (by omega) ?_
  exact ⟨.int (plainX xs).length, H, I.tok _, ⟨_, by rw [hl]⟩, q⟩
end GT

/-! ## get with a default, setdefault, index of data, enumerate in a dict comprehension -/
namespace GT
open PySem PySem.Spec PyProof.Rows L2
section
variable {X : Cx} {pins : List (Addr × Obj)} {σ : L2.St} {H : Hp} {s : Shared} {d a : Addr} {k : NestedKey} {kvs : List NKV} {v z : V} {u r : Value} {A : Around} {E : Value → Shared → Prop} {xs : List (NestedKey × Addr × V)}
theorem nd_get2 {Q : Value → Shared → Prop} (hu : A.units + 9 < cLine) (I : Inv X pins σ H s) (g : NDR X.prog X.w X.K H d kvs) (hk : KyAt X.K H (.ref a) k) (rd : RelV z r) (h : ∀ w' s', Inv X pins σ H s' → RelV ((valV kvs k).getD z) w' → Q w' s') :
    wpAny (model X.prog X.w) A (call (.builtin "dict.get") [.ref d, .ref a, r]) Q E s := by
  obtain ⟨xs, e, ks, rfl⟩ := g
  obtain ⟨zz, hd, ys, rel, dd⟩ := nd_raw I e ks
  refine call_meetsIn PySem.F.slot_dict_get dd.typeIs PySem.F.entry_dict_get (PySem.F.args_dict_get_3 _ _ _) (meetsH_dict_get_default (nestedKind X.prog X.w) d a hd r) ⟨nd_room hu, k, ys, hk.is I, dd, h _ _ (I.tok _) ?_⟩
  exact (rel.val k).getD rd
theorem nd_setd {Q : Value → Shared → Prop} (hu : A.units + 9 < cLine) (I : Inv X pins σ H s) (e : H d = some (ndO X.prog X.w d xs)) (ks : KeysAt X.K H xs) (hk : KyAt X.K H (.ref a) k) (hl : xs.length < sizeLine) (rd : RelV z r)
    (h1 : ∀ v w' s', valV (plainX xs) k = some v → Inv X pins σ H s' → RelV v w' → Q w' s') (h2 : ∀ s', valV (plainX xs) k = none → Inv X pins σ (upd H d (ndO X.prog X.w d (putX xs k a z))) s' → Q r s') :
    wpAny (model X.prog X.w) A (call (.builtin "dict.setdefault") [.ref d, .ref a, r]) Q E s := by
  obtain ⟨zz, hd, ys, rel, dd⟩ := nd_raw I (.inl e) ks
  have hz : ys.length ≤ sizeLine := by rw [← Paired.length rel]; exact zz
  have hl2 : (putX xs k a z).length ≤ sizeLine := by have := putX_len xs k a z; omega
  have hv := rel.val k
  refine call_setdefault_heap (hsz := hz) (nd_room hu) (hk.is I) hd dd (fun p hp => ?_) fun hn h' dd' hs => h2 _ ?_ ?_
  · rw [hp] at hv
    cases q : valV (plainX xs) k with
    | none => rw [q] at hv; exact (show False from hv).elim
    | some v => rw [q] at hv; exact h1 v _ _ q (I.tok _) hv
  · rw [hn] at hv
    cases q : valV (plainX xs) k with
    | none => rfl
    | some v => rw [q] at hv; exact (show False from hv).elim
  · obtain ⟨q, es, ep, hq, h2, h3, h4, _, h5⟩ := dd'
    exact d_write I (by rw [e]; exact True.intro) hs ⟨q, hq⟩ (ndO_ok ⟨hl2, hd, _, rel.put k rd, q, es, ep, hq, h2, h3, h4, h5⟩)
theorem nd_base (I : Inv X pins σ H s) (g : NDR X.prog X.w X.K H d kvs) : s.TypeIs (.ref d) "dict" ∧ ∀ b, Value.ref d = .ref b → ∃ ob, s.heap.get? b = some ob ∧ ob.dict = none := by
  obtain ⟨xs, e, ks, rfl⟩ := g
  obtain ⟨z, hd, ys, rel, dd⟩ := nd_raw I e ks
  refine ⟨dd.typeIs, fun b q => ?_⟩
  cases q
  obtain ⟨ob, _, _, h1, h2, _⟩ := dd
  exact ⟨ob, h1, h2.2.1⟩
end
/-- d.get(y, z) -/
def tNGet2 (P : Program) (w : World) (K : PySem.W.Frag) (td ty tx : TE) : TE := fun σ H Q => td σ H fun x H1 => ∃ d kvs, x = .ref d ∧ NDR P w K H1 d kvs ∧ ty σ H1 fun y H2 => tx σ H2 fun z H3 => ∃ a kvs k, y = .ref a ∧ NDR P w K H3 d kvs ∧ KyAt K H3 (.ref a) k ∧ Q ((valV kvs k).getD z) H3
/-- d.setdefault(y, z) -/
def tNSetd (P : Program) (w : World) (K : PySem.W.Frag) (td ty tx : TE) : TE := fun σ H Q => td σ H fun x H1 => ∃ d kvs, x = .ref d ∧ NDR P w K H1 d kvs ∧ ty σ H1 fun y H2 => tx σ H2 fun z H3 => ∃ a kvs k, y = .ref a ∧ ND P w K H3 d kvs ∧ KyAt K H3 (.ref a) k ∧ kvs.length < sizeLine ∧
  (∀ v, valV kvs k = some v → Q v H3) ∧ (valV kvs k = none → ∀ H4, ND P w K H4 d (putK kvs k z) → Stp [d] H3 H4 → Q z H4)
section
variable {X : Cx} {o e f : Expr} {td ty tx : TE} {apos cpos : Pos} {P : Program} {w : World} {K : PySem.W.Frag}
theorem pe_nget2K {k : Nat} (eP : X.prog = P) (ew : X.w = w) (eK : X.K = K) (hr : Room k X.A) (ho : PE X o td) (he : PE X e ty) (hf : PE X f tx) (m : M2 X o "get" apos e f cpos) : PE X (.Call (.Attribute o "get" apos) [e, f] [] cpos) (tNGet2 P w K td ty tx) := by
  subst eP ew eK
  refine ⟨fun pins s σ H Q I h => ?_⟩
  refine wpAny_Call_method m.base m.few m.line PySem.F.plainAttrs_dict PySem.F.slot_dict_get PySem.F.type_dict_get (thn (ho.run pins s σ H _ I h) fun u s1 ⟨x, H1, I1, rx, d, kvs, ex, g, q1⟩ => ?_)
  subst ex
  obtain rfl : u = Value.ref d := rx
  obtain ⟨t1, t2⟩ := nd_base I1 g
  refine ⟨t1, t2, ?_⟩
  rw [m.trees]
  refine Calls.callWith_builtin rfl (Calls.evalArgs_plain (Calls.spliced_cons (thn (he.run pins s1 σ H1 _ I1 q1) fun iv s2 ⟨y, H2, I2, ry, q2⟩ =>
    Calls.spliced_cons (thn (hf.run pins s2 σ H2 _ I2 q2) fun fv s3 ⟨z, H3, I3, rz, a, kv, k, ey, g3, hk, q3⟩ => Calls.spliced_nil ?_))))
  subst ey
  obtain rfl : iv = Value.ref a := ry
  exact nd_get2 (hu9 hr) I3 g3 hk rz fun w' s4 I4 rw' => ⟨_, H3, I4, rw', q3⟩
theorem pe_nsetdK {k : Nat} (eP : X.prog = P) (ew : X.w = w) (eK : X.K = K) (hr : Room k X.A) (ho : PE X o td) (he : PE X e ty) (hf : PE X f tx) (m : M2 X o "setdefault" apos e f cpos) : PE X (.Call (.Attribute o "setdefault" apos) [e, f] [] cpos) (tNSetd P w K td ty tx) := by
  subst eP ew eK
  refine ⟨fun pins s σ H Q I h => ?_⟩
  refine wpAny_Call_method m.base m.few m.line PySem.F.plainAttrs_dict PySem.F.slot_dict_setdefault PySem.F.type_dict_setdefault (thn (ho.run pins s σ H _ I h) fun u s1 ⟨x, H1, I1, rx, d, kvs, ex, g, q1⟩ => ?_)
  subst ex
  obtain rfl : u = Value.ref d := rx
  obtain ⟨t1, t2⟩ := nd_base I1 g
  refine ⟨t1, t2, ?_⟩
  rw [m.trees]
  refine Calls.callWith_builtin rfl (Calls.evalArgs_plain (Calls.spliced_cons (thn (he.run pins s1 σ H1 _ I1 q1) fun iv s2 ⟨y, H2, I2, ry, q2⟩ =>
    Calls.spliced_cons (thn (hf.run pins s2 σ H2 _ I2 q2) fun fv s3 ⟨z, H3, I3, rz, a, kv, k, ey, ⟨xs, e3, ks, exs⟩, hk, hl, q3, q4⟩ => Calls.spliced_nil ?_))))
  subst ey exs
  obtain rfl : iv = Value.ref a := ry
  rw [plainX_len] at hl
  refine nd_setd (hu9 hr) I3 e3 ks hk hl rz (fun v w' s4 hv I4 rw' => ⟨v, H3, I4, rw', q3 v hv⟩) fun s4 hn I4 => ?_
  have st : Stp [d] H3 (upd H3 d (ndO X.prog X.w d (putX xs k a z))) := .wr (by simp) e3 fun _ z => nomatch z
  exact ⟨z, _, I4, rz, q4 hn _ ⟨_, upd_same, (ks.put hk).stp st, plainX_put xs k a z⟩ st⟩
end
section
variable {σ : L2.St} {H : Hp} {Q : VK} {td ty tx : TE} {ta : TA} {R : It → Hp → Prop} {P : Program} {w : World} {K : PySem.W.Frag}
theorem i_NGet2 (q : td σ H fun x H1 => ∃ d kvs, x = .ref d ∧ NDR P w K H1 d kvs ∧ ty σ H1 fun y H2 => tx σ H2 fun z H3 => ∃ a kvs k, y = .ref a ∧ NDR P w K H3 d kvs ∧ KyAt K H3 (.ref a) k ∧ Q ((valV kvs k).getD z) H3) : tNGet2 P w K td ty tx σ H Q := q
theorem i_NSetd (q : td σ H fun x H1 => ∃ d kvs, x = .ref d ∧ NDR P w K H1 d kvs ∧ ty σ H1 fun y H2 => tx σ H2 fun z H3 => ∃ a kvs k, y = .ref a ∧ ND P w K H3 d kvs ∧ KyAt K H3 (.ref a) k ∧ kvs.length < sizeLine ∧
  (∀ v, valV kvs k = some v → Q v H3) ∧ (valV kvs k = none → ∀ H4, ND P w K H4 d (putK kvs k z) → Stp [d] H3 H4 → Q z H4)) : tNSetd P w K td ty tx σ H Q := q
theorem i_Enum (q : ta σ H fun vs H1 => ∃ a xs, vs = [.ref a] ∧ SqL K H1 a xs ∧ R (Ite K a) H1) : iEnum K ta σ H R := q
end
/-! ### list.index of data -/
section
variable {X : Cx}
def rIndexT (K : PySem.W.Frag) : V → List V → Hp → VK → Prop := fun x xs H Q => ∃ (a : Addr) (y : V) (d : Dt) (ds : List Dt) (j : Nat) (z : Dt), x = V.ref a ∧ xs = [y] ∧ DtAt K H (V.ref a) (.lst ds) ∧ DtAt K H y d ∧ d.depth ≤ 60 ∧ Dt.depthAll ds ≤ 60 ∧
  ds[j]? = some z ∧ Dt.beq z d = true ∧ (∀ (m : Nat) (z' : Dt), m < j → ds[m]? = some z' → Dt.beq z' d = false) ∧ Q (.int (j : Nat)) H
theorem DtAll.get {h : Heap} : ∀ {ds : List Dt} {vs : List Value} {m : Nat} {v : Value}, DtAll h ds vs → vs[m]? = some v → ∃ d, ds[m]? = some d ∧ DtIs h d v
  | _, _, _, _, .nil, e => by simp at e
  | _, _, 0, _, .cons r _, e => by simp at e; subst e; exact ⟨_, rfl, r⟩
  | _, _, m + 1, _, .cons _ t, e => by
    obtain ⟨d, h1, h2⟩ := DtAll.get (m := m) t (by simpa using e)
    exact ⟨d, by simpa using h1, h2⟩
theorem DtAll.len {h : Heap} : ∀ {ds : List Dt} {vs : List Value}, DtAll h ds vs → ds.length = vs.length
  | _, _, .nil => rfl
  | _, _, .cons _ t => by rw [List.length_cons, List.length_cons, DtAll.len t]
theorem mt_indexT (hu : X.A.units + 65 < cLine) : MtR X "list.index" (rIndexT X.K) := by
  intro pins s σ H x xs v us Q I rx rxs h
  obtain ⟨a, y, d, ds, j, z, rfl, rfl, hl, hy, hd1, hd2, hz, hzj, hno, q⟩ := h
  cases rx
  cases rxs with
  | cons ry rt =>
    rename_i uy ut
    cases rt
    have r1 := DtAt.is I d y uy hy ry
    cases hl with
    | lst hs ha =>
      obtain ⟨its, rv, ⟨⟨cls, dd, data, sls⟩, n, ho, hc, hdn, hdt⟩, hlen⟩ := I.list hs
      simp only at hc hdt
      subst hc hdt
      have h4 := DtsAt.is I ds _ its ha rv
      have hn := h4.len
      have hvl := rv.length
      have hsl := sizeLine_eq
      obtain ⟨hjd, _⟩ := List.getElem?_eq_some_iff.mp hz
      have hjl : j < its.length := by omega
      have hj : j < its.toArray.size := by simpa using hjl
      have at_ : ∀ (m : Nat) (hm : m < its.toArray.size) (z' : Dt), ds[m]? = some z' → datOf s.heap its.toArray[m] = z' := by
        intro m hm z' hz'
        have hml : m < its.length := by simpa using hm
        obtain ⟨d', h5, h6⟩ := h4.get (List.getElem?_eq_getElem hml)
        rw [hz'] at h5
        obtain rfl := Option.some.inj h5
        exact datOf_eq (by simpa using h6)
      refine call_meets PySem.F.slot_list_index ⟨_, ho, rfl⟩ PySem.F.entry_list_index (PySem.F.args_list_index_2 _ _)
        (SeqAt.list_indexAt a its.toArray n dd sls uy (fun u => Dt.beq (datOf s.heap u) d) j hj (by omega) ?_ ?_) ⟨ho, ?_, ?_⟩
      · show Dt.beq (datOf s.heap its.toArray[j]) d = true
        rw [at_ j hj z hz]
        exact hzj
      · intro m hm hmj
        have hmd : m < ds.length := by omega
        have hz' : ds[m]? = some ds[m] := List.getElem?_eq_getElem hmd
        show Dt.beq (datOf s.heap its.toArray[m]) d = false
        rw [at_ m hm _ hz']
        exact hno m _ hmj hz'
      · intro w hw
        obtain ⟨c, hc, rc⟩ := DtAll.mem h4 (by simpa using hw)
        show SeqAt.EqAt _ _ _ _ (Dt.beq (datOf s.heap w) d)
        rw [datOf_eq rc]
        have hc2 := Dt.depth_mem hc
        exact eqAt_dt c d _ s _ _ rc r1 (by first | (rw [Around.in1_units, Around.in1_units]; omega) | (rw [Around.in1_units]; omega) | omega)
      · exact ⟨.int (j : Nat), H, I.tok _, ⟨_, rfl⟩, q⟩
end
/-! ### a dict comprehension over enumerate(list) -/
theorem dn_enum {K : PySem.W.Frag} {P : Program} {w : World} {g : TG} {tt : TT} {tk tv : TE} {vs : List Nat} {σ : L2.St} {a : Addr} {xs : List V} {H2 : Hp} {D : Addr} {Qd : Hp → Prop} (Pv : Nat → Hp → Prop) (h0 : Pv 0 H2) (hl : ∀ i H, i ≤ xs.length → Pv i H → SqL K H a xs)
    (hs : ∀ i x H T, xs[i]? = some x → Pv i H → H T = none → g (.ref T) (wipe σ vs) (upd H T (.tup [.int (i : Nat), x])) fun σ2 H2 => wipe σ2 vs = wipe σ vs ∧ tt σ2 H2 fun b H3 =>
      if b = true then tk σ2 H3 fun y H4 => tv σ2 H4 fun z H5 => ∃ a kvs k, y = .ref a ∧ ND P w K H5 D kvs ∧ KyAt K H5 (.ref a) k ∧ kvs.length < sizeLine ∧ ∀ H6, ND P w K H6 D (putK kvs k z) → Stp [D] H5 H6 → Pv (i + 1) H6 else Pv (i + 1) H3) (hd : ∀ H, Pv xs.length H → Qd H) :
    ∃ W : Nat → Nat → Hp → Prop, (∃ m, W 0 m H2) ∧ ∀ i m H, W i m H →
      ((Ite K a).stop i H ∧ Qd H) ∨ ((Ite K a).go i H ∧ ∃ Nx : Hp → Prop, (∀ H', Nx H' → ∃ m', m' < m ∧ W (i + 1) m' H') ∧ ∀ x H', (Ite K a).yld i H x H' → g x (wipe σ vs) H' fun σ2 H2 => wipe σ2 vs = wipe σ vs ∧ tt σ2 H2 fun b H3 =>
        if b = true then tk σ2 H3 fun y H4 => tv σ2 H4 fun z H5 => ∃ a kvs k, y = .ref a ∧ ND P w K H5 D kvs ∧ KyAt K H5 (.ref a) k ∧ kvs.length < sizeLine ∧ ∀ H6, ND P w K H6 D (putK kvs k z) → Stp [D] H5 H6 → Nx H6 else Nx H3) := by
  refine ⟨fun i m H => m + i = xs.length ∧ Pv i H, ⟨xs.length, rfl, h0⟩, fun i m H ⟨em, p⟩ => ?_⟩
  have at_ := hl i H (by omega) p
  match m, em with
  | 0, em =>
    have e : i = xs.length := by omega
    subst e
    exact .inl ⟨⟨xs, at_, Nat.le_refl _⟩, hd H p⟩
  | m + 1, em =>
    have lt : i < xs.length := by omega
    refine .inr ⟨⟨xs, xs[i], at_, List.getElem?_eq_getElem lt⟩, Pv (i + 1), fun H' p' => ⟨m, Nat.lt_succ_self m, by omega, p'⟩, fun x H' ⟨T, z, e, n, eh, hz⟩ => ?_⟩
    subst e eh
    exact hs i z _ T (hz xs at_) p n
theorem hu65 {A : Around} {k : Nat} (hr : Room k A) : A.units + 65 < cLine := by have := hr.un; omega
section
variable {X : Cx} {K : PySem.W.Frag}
theorem mt_indexTK (eK : X.K = K) (hu : X.A.units + 65 < cLine) : MtR X "list.index" (rIndexT K) := by subst eK; exact mt_indexT hu
variable {o e : Expr} {es : List Expr} {to : TE} {t : TA} {name : Str} {apos cpos : Pos} {T id : String} {r : V → List V → Hp → VK → Prop}
theorem pe_bmK (eK : X.K = K) (pa : PlainAttrs T) (slot : Slot T name id) (hty : typeOf (.builtin id) = pure (.type "method_descriptor")) (hm : MtR X id r) (ho : PE X o to) (ha : PA X (e :: es) t)
    (hbase : attributeBase o name X.env (eval o X.env) = eval o X.env := by rfl)
    (hfew : ((backTo cpos (starEach (e :: es) X.env)).all (fun x => !x.1) && (backToKw cpos (keywordEach [] X.env)).all (fun x => x.1.isSome)
      && decide ((e :: es).length + ([] : List Keyword).length + (if ([] : List Keyword).isEmpty then 0 else 1) < 30)) = true := by rfl)
    (hline : (apos.endLine == cpos.line) = true := by rfl) (hs : starEach (e :: es) X.env = (false, eval e X.env) :: starEach es X.env := by rfl) (hplain : (backTo cpos (starEach es X.env)).any (·.1) = false := by rfl) :
    PE X (.Call (.Attribute o name apos) (e :: es) [] cpos) (tBM K T r to t) := by
  subst eK; exact pe_bm pa slot hty hm ho ha hbase hfew hline hs hplain
end
section
variable {P : Program} {w : World} {K : PySem.W.Frag} {H H1 : Hp} {M : List Addr} {d : Addr} {kvs : List NKV}
theorem NDR.stp' (h : NDR P w K H d kvs) (s : Stp M H H1) (n : d ∉ M) : NDR P w K H1 d kvs :=
  let ⟨xs, e, k, q⟩ := h
  ⟨xs, e.elim (fun e => .inl (s.keep _ _ e n)) (fun ⟨o, e⟩ => .inr ⟨o, s.keep _ _ e n⟩), k.stp s, q⟩
end
end GT

/-! ## statements that are never reached; a sign so many times -/
namespace GT
open PySem PySem.Spec PyProof.Rows L2
section
variable {X : Cx}
/-- of a statement that is never reached nothing is asked -/
def tNever : TS := fun _ _ _ => False
theorem ps_never {st : Stmt} : PS X st tNever := ⟨fun pins s σ H D I h => h.elim⟩
def rMulS : R2 := fun x y H Q => ∃ (z : Str) (n : Int), x = .str z ∧ y = .int n ∧ z.length = 1 ∧ 0 ≤ n ∧ n ≤ 1000 ∧ Q (.str (Txt.mul z n)) H
theorem op_mul_str : OpR X (binaryOp .Mult) rMulS := by
  rintro pins s σ H x y u v Q I rx ry ⟨z, n, rfl, rfl, hz, h0, h1, q⟩
  obtain ⟨t, rfl⟩ := (show ∃ t, u = Value.str z t from rx)
  obtain ⟨t2, rfl⟩ := (show ∃ t, v = Value.int n t from ry)
  refine PySem.SB.mul ⟨?_, fun a b => ?_, fun a b => ?_⟩ fun t' k => ⟨.str _, H, I.tok _, ⟨t', rfl⟩, q⟩
  · simp; omega
  · rw [hz]
    have h2 : (1 : Int) ≤ (2 ^ 63 - 1) / n := by
      rw [Int.le_ediv_iff_mul_le (by omega)]; omega
    show ¬ ((1 : Nat) : Int) > (2 ^ 63 - 1) / n
    omega
  · rw [hz]
    have h3 : n.toNat ≤ 1000 := by omega
    have h4 := sizeLine_eq
    unfold PySem.Builtin.Str.tooLong
    rw [decide_eq_false_iff_not, h4]
    omega
end
section
variable {σ : L2.St} {H : Hp} {Q : VK} {te : TE} {R : It → Hp → Prop}
theorem i_Str (q : te σ H fun v H1 => ∃ x, v = .str x ∧ R (Its x) H1) : iStr te σ H R := q
end
end GT

namespace GT
open PySem PySem.Spec PyProof.Rows L2
local macro_rules | `(tactic| walk_at "p") => `(tactic| first
  | (with_reducible apply vl_var; with_unfolding_all rfl)
  | with_reducible exact vl_c
  | ((with_reducible apply vl_I0); (· walk_at "p"); (· walk_at "p"))
  | ((with_reducible apply vl_U); (· walk_at "p"))
  | ((with_reducible apply vl_chain); (· walk_at "p"); (· walk_at "p"); (· walk_at "p"))
  | ((with_reducible apply vl_and); (· walk_at "p"); (· walk_at "p"))
  | ((with_reducible apply vl_or); (· walk_at "p"); (· walk_at "p"))
  | ((with_reducible apply vl_not); (· walk_at "p"))
  | ((with_reducible apply vl_eq); (· walk_at "p"); (· walk_at "p"); (· with_unfolding_all rfl))
  | ((with_reducible apply vl_ne); (· walk_at "p"); (· walk_at "p"); (· with_unfolding_all rfl))
  | ((with_reducible apply tl_test); (· walk_at "p"))
  | ((with_reducible apply tl_B); (· walk_at "p"))
  | ((with_reducible apply tl_and); (· walk_at "p"); (· walk_at "p"))
  | ((with_reducible apply tl_or); (· walk_at "p"); (· walk_at "p"))
  | ((with_reducible apply tl_not); (· walk_at "p")))
local macro_rules | `(tactic| walk_at "g") => `(tactic| first
  | ((with_reducible apply p_AndV); (· walk_at "p"))
  | ((with_reducible apply p_OrV); (· walk_at "p"))
  | ((with_reducible apply p_Chain); (· walk_at "p"))
  | ((with_reducible apply p_And); (· walk_at "p"))
  | ((with_reducible apply p_Or); (· walk_at "p"))
  | ((with_reducible apply j_and); (· walk_at "p"); (· exact fun z => z))
  | ((with_reducible apply j_or); (· walk_at "p"); (· exact fun z => z))
  | (with_reducible apply i_var; with_unfolding_all rfl)
  | with_reducible refine i_C ?_
  | with_reducible refine i_Op ?_
  | with_reducible refine i_Yes ?_
  | with_reducible refine i_Un ?_
  | with_reducible refine i_I0 ?_
  | ((with_reducible refine i_I ?hc ?_); (case hc => first | (show (0 : Int) < _; decide) | exact .inl ⟨by decide, by decide⟩ | exact ⟨by decide, by decide⟩ | exact ⟨by decide, by decide, by decide⟩ | (show (0 : Int) < _; omega) | exact .inl ⟨by omega, by omega⟩ | exact .inr ⟨by decide, by decide⟩))
  | with_reducible refine i_U ?_
  | with_reducible refine i_Test ?_
  | with_reducible refine i_B ?_
  | with_reducible refine i_bl ?_
  | with_reducible refine i_And ?_
  | with_reducible refine i_Or ?_
  | with_reducible refine i_Not ?_
  | with_reducible refine i_Nil ?_
  | with_reducible refine i_Cons ?_
  | with_reducible refine i_Seq ?_
  | with_reducible refine i_Asg ?_
  | with_reducible refine i_Name ?_
  | with_reducible refine i_Ret ?_
  | with_reducible refine i_IfS ?_
  | with_reducible refine i_Drop ?_
  | with_reducible refine i_Next ?_
  | with_reducible refine i_If ?_
  | with_reducible refine i_Call ?_
  | with_reducible refine i_CB ?_
  | with_reducible refine i_Chain ?_
  | with_reducible refine i_AndV ?_
  | with_reducible refine i_OrV ?_
  | with_reducible refine i_NotV ?_
  | with_reducible refine i_blV ?_
  | with_reducible refine i_Tup ?_
  | with_reducible refine i_Lst ?_
  | with_reducible refine i_Par ?_
  | with_reducible refine i_Sl ?_
  | with_reducible refine i_NoPart ?_
  | with_reducible refine i_Part ?_
  | with_reducible refine i_intV ?_
  | with_reducible refine i_BM ?_
  | with_reducible refine i_BM0 ?_
  | with_reducible refine i_For ?_
  | with_reducible refine i_Lc ?_
  | with_reducible refine i_Rng1 ?_
  | with_reducible refine i_Rng2 ?_
  | with_reducible refine i_List ?_
  | with_reducible refine i_Nk ?_
  | with_reducible refine i_Nki ?_
  | with_reducible refine i_NGet ?_
  | with_reducible refine i_NIn ?_
  | with_reducible refine i_NNotIn ?_
  | with_reducible refine i_NPut ?_
  | with_reducible refine i_Meth ?_
  | with_reducible refine i_Make ?_
  | with_reducible refine i_Fld ?_
  | with_reducible refine i_sFld ?_
  | with_reducible refine i_gNil ?_
  | with_reducible refine i_gCons ?_
  | (with_reducible apply i_Aug; with_unfolding_all rfl)
  | ((with_reducible refine i_Eq ?hv ?_); (case hv => with_unfolding_all rfl))
  | ((with_reducible refine i_Ne ?hv ?_); (case hv => with_unfolding_all rfl)))
local macro_rules | `(tactic| walk_at "h") => `(tactic| ((fail_if_success (with_reducible refine i_Lc ?_)); walk_at "g"))

/-! ### the text -/
def topS (i : Nat) : Stmt := PySem.Challenge.pw_graphtwins_k09_octets_of_messages.main.body.getD i (.Pass ⟨0, 0, 0, 0⟩)
abbrev s_reference : Stmt := topS 7
theorem sc_reference : FnScope ["name"] ["name"] (defScope s_reference) := ⟨rfl, rfl, rfl, by decide +kernel, rfl, by decide +kernel, by decide +kernel⟩
def d_reference : He.DefD := ⟨("reference", none), "reference", "reference", defArgs s_reference, defBody s_reference, defScope s_reference, [], []⟩
abbrev s_CodeError_init : Stmt := inClass (topS 11) 0
theorem sc_CodeError_init : FnScope ["self", "place"] ["self", "place"] (defScope s_CodeError_init) := ⟨rfl, rfl, rfl, by decide +kernel, rfl, by decide +kernel, by decide +kernel⟩
def d_CodeError_init : He.DefD := ⟨("CodeError", some "__init__"), "__init__", "CodeError.__init__", defArgs s_CodeError_init, defBody s_CodeError_init, defScope s_CodeError_init, [], []⟩
abbrev s_Reader_init : Stmt := inClass (topS 20) 0
theorem sc_Reader_init : FnScope ["self", "octets"] ["self", "octets"] (defScope s_Reader_init) := ⟨rfl, rfl, rfl, by decide +kernel, rfl, by decide +kernel, by decide +kernel⟩
def d_Reader_init : He.DefD := ⟨("Reader", some "__init__"), "__init__", "Reader.__init__", defArgs s_Reader_init, defBody s_Reader_init, defScope s_Reader_init, [], []⟩
abbrev s_Reader_next_octet : Stmt := inClass (topS 20) 1
theorem sc_Reader_next_octet : FnScope ["self", "least", "greatest", "octet"] ["self", "least", "greatest"] (defScope s_Reader_next_octet) := ⟨rfl, rfl, rfl, by decide +kernel, rfl, by decide +kernel, by decide +kernel⟩
def d_Reader_next_octet : He.DefD := ⟨("Reader", some "next_octet"), "next_octet", "Reader.next_octet", defArgs s_Reader_next_octet, defBody s_Reader_next_octet, defScope s_Reader_next_octet, [], []⟩
abbrev s_Reader_next_number : Stmt := inClass (topS 20) 2
theorem sc_Reader_next_number : FnScope ["self", "many", "least", "greatest", "number", "at", "bits", "lowest", "highest"] ["self", "many", "least", "greatest"] (defScope s_Reader_next_number) := ⟨rfl, rfl, rfl, by decide +kernel, rfl, by decide +kernel, by decide +kernel⟩
def d_Reader_next_number : He.DefD := ⟨("Reader", some "next_number"), "next_number", "Reader.next_number", defArgs s_Reader_next_number, defBody s_Reader_next_number, defScope s_Reader_next_number, [], []⟩
abbrev s_Reader_next_word : Stmt := inClass (topS 20) 3
theorem sc_Reader_next_word : FnScope ["self", "least", "greatest", "before", "many", "word"] ["self", "least", "greatest", "before"] (defScope s_Reader_next_word) := ⟨rfl, rfl, rfl, by decide +kernel, rfl, by decide +kernel, by decide +kernel⟩
def d_Reader_next_word : He.DefD := ⟨("Reader", some "next_word"), "next_word", "Reader.next_word", defArgs s_Reader_next_word, defBody s_Reader_next_word, defScope s_Reader_next_word, [], []⟩
abbrev s_Reader_next_plain : Stmt := inClass (topS 20) 4
theorem sc_Reader_next_plain : FnScope ["self", "kind"] ["self", "kind"] (defScope s_Reader_next_plain) := ⟨rfl, rfl, rfl, by decide +kernel, rfl, by decide +kernel, by decide +kernel⟩
def d_Reader_next_plain : He.DefD := ⟨("Reader", some "next_plain"), "next_plain", "Reader.next_plain", defArgs s_Reader_next_plain, defBody s_Reader_next_plain, defScope s_Reader_next_plain, [], []⟩
abbrev s_Reader_finish : Stmt := inClass (topS 20) 5
theorem sc_Reader_finish : FnScope ["self"] ["self"] (defScope s_Reader_finish) := ⟨rfl, rfl, rfl, by decide +kernel, rfl, by decide +kernel, by decide +kernel⟩
def d_Reader_finish : He.DefD := ⟨("Reader", some "finish"), "finish", "Reader.finish", defArgs s_Reader_finish, defBody s_Reader_finish, defScope s_Reader_finish, [], []⟩
abbrev s_Reader_check_order : Stmt := inClass (topS 20) 6
theorem sc_Reader_check_order : FnScope ["self", "begun", "many", "before", "last"] ["self", "begun", "many", "before"] (defScope s_Reader_check_order) := ⟨rfl, rfl, rfl, by decide +kernel, rfl, by decide +kernel, by decide +kernel⟩
def d_Reader_check_order : He.DefD := ⟨("Reader", some "_check_order"), "_check_order", "Reader._check_order", defArgs s_Reader_check_order, defBody s_Reader_check_order, defScope s_Reader_check_order, [], []⟩
abbrev s_number_octets : Stmt := topS 22
theorem sc_number_octets : FnScope ["number", "many", "octets", "rest", "_"] ["number", "many"] (defScope s_number_octets) := ⟨rfl, rfl, rfl, by decide +kernel, rfl, by decide +kernel, by decide +kernel⟩
def d_number_octets : He.DefD := ⟨("number_octets", none), "number_octets", "number_octets", defArgs s_number_octets, defBody s_number_octets, defScope s_number_octets, [], []⟩
abbrev s_word_octets : Stmt := topS 23
theorem sc_word_octets : FnScope ["word", "letter"] ["word"] (defScope s_word_octets) := ⟨rfl, rfl, rfl, by decide +kernel, rfl, by decide +kernel, by decide +kernel⟩
def d_word_octets : He.DefD := ⟨("word_octets", none), "word_octets", "word_octets", defArgs s_word_octets, defBody s_word_octets, defScope s_word_octets, [], []⟩
abbrev s_plain_octets : Stmt := topS 24
theorem sc_plain_octets : FnScope ["value"] ["value"] (defScope s_plain_octets) := ⟨rfl, rfl, rfl, by decide +kernel, rfl, by decide +kernel, by decide +kernel⟩
def d_plain_octets : He.DefD := ⟨("plain_octets", none), "plain_octets", "plain_octets", defArgs s_plain_octets, defBody s_plain_octets, defScope s_plain_octets, [], []⟩
abbrev s_check_of : Stmt := topS 28
theorem sc_check_of : FnScope ["octets", "low", "high", "octet"] ["octets"] (defScope s_check_of) := ⟨rfl, rfl, rfl, by decide +kernel, rfl, by decide +kernel, by decide +kernel⟩
def d_check_of : He.DefD := ⟨("check_of", none), "check_of", "check_of", defArgs s_check_of, defBody s_check_of, defScope s_check_of, [], []⟩
abbrev s_message_octets : Stmt := topS 29
theorem sc_message_octets : FnScope ["sender", "number", "changes", "octets", "change"] ["sender", "number", "changes"] (defScope s_message_octets) := ⟨rfl, rfl, rfl, by decide +kernel, rfl, by decide +kernel, by decide +kernel⟩
def d_message_octets : He.DefD := ⟨("message_octets", none), "message_octets", "message_octets", defArgs s_message_octets, defBody s_message_octets, defScope s_message_octets, [], []⟩
abbrev s_read_message : Stmt := topS 30
theorem sc_read_message : FnScope ["octets", "reader", "sender", "number", "many", "changes", "_", "high", "low"] ["octets"] (defScope s_read_message) := ⟨rfl, rfl, rfl, by decide +kernel, rfl, by decide +kernel, by decide +kernel⟩
def d_read_message : He.DefD := ⟨("read_message", none), "read_message", "read_message", defArgs s_read_message, defBody s_read_message, defScope s_read_message, [], []⟩
abbrev s_change_octets : Stmt := topS 31
theorem sc_change_octets : FnScope ["change", "clock", "peer", "name", "field", "value", "stamp_octets"] ["change"] (defScope s_change_octets) := ⟨rfl, rfl, rfl, by decide +kernel, rfl, by decide +kernel, by decide +kernel⟩
def d_change_octets : He.DefD := ⟨("_change_octets", none), "_change_octets", "_change_octets", defArgs s_change_octets, defBody s_change_octets, defScope s_change_octets, [], []⟩
abbrev s_name_octets : Stmt := topS 32
theorem sc_name_octets : FnScope ["name", "peer", "count"] ["name"] (defScope s_name_octets) := ⟨rfl, rfl, rfl, by decide +kernel, rfl, by decide +kernel, by decide +kernel⟩
def d_name_octets : He.DefD := ⟨("_name_octets", none), "_name_octets", "_name_octets", defArgs s_name_octets, defBody s_name_octets, defScope s_name_octets, [], []⟩
abbrev s_value_octets : Stmt := topS 33
theorem sc_value_octets : FnScope ["value"] ["value"] (defScope s_value_octets) := ⟨rfl, rfl, rfl, by decide +kernel, rfl, by decide +kernel, by decide +kernel⟩
def d_value_octets : He.DefD := ⟨("_value_octets", none), "_value_octets", "_value_octets", defArgs s_value_octets, defBody s_value_octets, defScope s_value_octets, [], []⟩
abbrev s_read_change : Stmt := topS 34
theorem sc_read_change : FnScope ["reader", "clock", "peer", "name", "field"] ["reader"] (defScope s_read_change) := ⟨rfl, rfl, rfl, by decide +kernel, rfl, by decide +kernel, by decide +kernel⟩
def d_read_change : He.DefD := ⟨("_read_change", none), "_read_change", "_read_change", defArgs s_read_change, defBody s_read_change, defScope s_read_change, [], []⟩
abbrev s_read_name : Stmt := topS 35
theorem sc_read_name : FnScope ["reader", "peer"] ["reader"] (defScope s_read_name) := ⟨rfl, rfl, rfl, by decide +kernel, rfl, by decide +kernel, by decide +kernel⟩
def d_read_name : He.DefD := ⟨("_read_name", none), "_read_name", "_read_name", defArgs s_read_name, defBody s_read_name, defScope s_read_name, [], []⟩
abbrev s_read_value : Stmt := topS 36
theorem sc_read_value : FnScope ["reader", "kind"] ["reader"] (defScope s_read_value) := ⟨rfl, rfl, rfl, by decide +kernel, rfl, by decide +kernel, by decide +kernel⟩
def d_read_value : He.DefD := ⟨("_read_value", none), "_read_value", "_read_value", defArgs s_read_value, defBody s_read_value, defScope s_read_value, [], []⟩
abbrev s_law_cell : Stmt := topS 38
theorem sc_law_cell : FnScope ["script", "k"] ["script", "k"] (defScope s_law_cell) := ⟨rfl, rfl, rfl, by decide +kernel, rfl, by decide +kernel, by decide +kernel⟩
def d_law_cell : He.DefD := ⟨("_law_cell", none), "_law_cell", "_law_cell", defArgs s_law_cell, defBody s_law_cell, defScope s_law_cell, [], []⟩
abbrev s_law_digits : Stmt := topS 39
theorem sc_law_digits : FnScope ["script", "first", "last", "digits", "k", "cell", "turn", "seed"] ["script", "first", "last"] (defScope s_law_digits) := ⟨rfl, rfl, rfl, by decide +kernel, rfl, by decide +kernel, by decide +kernel⟩
def d_law_digits : He.DefD := ⟨("_law_digits", none), "_law_digits", "_law_digits", defArgs s_law_digits, defBody s_law_digits, defScope s_law_digits, [], []⟩
abbrev s_law_draw : Stmt := topS 40
theorem sc_law_draw : FnScope ["box", "many", "at"] ["box", "many"] (defScope s_law_draw) := ⟨rfl, rfl, rfl, by decide +kernel, rfl, by decide +kernel, by decide +kernel⟩
def d_law_draw : He.DefD := ⟨("_law_draw", none), "_law_draw", "_law_draw", defArgs s_law_draw, defBody s_law_draw, defScope s_law_draw, [], []⟩
abbrev s_law_name : Stmt := topS 41
theorem sc_law_name : FnScope ["box"] ["box"] (defScope s_law_name) := ⟨rfl, rfl, rfl, by decide +kernel, rfl, by decide +kernel, by decide +kernel⟩
def d_law_name : He.DefD := ⟨("_law_name", none), "_law_name", "_law_name", defArgs s_law_name, defBody s_law_name, defScope s_law_name, [], []⟩
abbrev s_law_field : Stmt := topS 42
theorem sc_law_field : FnScope ["box"] ["box"] (defScope s_law_field) := ⟨rfl, rfl, rfl, by decide +kernel, rfl, by decide +kernel, by decide +kernel⟩
def d_law_field : He.DefD := ⟨("_law_field", none), "_law_field", "_law_field", defArgs s_law_field, defBody s_law_field, defScope s_law_field, [], []⟩
abbrev s_law_worth : Stmt := topS 43
theorem sc_law_worth : FnScope ["box", "kind"] ["box"] (defScope s_law_worth) := ⟨rfl, rfl, rfl, by decide +kernel, rfl, by decide +kernel, by decide +kernel⟩
def d_law_worth : He.DefD := ⟨("_law_worth", none), "_law_worth", "_law_worth", defArgs s_law_worth, defBody s_law_worth, defScope s_law_worth, [], []⟩
abbrev s_law_changes : Stmt := topS 44
theorem sc_law_changes : FnScope ["box", "most", "changes", "k", "table", "change", "stamp"] ["box", "most"] (defScope s_law_changes) := ⟨rfl, rfl, rfl, by decide +kernel, rfl, by decide +kernel, by decide +kernel⟩
def d_law_changes : He.DefD := ⟨("_law_changes", none), "_law_changes", "_law_changes", defArgs s_law_changes, defBody s_law_changes, defScope s_law_changes, [], []⟩
abbrev s_law_mixed : Stmt := topS 45
theorem sc_law_mixed : FnScope ["box", "row", "left", "found", "k", "one"] ["box", "row"] (defScope s_law_mixed) := ⟨rfl, rfl, rfl, by decide +kernel, rfl, by decide +kernel, by decide +kernel⟩
def d_law_mixed : He.DefD := ⟨("_law_mixed", none), "_law_mixed", "_law_mixed", defArgs s_law_mixed, defBody s_law_mixed, defScope s_law_mixed, [], []⟩
abbrev s_law_cells : Stmt := topS 46
theorem sc_law_cells : FnScope ["changes", "cells", "change", "key"] ["changes"] (defScope s_law_cells) := ⟨rfl, rfl, rfl, by decide +kernel, rfl, by decide +kernel, by decide +kernel⟩
def d_law_cells : He.DefD := ⟨("_law_cells", none), "_law_cells", "_law_cells", defArgs s_law_cells, defBody s_law_cells, defScope s_law_cells, [], []⟩
abbrev s_law_fields : Stmt := topS 47
theorem sc_law_fields : FnScope ["cells", "name", "found", "key"] ["cells", "name"] (defScope s_law_fields) := ⟨rfl, rfl, rfl, by decide +kernel, rfl, by decide +kernel, by decide +kernel⟩
def d_law_fields : He.DefD := ⟨("_law_fields", none), "_law_fields", "_law_fields", defArgs s_law_fields, defBody s_law_fields, defScope s_law_fields, [], []⟩
abbrev s_law_digits_of : Stmt := topS 48
theorem sc_law_digits_of : FnScope ["number", "many", "found", "k"] ["number", "many"] (defScope s_law_digits_of) := ⟨rfl, rfl, rfl, by decide +kernel, rfl, by decide +kernel, by decide +kernel⟩
def d_law_digits_of : He.DefD := ⟨("_law_digits_of", none), "_law_digits_of", "_law_digits_of", defArgs s_law_digits_of, defBody s_law_digits_of, defScope s_law_digits_of, [], []⟩
abbrev s_law_letters : Stmt := topS 49
theorem sc_law_letters : FnScope ["word", "sign"] ["word"] (defScope s_law_letters) := ⟨rfl, rfl, rfl, by decide +kernel, rfl, by decide +kernel, by decide +kernel⟩
def d_law_letters : He.DefD := ⟨("_law_letters", none), "_law_letters", "_law_letters", defArgs s_law_letters, defBody s_law_letters, defScope s_law_letters, [], []⟩
abbrev s_law_graph_code : Stmt := topS 50
theorem sc_law_graph_code : FnScope ["graph", "code", "root", "row", "pair"] ["graph"] (defScope s_law_graph_code) := ⟨rfl, rfl, rfl, by decide +kernel, rfl, by decide +kernel, by decide +kernel⟩
def d_law_graph_code : He.DefD := ⟨("_law_graph_code", none), "_law_graph_code", "_law_graph_code", defArgs s_law_graph_code, defBody s_law_graph_code, defScope s_law_graph_code, [], []⟩
abbrev s_law_message_code : Stmt := topS 51
theorem sc_law_message_code : FnScope ["sender", "number", "changes", "code", "change", "value"] ["sender", "number", "changes"] (defScope s_law_message_code) := ⟨rfl, rfl, rfl, by decide +kernel, rfl, by decide +kernel, by decide +kernel⟩
def d_law_message_code : He.DefD := ⟨("_law_message_code", none), "_law_message_code", "_law_message_code", defArgs s_law_message_code, defBody s_law_message_code, defScope s_law_message_code, [], []⟩
abbrev s_law_sums : Stmt := topS 52
theorem sc_law_sums : FnScope ["code", "low", "high", "octet"] ["code"] (defScope s_law_sums) := ⟨rfl, rfl, rfl, by decide +kernel, rfl, by decide +kernel, by decide +kernel⟩
def d_law_sums : He.DefD := ⟨("_law_sums", none), "_law_sums", "_law_sums", defArgs s_law_sums, defBody s_law_sums, defScope s_law_sums, [], []⟩
abbrev s_law : Stmt := topS 53
theorem sc_law : FnScope ["script", "box", "sender", "number", "changes", "kept", "code", "told", "row", "change", "k"] ["script"] (defScope s_law) := ⟨rfl, rfl, rfl, by decide +kernel, rfl, by decide +kernel, by decide +kernel⟩
def d_law : He.DefD := ⟨("law", none), "law", "law", defArgs s_law, defBody s_law, defScope s_law, [], []⟩
abbrev lv_reference : Nat := 1
abbrev lv_CodeError_init : Nat := 2
abbrev lv_Reader_init : Nat := 1
abbrev lv_Reader_next_octet : Nat := 4
abbrev lv_Reader_next_number : Nat := 5
abbrev lv_Reader_next_word : Nat := 5
abbrev lv_Reader_next_plain : Nat := 6
abbrev lv_Reader_finish : Nat := 4
abbrev lv_Reader_check_order : Nat := 4
abbrev lv_number_octets : Nat := 1
abbrev lv_word_octets : Nat := 2
abbrev lv_plain_octets : Nat := 3
abbrev lv_check_of : Nat := 1
abbrev lv_message_octets : Nat := 6
abbrev lv_read_message : Nat := 9
abbrev lv_change_octets : Nat := 5
abbrev lv_name_octets : Nat := 2
abbrev lv_value_octets : Nat := 4
abbrev lv_read_change : Nat := 8
abbrev lv_read_name : Nat := 6
abbrev lv_read_value : Nat := 7
abbrev lv_law_cell : Nat := 1
abbrev lv_law_digits : Nat := 2
abbrev lv_law_draw : Nat := 1
abbrev lv_law_name : Nat := 2
abbrev lv_law_field : Nat := 2
abbrev lv_law_worth : Nat := 3
abbrev lv_law_changes : Nat := 4
abbrev lv_law_mixed : Nat := 2
abbrev lv_law_cells : Nat := 1
abbrev lv_law_fields : Nat := 1
abbrev lv_law_digits_of : Nat := 1
abbrev lv_law_letters : Nat := 1
abbrev lv_law_graph_code : Nat := 2
abbrev lv_law_message_code : Nat := 2
abbrev lv_law_sums : Nat := 1
abbrev lv_law : Nat := 10

section
variable {P : Program} {w : World} {K : PySem.W.Frag} {mg : Str → Option Value} {base : Heap}
/-! ### the box of draws -/
structure Box (K : PySem.W.Frag) (b dg : Addr) (H : Hp) : Prop where
  bx : ∃ z : Int, H b = some (.lst [.ref dg, .int z]) ∧ 0 ≤ z
  di : ∃ ns : List Int, H dg = some (.lst (ns.map V.int))
  ne : dg ≠ b
theorem Box.stp {b dg : Addr} {H H1 : Hp} {M : List Addr} (B : Box K b dg H) (s : Stp M H H1) (n1 : b ∉ M) (n2 : dg ∉ M) : Box K b dg H1 := by
  obtain ⟨⟨z, h, hz⟩, ⟨ns, d⟩, ne⟩ := B
  exact ⟨⟨z, s.keep _ _ h n1, hz⟩, ⟨ns, s.keep _ _ d n2⟩, ne⟩
theorem Box.grow {b dg : Addr} {H H1 : Hp} (B : Box K b dg H) (s : Stp [] H H1) : Box K b dg H1 := B.stp s (by simp) (by simp)
theorem Box.nin {b dg p : Addr} {H : Hp} (B : Box K b dg H) (hp : H p = none) : p ∉ [b] := by
  obtain ⟨⟨z, e, _⟩, _, _⟩ := B
  simp
  exact fun z => by rw [z, e] at hp; cases hp
theorem Box.dgn {b dg p : Addr} {H : Hp} (B : Box K b dg H) (hp : H p = none) : dg ≠ p := by
  obtain ⟨_, ⟨ns, h⟩, _⟩ := B
  rintro rfl
  rw [hp] at h; cases h
/-- what is written was not there yet -/
theorem Box.off {b dg p : Addr} {H0 H H1 : Hp} {M : List Addr} (B0 : Box K b dg H0) (B : Box K b dg H) (hp : H0 p = none) (s : Stp [p] H H1) : Box K b dg H1 :=
  B.stp s (fun z => B0.nin hp (by simpa using (List.mem_singleton.mp z).symm)) (fun z => B0.dgn hp (List.mem_singleton.mp z))
def spDraw (K : PySem.W.Frag) : Sp := fun vs H Q _ => ∃ (b dg : Addr) (m : Int), vs = [.ref b, .int m] ∧ 0 < m ∧ Box K b dg H ∧
  ∀ (d : Int) (H1 : Hp), 0 ≤ d → d < m → Stp [b] H H1 → Box K b dg H1 → Q (.int d) H1
theorem cal_draw (F : Df K mg d_law_draw) (B : Blt mg) : Cal P w K mg base lv_law_draw "_law_draw" ["box", "many"] (spDraw K) := by
  obtain ⟨f, fd, F, g⟩ := F
  refine ⟨f, fd, F.ok sc_law_draw (fun vs H Q E h => ?_) (fun cdv A outer s H vs Q E hr h => ⟨_, PSs.nox
    (pss_cons (ps_set (i := 2) sc_law_draw.nd rfl (Or.inl rfl) (pe_ix (ix_listK (K := K) rfl) (pv 0) pe_int (fun _ _ => rfl)))
    (pss_cons (ps_asg (pe_op op_add (pv 2) pe_int) (pg_sub (pv 0) pe_int set_list))
    (pss_cons (ps_if (pt_cmpR op_lt (pv 2) (pe_callB call_len_seq (by rfl) B.len boot_len (pa_cons (pe_ix (ix_listK (K := K) rfl) (pv 0) pe_int (fun _ _ => rfl)) pa_nil)) (nomark _))
      (pss_one (ps_ret (pe_op op_mod (pe_callTy call_int1 (by rfl) B.int boot_int (pa_cons (pe_ix (ix_listK (K := K) rfl) (pe_ix (ix_listK (K := K) rfl) (pv 0) pe_int (fun _ _ => rfl)) (pv 2) (fun _ _ => rfl)) pa_nil)) (pv 1))))
      pss_nil)
    (pss_one (ps_ret pe_int))))), ?_⟩), g, F.kp, F.bindsN fun _ _ _ _ _ _ us hl => match us, hl with | [_, _], _ => rfl⟩
  · obtain ⟨b, dg, m, rfl, _⟩ := h
    rfl
  · obtain ⟨b, dg, m, rfl, hm, ⟨⟨z, hb, hz⟩, ⟨ns, hd⟩, ne⟩, q⟩ := h
    have st : Stp [b] H (upd H b (.lst [.ref dg, .int (z + 1)])) := .wr (by simp) hb fun _ e => by cases e
    have hd0 := st.keep _ _ hd (by simp [ne])
    have hd1 : SqL K (upd H b (.lst [.ref dg, .int (z + 1)])) dg (ns.map V.int) := SqL.of hd0
    have B1 : Box K b dg (upd H b (.lst [.ref dg, .int (z + 1)])) := ⟨⟨z + 1, upd_same, by omega⟩, ⟨ns, hd0⟩, ne⟩
    refine ⟨_, rfl, _, _, _, _, rfl, rfl, SqL.of hb, atI_nat (j := 1) rfl, ?_⟩
    refine ⟨_, rfl, _, _, rfl, rfl, _, rfl, _, _, _, 1, rfl, rfl, hb, rfl, ?_⟩
    refine ⟨_, rfl, _, rfl, _, _, _, _, rfl, rfl, SqL.of upd_same, atI_nat (j := 0) rfl, _, _, rfl, .inl hd1, _, _, rfl, rfl, _, rfl, ?_⟩
    refine i_iteD (fun hlt => ?_) (fun _ => ?_)
    · have hl : z.toNat < ns.length := by rw [List.length_map] at hlt; omega
      have he : atI (ns.map V.int) z = some (.int ns[z.toNat]) := at_of (j := z.toNat) (by omega) (by rw [List.getElem?_map, List.getElem?_eq_getElem hl]; rfl)
      refine ⟨_, rfl, _, _, _, _, rfl, rfl, SqL.of upd_same, atI_nat (j := 0) rfl, _, rfl, _, _, _, _, rfl, rfl, hd1, he, .inl ⟨_, rfl, _, rfl, _, _, rfl, rfl, hm, ?_⟩⟩
      exact q _ _ (Int.emod_nonneg _ (by omega)) (Int.emod_lt_of_pos _ hm) st B1
    · exact q 0 _ (by omega) hm st B1
end

section
variable {P : Program} {w : World} {K : PySem.W.Frag} {mg : Str → Option Value} {base : Heap}
def spCel (K : PySem.W.Frag) : Sp := fun vs H Q _ => ∃ (l : Addr) (ns : List Int) (k : Int), vs = [.ref l, .int k] ∧ 0 ≤ k ∧ SqL K H l (ns.map V.int) ∧ ∀ i : Int, Q (.int i) H
theorem cal_cell (F : Df K mg d_law_cell) (B : Blt mg) : Cal P w K mg base lv_law_cell "_law_cell" ["script", "k"] (spCel K) := by
  obtain ⟨f, fd, F, g⟩ := F
  refine ⟨f, fd, F.ok sc_law_cell (fun vs H Q E h => ?_) (fun cdv A outer s H vs Q E hr h => ⟨_, PSs.nox
    (pss_cons (ps_if (pt_cmpR op_lt (pv 1) (pe_callB call_len_seq (by rfl) B.len boot_len (pa_cons (pv 0) pa_nil)) (nomark _))
      (pss_one (ps_ret (pe_ix (ix_listK (K := K) rfl) (pv 0) (pv 1) (fun _ _ => rfl))))
      pss_nil)
    (pss_one (ps_ret pe_int))), ?_⟩), g, F.kp, F.bindsN fun _ _ _ _ _ _ us hl => match us, hl with | [_, _], _ => rfl⟩
  · obtain ⟨l, ns, k, rfl, _⟩ := h
    rfl
  · obtain ⟨l, ns, k, rfl, hk, hs, q⟩ := h
    refine ⟨_, rfl, _, rfl, _, _, rfl, .inl hs, _, _, rfl, rfl, _, rfl, ?_⟩
    refine i_iteD (fun hlt => ?_) (fun _ => ?_)
    · have hl : k.toNat < ns.length := by rw [List.length_map] at hlt; omega
      exact ⟨_, rfl, _, rfl, _, _, _, _, rfl, rfl, hs, at_of (j := k.toNat) (by omega) (by rw [List.getElem?_map, List.getElem?_eq_getElem hl]; rfl), q _⟩
    · exact q 0
def spDigits (K : PySem.W.Frag) : Sp := fun vs H Q _ => ∃ (l : Addr) (ns : List Int) (a b : Int), vs = [.ref l, .int a, .int b] ∧ 0 ≤ a ∧ a ≤ 1000 ∧ 0 ≤ b ∧ b ≤ 1000 ∧ SqL K H l (ns.map V.int) ∧
  ∀ (p : Addr) (ds : List Int) (H1 : Hp), H p = none → H1 p = some (.lst (ds.map V.int)) → Stp [] H H1 → Q (.ref p) H1
theorem map_snoc (ds : List Int) (d : Int) : ds.map V.int ++ [V.int d] = (ds ++ [d]).map V.int := by simp
theorem cal_digits (F : Df K mg d_law_digits) (B : Blt mg) (C_law_cell : Cal P w K mg base lv_law_cell "_law_cell" ["script", "k"] (spCel K)) : Cal P w K mg base lv_law_digits "_law_digits" ["script", "first", "last"] (spDigits K) := by
  obtain ⟨f, fd, F, g⟩ := F
  refine ⟨f, fd, F.ok sc_law_digits (fun vs H Q E h => ?_) (fun cdv A outer s H vs Q E hr h => ⟨_, PSs.nox
    (pss_cons (ps_set (i := 3) sc_law_digits.nd rfl (Or.inl rfl) (pe_lst pa_nil))
    (pss_cons (ps_for PassesOwn.never rfl (pi_range2 rfl B.range (pa_cons (pv 1) (pa_cons (pv 2) pa_nil))) (pg_name (i := 4) sc_law_digits.nd rfl (Or.inl rfl))
      (pss_cons (ps_set (i := 5) sc_law_digits.nd rfl (Or.inl rfl) (pc_call C_law_cell (hr.mono (by decide)) (by rfl) (pa_cons (pv 0) (pa_cons (pv 4) pa_nil))))
        (C8.pss_cut (ps_if (pt_cmpR op_lt (pv 5) pe_int (nomark _))
          (pss_one (ps_set (i := 5) sc_law_digits.nd rfl (Or.inl rfl) (pe_op op_sub pe_int (pe_op op_mul pe_int (pv 5)))))
          pss_nil)
        (pss_one (ps_if (pt_cmpR op_ge (pv 5) (pe_op op_pow pe_int pe_int) (nomark _))
          (pss_one (ps_for PassesOwn.never rfl (pi_range1 rfl B.range (pa_cons pe_int pa_nil)) (pg_name (i := 6) sc_law_digits.nd rfl (Or.inl rfl))
              (pss_one (ps_if (pt_cmpR op_gt (pv 5) pe_int (nomark _))
                  (pss_cons (ps_expr (pe_bm PySem.F.plainAttrs_list PySem.F.slot_list_append PySem.F.type_list_append mt_append (pv 3) (pa_cons (pe_op op_mod (pe_callTy call_int1 (by rfl) B.int boot_int (pa_cons (pv 5) pa_nil)) pe_int) pa_nil)))
                    (pss_one (ps_set (i := 5) sc_law_digits.nd rfl (Or.inl rfl) (pe_op op_fdiv (pv 5) pe_int))))
                  pss_nil))))
          (pss_cons (ps_set (i := 7) sc_law_digits.nd rfl (Or.inl rfl) (pe_op op_mod (pe_callTy call_int1 (by rfl) B.int boot_int (pa_cons (pe_op op_add (pe_op op_add (pe_op op_mul (pv 5) pe_int) (pe_op op_mul (pv 4) pe_int)) pe_int) pa_nil)) pe_int))
            (pss_one (ps_for PassesOwn.never rfl (pi_range1 rfl B.range (pa_cons pe_int pa_nil)) (pg_name (i := 6) sc_law_digits.nd rfl (Or.inl rfl))
              (pss_cons (ps_set (i := 7) sc_law_digits.nd rfl (Or.inl rfl) (pe_op op_mod (pe_callTy call_int1 (by rfl) B.int boot_int (pa_cons (pe_op op_add (pe_op op_add (pe_op op_mul (pv 7) pe_int) (pe_op op_mul pe_int (pv 6))) pe_int) pa_nil)) pe_int))
                (pss_one (ps_expr (pe_bm PySem.F.plainAttrs_list PySem.F.slot_list_append PySem.F.type_list_append mt_append (pv 3) (pa_cons (pe_op op_mod (pe_callTy call_int1 (by rfl) B.int boot_int (pa_cons (pe_op op_fdiv (pv 7) pe_int) pa_nil)) pe_int) pa_nil)))))))))))))
    (pss_one (ps_ret (pv 3))))), ?_⟩), g, F.kp, F.bindsN fun _ _ _ _ _ _ us hl => match us, hl with | [_, _, _], _ => rfl⟩
  · obtain ⟨l, ns, a, b, rfl, _⟩ := h
    rfl
  · obtain ⟨l, ns, a, b, rfl, ha, ha1, hb0, hb, hs, q⟩ := h
    refine ⟨Nat.zero_le _, fun p hp => ?_⟩
    have s1 : Stp [] H (upd H p (.lst [])) := .new hp
    refine ⟨_, rfl, _, rfl, a, b, rfl, ⟨by omega, by omega, by omega, by omega⟩, ?_⟩
    refine for_range (lo := a) (n := (b - a).toNat) (fun i σ H' => ∃ (y4 y5 y6 y7 : Option V) (ds : List Int), σ = [some (.ref l), some (.int a), some (.int b), some (.ref p), y4, y5, y6, y7] ∧ Stp [] H H' ∧ H' p = some (.lst (ds.map V.int)) ∧ ds.length ≤ 60 * i)
      ⟨none, none, none, none, [], rfl, s1, upd_same, Nat.le_refl _⟩ ?_ ?_
    · rintro i σ H' hi ⟨y4, y5, y6, y7, ds, rfl, s', hd, hl⟩
      have hl0 : ds.length ≤ 60000 := by omega
      refine ⟨_, rfl, _, rfl, l, ns, a + (i : Int), rfl, by omega, s'.seq hs (by simp), fun c0 => ?_⟩
      refine ⟨fun σ2 H2 => H2 = H' ∧ ∃ c : Int, 0 ≤ c ∧ σ2 = [some (.ref l), some (.int a), some (.int b), some (.ref p), some (.int (a + (i : Int))), some (.int c), y6, y7], ?_, ?_⟩
      · refine ⟨_, rfl, _, _, rfl, rfl, _, rfl, i_iteD (fun hc => ?_) (fun hc => ?_)⟩
        · refine ⟨_, rfl, _, _, rfl, rfl, .inl ⟨by decide, by decide⟩, _, _, rfl, rfl, rfl, 1 - 2 * c0, by omega, rfl⟩
        · exact ⟨rfl, c0, by omega, rfl⟩
      · rintro σ2 H2 ⟨rfl, c, hc, rfl⟩
        refine ⟨_, rfl, _, _, rfl, rfl, ⟨by decide, by decide, by decide⟩, _, _, rfl, rfl, _, rfl, i_iteD (fun hbig => ?_) (fun hsm => ?_)⟩
        · refine ⟨60, rfl, by decide, by decide, ?_⟩
          refine for_range (lo := 0) (n := 60) (fun j σ3 H3 => ∃ (y6 : Option V) (c : Int) (es : List Int), σ3 = [some (.ref l), some (.int a), some (.int b), some (.ref p), some (.int (a + (i : Int))), some (.int c), y6, y7] ∧ Stp [] H H3 ∧ H3 p = some (.lst (es.map V.int)) ∧ es.length ≤ 60 * i + j)
            ⟨y6, c, ds, rfl, s', hd, by omega⟩ ?_ ?_
          · rintro j σ3 H3 hj ⟨z6, c1, es, rfl, s3, h3, hl3⟩
            refine ⟨_, rfl, _, _, rfl, rfl, _, rfl, i_iteD (fun hpos => ?_) (fun _ => ?_)⟩
            · refine ⟨_, rfl, .inl ⟨rfl, _, SqL.of h3⟩, _, rfl, .inl ⟨_, rfl, _, _, rfl, rfl, (by show (0 : Int) < 1000; decide), _, _, _, rfl, rfl, h3, ?_, ?_⟩⟩
              · rw [List.length_map]; exact Nat.lt_of_le_of_lt (show es.length ≤ 70000 by omega) (by decide)
              · refine ⟨_, rfl, _, _, rfl, rfl, ⟨by decide, by decide⟩, _, _, es ++ [c1 % 1000], rfl, s3.mut hp, ?_, ?_⟩
                · rw [upd_same, map_snoc]
                · rw [List.length_append, List.length_singleton]; omega
            · exact ⟨_, c1, es, rfl, s3, h3, by omega⟩
          · rintro σ3 H3 ⟨z6, c1, es, rfl, s3, h3, hl3⟩
            exact ⟨_, _, _, _, es, rfl, s3, h3, by omega⟩
        · have hc18 : c < 1000000000000000000 := by
            have e : (10 : Int) ^ (18 : Int).toNat = 1000000000000000000 := by decide
            rw [e] at hsm; omega
          refine ⟨_, rfl, _, _, rfl, rfl, .inl ⟨by omega, by omega⟩, _, rfl, _, _, rfl, rfl, .inl ⟨by omega, by omega⟩, _, _, rfl, rfl, _, _, rfl, rfl, .inl ⟨_, rfl, _, _, rfl, rfl, (by show (0 : Int) < 2147483647; decide), ?_⟩⟩
          refine ⟨12, rfl, by decide, by decide, ?_⟩
          refine for_range (lo := 0) (n := 12) (fun j σ3 H3 => ∃ (y6 : Option V) (sd : Int) (es : List Int), σ3 = [some (.ref l), some (.int a), some (.int b), some (.ref p), some (.int (a + (i : Int))), some (.int c), y6, some (.int sd)] ∧ 0 ≤ sd ∧ sd < 2147483647 ∧ Stp [] H H3 ∧ H3 p = some (.lst (es.map V.int)) ∧ es.length ≤ 60 * i + j)
            ⟨y6, _, ds, rfl, Int.emod_nonneg _ (by decide), Int.emod_lt_of_pos _ (by decide), s', hd, by omega⟩ ?_ ?_
          · rintro j σ3 H3 hj ⟨z6, sd, es, rfl, hs0, hs1, s3, h3, hl3⟩
            refine ⟨_, rfl, _, _, rfl, rfl, .inl ⟨by omega, by omega⟩, _, rfl, _, _, rfl, rfl, .inl ⟨by decide, by decide⟩, _, _, rfl, rfl, _, _, rfl, rfl, .inl ⟨_, rfl, _, _, rfl, rfl, (by show (0 : Int) < 2147483647; decide), ?_⟩⟩
            refine ⟨_, rfl, .inl ⟨rfl, _, SqL.of h3⟩, _, rfl, _, _, rfl, rfl, ⟨by decide, by decide⟩, .inl ⟨_, rfl, _, _, rfl, rfl, (by show (0 : Int) < 1000; decide), _, _, _, rfl, rfl, h3, ?_, ?_⟩⟩
            · rw [List.length_map]; exact Nat.lt_of_le_of_lt (show es.length ≤ 70000 by omega) (by decide)
            · refine ⟨_, _, es ++ [(sd * 16807 + 7 * (0 + (j : Int)) + 1) % 2147483647 / 997 % 1000], rfl, Int.emod_nonneg _ (by decide), Int.emod_lt_of_pos _ (by decide), s3.mut hp, ?_, ?_⟩
              · rw [upd_same, map_snoc]
              · rw [List.length_append, List.length_singleton]; omega
          · rintro σ3 H3 ⟨z6, sd, es, rfl, hs0, hs1, s3, h3, hl3⟩
            exact ⟨_, _, _, _, es, rfl, s3, h3, by omega⟩
    · rintro σ H' ⟨y4, y5, y6, y7, ds, rfl, s', hd, hl⟩
      exact ⟨_, rfl, q p ds H' hp hd s'⟩
end

/-! ### names, values -/
abbrev Nm := Int × Int
abbrev nmD (n : Nm) : Dt := .tup [.num n.1, .num n.2]
theorem nmAt {K : PySem.W.Frag} {H : Hp} {v : V} {n : Nm} (h : DtAt K H v (nmD n)) : ∃ a, v = .ref a ∧ TupAt K H a [.int n.1, .int n.2] := by
  cases h with
  | @tup a xs _ h1 h2 =>
    cases h2 with
    | cons r1 t =>
      cases t with
      | cons r2 t =>
        cases t
        cases r1
        cases r2
        exact ⟨a, rfl, h1⟩
theorem nm_mk {K : PySem.W.Frag} {H : Hp} {a : Addr} {n : Nm} (h : H a = some (.tup [.int n.1, .int n.2])) : DtAt K H (.ref a) (nmD n) := .tup (.inl h) (.cons (.num _) (.cons (.num _) .nil))
def okPeer (p : Int) : Bool := decide (0 ≤ p) && decide (p ≤ 7)
def okName (n : Nm) : Bool := okPeer n.1 && (decide (0 ≤ n.2) && decide (n.2 ≤ 4294967295))
structure Con0 (mg : Str → Option Value) : Prop where
  GREATEST_PEER : ∃ t, mg "GREATEST_PEER" = some (.int 7 t)
  GREATEST_COUNT : ∃ t, mg "GREATEST_COUNT" = some (.int 4294967295 t)
  LONGEST_FIELD : ∃ t, mg "LONGEST_FIELD" = some (.int 8 t)
  LONGEST_TEXT : ∃ t, mg "LONGEST_TEXT" = some (.int 20 t)
  LEAST_INTEGER : ∃ t, mg "LEAST_INTEGER" = some (.int (-1000000) t)
  GREATEST_INTEGER : ∃ t, mg "GREATEST_INTEGER" = some (.int 1000000 t)
section
variable {P : Program} {w : World} {K : PySem.W.Frag} {mg : Str → Option Value} {base : Heap}
def spIsPeer : Sp := fun vs H Q _ => ∃ n : Int, vs = [.int n] ∧ Q (.bl (okPeer n)) H
def spIsName (K : PySem.W.Frag) : Sp := fun vs H Q _ => ∃ (v : V) (n : Nm), vs = [v] ∧ DtAt K H v (nmD n) ∧ Q (.bl (okName n)) H
def plainC (c : Nat) : Bool := decide (97 ≤ c) && decide (c ≤ 122)
def plain (z : Str) : Bool := z.cps.toList.all plainC
def spPlain : Sp := fun vs H Q _ => ∃ z : Str, vs = [.str z] ∧ z.length ≤ 1000 ∧ ∀ H1, Stp [] H H1 → Q (.bl (plain z)) H1
end

/-! ### values -/
inductive Va where
  | non
  | num (i : Int)
  | txt (x : Str)
  | tg (s : Str) (n : Nm)
  deriving DecidableEq
def vaD : Va → Dt
  | .non => .non
  | .num i => .num i
  | .txt x => .txt x
  | .tg s n => .tup [.txt s, nmD n]
theorem vaD_flat (x : Va) : (vaD x).flat = true := by cases x <;> simp [vaD, Dt.flat, Dt.flatAll]
theorem vaD_depth (x : Va) : (vaD x).depth ≤ 2 := by cases x <;> simp [vaD, Dt.depth, Dt.depthAll]
theorem vaD_pure (x : Va) : (vaD x).pure = true := by cases x <;> simp [vaD, Dt.pure, Dt.pureAll]
theorem nmD_inj {a b : Nm} (h : nmD a = nmD b) : a = b := by
  injection h with h; injection h with h1 h; injection h with h2 _; injection h1 with h1; injection h2 with h2
  exact Prod.ext h1 h2
theorem vaD_inj {a b : Va} (h : vaD a = vaD b) : a = b := by
  cases a <;> cases b <;> simp only [vaD, Dt.num.injEq, Dt.txt.injEq, Dt.tup.injEq, List.cons.injEq, and_true, reduceCtorEq, Prod.mk.injEq, Va.num.injEq, Va.txt.injEq, Va.tg.injEq] at h ⊢
  · exact h
  · exact h
  · exact ⟨h.1, Prod.ext h.2.1 h.2.2⟩
theorem tgAt {K : PySem.W.Frag} {H : Hp} {v : V} {s : Str} {n : Nm} (h : DtAt K H v (vaD (.tg s n))) : ∃ a b, v = .ref a ∧ TupAt K H a [.str s, .ref b] ∧ DtAt K H (.ref b) (nmD n) := by
  cases h with
  | @tup a xs _ h1 h2 =>
    cases h2 with
    | cons r1 t =>
      cases t with
      | @cons v2 _ _ _ r2 t =>
        cases t
        cases r1
        obtain ⟨b, rfl, hb⟩ := nmAt r2
        exact ⟨a, b, rfl, h1, r2⟩
theorem nonAt {K : PySem.W.Frag} {H : Hp} {v : V} (h : DtAt K H v .non) : v = .non := by cases h; rfl
theorem numAt {K : PySem.W.Frag} {H : Hp} {v : V} {i : Int} (h : DtAt K H v (.num i)) : v = .int i := by cases h; rfl
theorem txtAt {K : PySem.W.Frag} {H : Hp} {v : V} {x : Str} (h : DtAt K H v (.txt x)) : v = .str x := by cases h; rfl
abbrev strRef : Str := Str.ofString "ref"
def okField (z : Str) : Bool := (decide ((1 : Int) ≤ (z.length : Int)) && decide ((z.length : Int) ≤ 8)) && plain z
def okRef : Va → Bool
  | .tg s n => decide (s = strRef) && okName n
  | _ => false
def okVa : Va → Bool
  | .non => true
  | .num i => decide (-1000000 ≤ i) && decide (i ≤ 1000000)
  | .txt z => decide ((z.length : Int) ≤ 20) && plain z
  | .tg s n => decide (s = strRef) && okName n
/-- texts that can be measured -/
def smallVa : Va → Prop
  | .txt z => z.length ≤ 1000
  | _ => True
section
variable {P : Program} {w : World} {K : PySem.W.Frag} {mg : Str → Option Value} {base : Heap}
def spIsField : Sp := fun vs H Q _ => ∃ z : Str, vs = [.str z] ∧ z.length ≤ 1000 ∧ ∀ H1, Stp [] H H1 → Q (.bl (okField z)) H1
def spReference (K : PySem.W.Frag) : Sp := fun vs H Q _ => ∃ (v : V) (n : Nm), vs = [v] ∧ DtAt K H v (nmD n) ∧ ∀ u H1, Stp [] H H1 → DtAt K H1 u (vaD (.tg strRef n)) → Q u H1
theorem cal_reference (F : Df K mg d_reference) : Cal P w K mg base lv_reference "reference" ["name"] (spReference K) := by
  obtain ⟨f, fd, F, g⟩ := F
  refine ⟨f, fd, F.ok sc_reference (fun vs H Q E h => ?_) (fun cdv A outer s H vs Q E hr h => ⟨_, PSs.nox
    (pss_one (ps_ret (pe_tup (pa_cons pe_str (pa_cons (pv 0) pa_nil))))), ?_⟩), g, F.kp, F.bindsN fun _ _ _ _ _ _ us hl => match us, hl with | [_], _ => rfl⟩
  · obtain ⟨v, n, rfl, _⟩ := h
    rfl
  · obtain ⟨v, n, rfl, hn, q⟩ := h
    repeat walk_at "g"
    refine ⟨(by decide : 2 ≤ sizeLine), fun p hp => ?_⟩
    have s1 : Stp [] H (upd H p (.tup [.str strRef, v])) := .new hp
    exact q _ _ s1 (.tup (.inl upd_same) (.cons (.txt _) (.cons (DtAt.stp s1 _ _ rfl hn) .nil)))
def spIsRef (K : PySem.W.Frag) : Sp := fun vs H Q _ => ∃ (v : V) (x : Va), vs = [v] ∧ DtAt K H v (vaD x) ∧ Q (.bl (okRef x)) H
def spTarget (K : PySem.W.Frag) : Sp := fun vs H Q _ => ∃ (v : V) (x : Va), vs = [v] ∧ DtAt K H v (vaD x) ∧ ∀ u, (okRef x = false → u = .non) → (∀ s n, x = .tg s n → okRef x = true → DtAt K H u (nmD n)) → Q u H
def spIsValue (K : PySem.W.Frag) : Sp := fun vs H Q _ => ∃ (v : V) (x : Va), vs = [v] ∧ DtAt K H v (vaD x) ∧ smallVa x ∧ ∀ H1, Stp [] H H1 → Q (.bl (okVa x)) H1
end

/-! ### stamps, changes -/
structure Con1 (mg : Str → Option Value) : Prop where
  GREATEST_CLOCK : ∃ t, mg "GREATEST_CLOCK" = some (.int 4294967295 t)
def okStamp (n : Nm) : Bool := (decide (1 ≤ n.1) && decide (n.1 ≤ 4294967295)) && okPeer n.2
structure Ch where
  st : Nm
  nm : Nm
  fd : Str
  va : Va
  deriving DecidableEq
def chD (c : Ch) : Dt := .tup [nmD c.st, nmD c.nm, .txt c.fd, vaD c.va]
theorem chD_flat (c : Ch) : (chD c).flat = true := by simp [chD, Dt.flat, Dt.flatAll, vaD_flat]
theorem chD_pure (c : Ch) : (chD c).pure = true := by simp [chD, Dt.pure, Dt.pureAll, vaD_pure]
theorem chD_depth (c : Ch) : (chD c).depth ≤ 3 := by
  have := vaD_depth c.va
  simp [chD, Dt.depth, Dt.depthAll]; omega
theorem chD_inj {a b : Ch} (h : chD a = chD b) : a = b := by
  obtain ⟨s1, n1, f1, v1⟩ := a
  obtain ⟨s2, n2, f2, v2⟩ := b
  simp only [chD, Dt.tup.injEq, List.cons.injEq, and_true, Dt.num.injEq, Dt.txt.injEq] at h
  obtain ⟨⟨h1, h2⟩, ⟨h3, h4⟩, h5, h6⟩ := h
  have e1 : s1 = s2 := Prod.ext h1 h2
  have e2 : n1 = n2 := Prod.ext h3 h4
  rw [e1, e2, h5, vaD_inj h6]
theorem chAt {K : PySem.W.Frag} {H : Hp} {v : V} {c : Ch} (h : DtAt K H v (chD c)) : ∃ a s n x, v = .ref a ∧ TupAt K H a [s, n, .str c.fd, x] ∧ DtAt K H s (nmD c.st) ∧ DtAt K H n (nmD c.nm) ∧ DtAt K H x (vaD c.va) := by
  cases h with
  | @tup a xs _ h1 h2 =>
    cases h2 with
    | cons r1 t =>
      cases t with
      | cons r2 t =>
        cases t with
        | cons r3 t =>
          cases t with
          | cons r4 t =>
            cases t
            cases r3
            exact ⟨a, _, _, _, rfl, h1, r1, r2, r4⟩
theorem ch_mk {K : PySem.W.Frag} {H : Hp} {a : Addr} {s n x : V} {c : Ch} (h : TupAt K H a [s, n, .str c.fd, x]) (h1 : DtAt K H s (nmD c.st)) (h2 : DtAt K H n (nmD c.nm)) (h3 : DtAt K H x (vaD c.va)) : DtAt K H (.ref a) (chD c) :=
  .tup h (.cons h1 (.cons h2 (.cons (.txt _) (.cons h3 .nil))))
def okChange (c : Ch) : Bool := okStamp c.st && (okName c.nm && (okField c.fd && okVa c.va))
section
variable {P : Program} {w : World} {K : PySem.W.Frag} {mg : Str → Option Value} {base : Heap}
def spIsStamp (K : PySem.W.Frag) : Sp := fun vs H Q _ => ∃ (v : V) (n : Nm), vs = [v] ∧ DtAt K H v (nmD n) ∧ Q (.bl (okStamp n)) H
def spIsChange (K : PySem.W.Frag) : Sp := fun vs H Q _ => ∃ (v : V) (c : Ch), vs = [v] ∧ DtAt K H v (chD c) ∧ c.fd.length ≤ 1000 ∧ smallVa c.va ∧ ∀ H1, Stp [] H H1 → Q (.bl (okChange c)) H1
end

/-! ### drawn names, fields, values -/
section
variable {P : Program} {w : World} {K : PySem.W.Frag} {mg : Str → Option Value} {base : Heap}
/-- the names that are drawn -/
def drawnNm (n : Nm) : Prop := (0 ≤ n.1 ∧ n.1 < 3) ∧ (0 ≤ n.2 ∧ n.2 < 3)
def spName (K : PySem.W.Frag) : Sp := fun vs H Q _ => ∃ (b dg : Addr), vs = [.ref b] ∧ Box K b dg H ∧
  ∀ (v : V) (n : Nm) (H1 : Hp), drawnNm n → DtAt K H1 v (nmD n) → Stp [b] H H1 → Box K b dg H1 → Q v H1
theorem cal_name (F : Df K mg d_law_name) (C_law_draw : Cal P w K mg base lv_law_draw "_law_draw" ["box", "many"] (spDraw K)) : Cal P w K mg base lv_law_name "_law_name" ["box"] (spName K) := by
  obtain ⟨f, fd, F, g⟩ := F
  refine ⟨f, fd, F.ok sc_law_name (fun vs H Q E h => ?_) (fun cdv A outer s H vs Q E hr h => ⟨_, PSs.nox
    (pss_one (ps_ret (pe_tup (pa_cons (pc_call C_law_draw (hr.mono (by decide)) (by rfl) (pa_cons (pv 0) (pa_cons pe_int pa_nil))) (pa_cons (pc_call C_law_draw (hr.mono (by decide)) (by rfl) (pa_cons (pv 0) (pa_cons pe_int pa_nil))) pa_nil))))), ?_⟩), g, F.kp, F.bindsN fun _ _ _ _ _ _ us hl => match us, hl with | [_], _ => rfl⟩
  · obtain ⟨b, dg, rfl, _⟩ := h
    rfl
  · obtain ⟨b, dg, rfl, hb, q⟩ := h
    repeat walk_at "g"
    refine ⟨b, dg, 3, rfl, by decide, hb, fun x H1 x0 x1 s1 b1 => ?_⟩
    repeat walk_at "g"
    refine ⟨b, dg, 3, rfl, by decide, b1, fun y H2 y0 y1 s2 b2 => ?_⟩
    repeat walk_at "g"
    refine ⟨(by decide : 2 ≤ sizeLine), fun p hp => ?_⟩
    have s3 : Stp [] H2 (upd H2 p (.tup [.int x, .int y])) := .new hp
    exact q _ (x, y) _ ⟨⟨x0, x1⟩, y0, y1⟩ (nm_mk upd_same) ((s1.trans s2).trans (s3.mono (by simp))) (b2.grow s3)
/-- an item of a written list at a drawn place -/
theorem pick {xs : List V} {d : Int} (h0 : 0 ≤ d) (h1 : d < (xs.length : Int)) : ∃ v, atI xs d = some v ∧ v ∈ xs := by
  have hl : d.toNat < xs.length := by omega
  exact ⟨xs[d.toNat], at_of (j := d.toNat) (by omega) (List.getElem?_eq_getElem hl), List.getElem_mem hl⟩
def fieldsV : List Str := [Str.ofString "a", Str.ofString "b", Str.ofString "ab", Str.ofString "next", Str.ofString "zzzzzzzz"]
def spField (K : PySem.W.Frag) : Sp := fun vs H Q _ => ∃ (b dg : Addr), vs = [.ref b] ∧ Box K b dg H ∧
  ∀ (z : Str) (H1 : Hp), z ∈ fieldsV → Stp [b] H H1 → Box K b dg H1 → Q (.str z) H1
theorem cal_field (F : Df K mg d_law_field) (C_law_draw : Cal P w K mg base lv_law_draw "_law_draw" ["box", "many"] (spDraw K)) : Cal P w K mg base lv_law_field "_law_field" ["box"] (spField K) := by
  obtain ⟨f, fd, F, g⟩ := F
  refine ⟨f, fd, F.ok sc_law_field (fun vs H Q E h => ?_) (fun cdv A outer s H vs Q E hr h => ⟨_, PSs.nox
    (pss_one (ps_ret (pe_ix (ix_listK (K := K) rfl) (pe_lst (pa_cons pe_str (pa_cons pe_str (pa_cons pe_str (pa_cons pe_str (pa_cons pe_str pa_nil)))))) (pc_call C_law_draw (hr.mono (by decide)) (by rfl) (pa_cons (pv 0) (pa_cons pe_int pa_nil))) (fun _ _ => rfl)))), ?_⟩), g, F.kp, F.bindsN fun _ _ _ _ _ _ us hl => match us, hl with | [_], _ => rfl⟩
  · obtain ⟨b, dg, rfl, _⟩ := h
    rfl
  · obtain ⟨b, dg, rfl, hb, q⟩ := h
    repeat walk_at "g"
    refine ⟨(by decide : 5 ≤ sizeLine), fun p hp => ?_⟩
    have s0 : Stp [] H (upd H p (.lst (fieldsV.map V.str))) := .new hp
    repeat walk_at "g"
    refine ⟨b, dg, 5, rfl, by decide, hb.grow s0, fun x H1 x0 x1 s1 b1 => ?_⟩
    have pb : p ∉ [b] := by
      obtain ⟨⟨z, e, _⟩, _, _⟩ := hb
      simp
      exact fun z => by rw [z, e] at hp; cases hp
    have hl : H1 p = some (.lst (fieldsV.map V.str)) := s1.keep _ _ upd_same pb
    obtain ⟨v, hv, hm⟩ := pick (xs := fieldsV.map V.str) x0 (by simpa [fieldsV] using x1)
    obtain ⟨z, hz, rfl⟩ := List.mem_map.mp hm
    refine i_IxL (SqL.of hl) hv ?_
    exact q z H1 hz ((s0.mono (by simp)).trans s1) b1
def numsV : List Int := [0, -1, 7, 1000000, -1000000, 255, 256]
def textsV : List Str := [Str.ofString "", Str.ofString "x", Str.ofString "abz", Str.ofString "abcdefghijklmnopqrst"]
/-- the values that are drawn -/
def drawnVa : Va → Prop
  | .non => True
  | .num i => i ∈ numsV
  | .txt z => z ∈ textsV
  | .tg s n => s = strRef ∧ drawnNm n
def spWorth (K : PySem.W.Frag) : Sp := fun vs H Q _ => ∃ (b dg : Addr), vs = [.ref b] ∧ Box K b dg H ∧
  ∀ (v : V) (x : Va) (H1 : Hp), drawnVa x → DtAt K H1 v (vaD x) → Stp [b] H H1 → Box K b dg H1 → Q v H1
theorem cal_worth (F : Df K mg d_law_worth) (C_law_draw : Cal P w K mg base lv_law_draw "_law_draw" ["box", "many"] (spDraw K)) (C_law_name : Cal P w K mg base lv_law_name "_law_name" ["box"] (spName K)) : Cal P w K mg base lv_law_worth "_law_worth" ["box"] (spWorth K) := by
  obtain ⟨f, fd, F, g⟩ := F
  refine ⟨f, fd, F.ok sc_law_worth (fun vs H Q E h => ?_) (fun cdv A outer s H vs Q E hr h => ⟨_, PSs.nox
    (pss_cons (ps_set (i := 1) sc_law_worth.nd rfl (Or.inl rfl) (pc_call C_law_draw (hr.mono (by decide)) (by rfl) (pa_cons (pv 0) (pa_cons pe_int pa_nil))))
    (pss_cons (ps_if (pt_cmpR op_eq (pv 1) pe_int (nomark _))
      (pss_one (ps_ret pe_non))
      pss_nil)
    (pss_cons (ps_if (pt_cmpR op_eq (pv 1) pe_int (nomark _))
      (pss_one (ps_ret (pe_ix (ix_listK (K := K) rfl) (pe_lst (pa_cons pe_int (pa_cons (pe_un un_neg pe_int) (pa_cons pe_int (pa_cons pe_int (pa_cons (pe_un un_neg pe_int) (pa_cons pe_int (pa_cons pe_int pa_nil)))))))) (pc_call C_law_draw (hr.mono (by decide)) (by rfl) (pa_cons (pv 0) (pa_cons pe_int pa_nil))) (fun _ _ => rfl))))
      pss_nil)
    (pss_cons (ps_if (pt_cmpR op_eq (pv 1) pe_int (nomark _))
      (pss_one (ps_ret (pe_ix (ix_listK (K := K) rfl) (pe_lst (pa_cons pe_str (pa_cons pe_str (pa_cons pe_str (pa_cons pe_str pa_nil))))) (pc_call C_law_draw (hr.mono (by decide)) (by rfl) (pa_cons (pv 0) (pa_cons pe_int pa_nil))) (fun _ _ => rfl))))
      pss_nil)
    (pss_one (ps_ret (pe_tup (pa_cons pe_str (pa_cons (pc_call C_law_name (hr.mono (by decide)) (by rfl) (pa_cons (pv 0) pa_nil)) pa_nil))))))))), ?_⟩), g, F.kp, F.bindsN fun _ _ _ _ _ _ us hl => match us, hl with | [_], _ => rfl⟩
  · obtain ⟨b, dg, rfl, _⟩ := h
    rfl
  · obtain ⟨b, dg, rfl, hb, q⟩ := h
    have nb : ∀ {p : Addr}, H p = none → p ∉ [b] := fun {p} hp => by
      obtain ⟨⟨z, e, _⟩, _, _⟩ := hb
      simp
      exact fun z => by rw [z, e] at hp; cases hp
    repeat walk_at "g"
    refine ⟨b, dg, 6, rfl, by decide, hb, fun k H1 k0 k1 s1 b1 => ?_⟩
    have nb1 : ∀ {p : Addr}, H1 p = none → p ∉ [b] := fun {p} hp => by
      obtain ⟨⟨z, e, _⟩, _, _⟩ := b1
      simp
      exact fun z => by rw [z, e] at hp; cases hp
    repeat walk_at "g"
    refine i_iteD (fun h1 => ?_) (fun h1 => ?_)
    · repeat walk_at "g"
      exact q _ .non H1 trivial .non s1 b1
    · repeat walk_at "g"
      refine i_iteD (fun h2 => ?_) (fun h2 => ?_)
      · repeat walk_at "g"
        refine ⟨(by decide : 7 ≤ sizeLine), fun p hp => ?_⟩
        have s2 : Stp [] H1 (upd H1 p (.lst (numsV.map V.int))) := .new hp
        repeat walk_at "g"
        refine ⟨b, dg, 7, rfl, by decide, b1.grow s2, fun x H2 x0 x1 s3 b3 => ?_⟩
        have hl : H2 p = some (.lst (numsV.map V.int)) := s3.keep _ _ upd_same (nb1 hp)
        obtain ⟨v, hv, hm⟩ := pick (xs := numsV.map V.int) x0 (by simpa [numsV] using x1)
        obtain ⟨i, hi, rfl⟩ := List.mem_map.mp hm
        refine i_IxL (SqL.of hl) hv ?_
        exact q _ (.num i) H2 hi (.num _) ((s1.trans (s2.mono (by simp))).trans s3) b3
      · repeat walk_at "g"
        refine i_iteD (fun h3 => ?_) (fun h3 => ?_)
        · repeat walk_at "g"
          refine ⟨(by decide : 4 ≤ sizeLine), fun p hp => ?_⟩
          have s2 : Stp [] H1 (upd H1 p (.lst (textsV.map V.str))) := .new hp
          repeat walk_at "g"
          refine ⟨b, dg, 4, rfl, by decide, b1.grow s2, fun x H2 x0 x1 s3 b3 => ?_⟩
          have hl : H2 p = some (.lst (textsV.map V.str)) := s3.keep _ _ upd_same (nb1 hp)
          obtain ⟨v, hv, hm⟩ := pick (xs := textsV.map V.str) x0 (by simpa [textsV] using x1)
          obtain ⟨z, hz, rfl⟩ := List.mem_map.mp hm
          refine i_IxL (SqL.of hl) hv ?_
          exact q _ (.txt z) H2 hz (.txt _) ((s1.trans (s2.mono (by simp))).trans s3) b3
        · repeat walk_at "g"
          refine ⟨b, dg, rfl, b1, fun v n H2 hn hv s2 b2 => ?_⟩
          repeat walk_at "g"
          refine ⟨(by decide : 2 ≤ sizeLine), fun p hp => ?_⟩
          have s3 : Stp [] H2 (upd H2 p (.tup [.str strRef, v])) := .new hp
          exact q _ (.tg strRef n) _ ⟨rfl, hn⟩ (.tup (.inl upd_same) (.cons (.txt _) (.cons (DtAt.stp s3 _ _ rfl hv) .nil))) ((s1.trans s2).trans (s3.mono (by simp))) (b2.grow s3)
end

/-! ### drawn rows of changes, mixed -/
section
variable {P : Program} {w : World} {K : PySem.W.Frag} {mg : Str → Option Value} {base : Heap}
def drawnCh (c : Ch) : Prop := (1 ≤ c.st.1 ∧ c.st.1 ≤ 1000) ∧ (0 ≤ c.st.2 ∧ c.st.2 < 3) ∧ drawnNm c.nm ∧ c.fd ∈ fieldsV ∧ drawnVa c.va
theorem dts_map {cs : List Ch} {c : Ch} {vs : List V} {v : V} {H : Hp} (h : DtsAt K H vs (cs.map chD)) (k : DtAt K H v (chD c)) : DtsAt K H (vs ++ [v]) ((cs ++ [c]).map chD) := by
  rw [List.map_append]; exact h.append (.cons k .nil)
theorem chs_stp {cs : List Ch} {vs : List V} {H H1 : Hp} {M : List Addr} (h : DtsAt K H vs (cs.map chD)) (s : Stp M H H1) : DtsAt K H1 vs (cs.map chD) :=
  DtsAt.stp s _ _ (by
    induction cs with
    | nil => rfl
    | cons c cs ih => 
      rw [List.map_cons, Dt.flatAll, chD_flat]
      have : Dt.flatAll (cs.map chD) = true := by
        clear ih h
        induction cs with
        | nil => rfl
        | cons c cs ih => rw [List.map_cons, Dt.flatAll, chD_flat, ih]; rfl
      rw [this]; rfl) h
theorem ch_get {cs : List Ch} {vs : List V} {H : Hp} {i : Nat} {v : V} (h : DtsAt K H vs (cs.map chD)) (e : vs[i]? = some v) : ∃ c, cs[i]? = some c ∧ DtAt K H v (chD c) := by
  obtain ⟨d, h1, h2⟩ := h.getV e
  rw [List.getElem?_map] at h1
  obtain ⟨c, hc, rfl⟩ := Option.map_eq_some_iff.mp h1
  exact ⟨c, hc, h2⟩
/-- the table of changes by their stamps -/
def TbOk (K : PySem.W.Frag) (H : Hp) (kvs : List NKV) : Prop := (kvs.map (·.1)).Nodup ∧ ∀ p ∈ kvs, ∃ c, drawnCh c ∧ p.1 = (nmD c.st).key ∧ DtAt K H p.2 (chD c)
theorem TbOk.stp {H H1 : Hp} {M : List Addr} {kvs : List NKV} (h : TbOk K H kvs) (s : Stp M H H1) : TbOk K H1 kvs := ⟨h.1, fun p hp => let ⟨c, a, b, x⟩ := h.2 p hp; ⟨c, a, b, DtAt.stp s _ _ (chD_flat c) x⟩⟩
theorem TbOk.put {H : Hp} {kvs : List NKV} {c : Ch} {v : V} (h : TbOk K H kvs) (hc : drawnCh c) (hv : DtAt K H v (chD c)) : TbOk K H (putK kvs (nmD c.st).key v) :=
  ⟨putK_nd h.1, fun p hp => by
    rcases putK_mem hp with rfl | ⟨hp, _⟩
    · exact ⟨c, hc, rfl, hv⟩
    · exact h.2 p hp⟩
def spChanges (K : PySem.W.Frag) : Sp := fun vs H Q _ => ∃ (b dg : Addr) (most : Int), vs = [.ref b, .int most] ∧ 0 ≤ most ∧ most ≤ 100 ∧ Box K b dg H ∧
  ∀ (p : Addr) (ws : List V) (cs : List Ch) (H1 : Hp), H p = none → H1 p = some (.lst ws) → DtsAt K H1 ws (cs.map chD) → (∀ c ∈ cs, drawnCh c) → (cs.map Ch.st).Nodup → (cs.length : Int) ≤ most → Stp [b] H H1 → Box K b dg H1 → Q (.ref p) H1
theorem cal_law_changes (F : Df K mg d_law_changes) (B : Blt mg) (C_law_draw : Cal P w K mg base lv_law_draw "_law_draw" ["box", "many"] (spDraw K)) (C_law_name : Cal P w K mg base lv_law_name "_law_name" ["box"] (spName K)) (C_law_field : Cal P w K mg base lv_law_field "_law_field" ["box"] (spField K)) (C_law_worth : Cal P w K mg base lv_law_worth "_law_worth" ["box"] (spWorth K)) : Cal P w K mg base lv_law_changes "_law_changes" ["box", "most"] (spChanges K) := by
  obtain ⟨f, fd, F, g⟩ := F
  refine ⟨f, fd, F.ok sc_law_changes (fun vs H Q E h => ?_) (fun cdv A outer s H vs Q E hr h => ⟨_, PSs.nox
    (pss_cons (ps_set (i := 2) sc_law_changes.nd rfl (Or.inl rfl) (pe_lst pa_nil))
    (pss_cons (ps_for PassesOwn.never rfl (pi_range1 rfl B.range (pa_cons (pc_call C_law_draw (hr.mono (by decide)) (by rfl) (pa_cons (pv 0) (pa_cons (pe_op op_add (pv 1) pe_int) pa_nil))) pa_nil)) (pg_name (i := 3) sc_law_changes.nd rfl (Or.inl rfl))
      (pss_one (ps_expr (pe_bm PySem.F.plainAttrs_list PySem.F.slot_list_append PySem.F.type_list_append mt_append (pv 2) (pa_cons (pe_tup (pa_cons (pe_tup (pa_cons (pe_op op_add (pe_op op_add (pv 3) pe_int) (pe_op op_mul (pe_op op_mul pe_int (pc_call C_law_draw (hr.mono (by decide)) (by rfl) (pa_cons (pv 0) (pa_cons pe_int pa_nil)))) (pv 1))) (pa_cons (pc_call C_law_draw (hr.mono (by decide)) (by rfl) (pa_cons (pv 0) (pa_cons pe_int pa_nil))) pa_nil))) (pa_cons (pc_call C_law_name (hr.mono (by decide)) (by rfl) (pa_cons (pv 0) pa_nil)) (pa_cons (pc_call C_law_field (hr.mono (by decide)) (by rfl) (pa_cons (pv 0) pa_nil)) (pa_cons (pc_call C_law_worth (hr.mono (by decide)) (by rfl) (pa_cons (pv 0) pa_nil)) pa_nil))))) pa_nil)))))
    (pss_cons (ps_set (i := 4) sc_law_changes.nd rfl (Or.inr rfl) pe_dnewN)
    (pss_cons (ps_for PassesOwn.never rfl (pi_list (pv 2)) (pg_name (i := 5) sc_law_changes.nd rfl (Or.inl rfl))
      (pss_one (ps_nput hr (pv 4) (pe_ix (ix_tupK (K := K) rfl) (pv 5) pe_int (fun _ _ => rfl)) (pv 5) rfl)))
    (pss_one (ps_ret (pe_lock (pe_lc (own := [("stamp", 6)]) (g := gName 6) (by rfl) sc_law_changes.nd (pi_n (pv 4)) (blkOk_by (N := ["box", "most", "changes", "k", "table", "change", "stamp"]) (own := [("stamp", 6)]) (sc := defScope s_law_changes) (by decide +kernel)) (fun _ _ _ _ _ => (pg_name (i := 6) sc_law_changes.nd rfl (Or.inl rfl))) (fun _ _ _ _ _ => pts_nil) (fun _ _ _ _ _ => (pe_ngetK (P := P) (w := w) (K := K) rfl rfl rfl hr (pv 4) (pv 6) (fun _ _ => rfl))))))))))), ?_⟩), g, F.kp, F.bindsN fun _ _ _ _ _ _ us hl => match us, hl with | [_, _], _ => rfl⟩
  · obtain ⟨b, dg, most, rfl, _⟩ := h
    rfl
  · obtain ⟨b, dg, most, rfl, m0, m1, hb, q⟩ := h
    repeat walk_at "g"
    refine ⟨Nat.zero_le _, fun p hp => ?_⟩
    have s0 : Stp [] H (upd H p (.lst [])) := .new hp
    repeat walk_at "g"
    refine ⟨b, dg, most + 1, rfl, by omega, hb.grow s0, fun n H1 n0 n1 s1 b1 => ?_⟩
    repeat walk_at "g"
    have nb : p ∉ [b] := hb.nin hp
    refine ⟨n, rfl, by omega, by omega, ?_⟩
    refine for_range (lo := 0) (n := n.toNat) (fun i σ H' => ∃ (y3 y4 y5 y6 : Option V) (ws : List V) (cs : List Ch), σ = [some (.ref b), some (.int most), some (.ref p), y3, y4, y5, y6] ∧ Stp [b] H H' ∧ Box K b dg H' ∧ H' p = some (.lst ws) ∧ DtsAt K H' ws (cs.map chD) ∧ (∀ c ∈ cs, drawnCh c) ∧ cs.length = i)
      ⟨none, none, none, none, [], [], rfl, (s0.mono (by simp)).trans s1, b1, s1.keep _ _ upd_same nb, .nil, by simp, rfl⟩ ?_ ?_
    · rintro i σ H2 hi ⟨y3, y4, y5, y6, ws, cs, rfl, s2, b2, h2, d2, c2, l2⟩
      repeat walk_at "g"
      refine ⟨.inl ⟨rfl, _, SqL.of h2⟩, ?_⟩
      repeat walk_at "g"
      refine ⟨b, dg, 2, rfl, by decide, b2, fun e H3 e0 e1 s3 b3 => ?_⟩
      repeat walk_at "g"
      refine ⟨b, dg, 3, rfl, by decide, b3, fun e2 H4 e20 e21 s4 b4 => ?_⟩
      repeat walk_at "g"
      refine ⟨(by decide : 2 ≤ sizeLine), fun t ht => ?_⟩
      have s5 : Stp [] H4 (upd H4 t (.tup [.int (0 + (i : Int) + 1 + 3 * e * most), .int e2])) := .new ht
      repeat walk_at "g"
      refine ⟨b, dg, rfl, b4.grow s5, fun v1 nm H5 hn1 hv1 s6 b6 => ?_⟩
      repeat walk_at "g"
      refine ⟨b, dg, rfl, b6, fun z H6 hz s7 b7 => ?_⟩
      repeat walk_at "g"
      refine ⟨b, dg, rfl, b7, fun v2 va H7 hva hv2 s8 b8 => ?_⟩
      repeat walk_at "g"
      refine ⟨(by decide : 4 ≤ sizeLine), fun u hu => ?_⟩
      have s9 : Stp [] H7 (upd H7 u (.tup [.ref t, v1, .str z, v2])) := .new hu
      repeat walk_at "g"
      have se : 0 + (i : Int) + 1 + 3 * e * most ≤ 1000 ∧ 1 ≤ 0 + (i : Int) + 1 + 3 * e * most := by
        rcases (show e = 0 ∨ e = 1 by omega) with rfl | rfl <;> omega
      have st : Stp [b] H2 (upd H7 u (.tup [.ref t, v1, .str z, v2])) := ((((((s3.trans s4).trans (s5.mono (by simp))).trans s6).trans s7).trans s8).trans (s9.mono (by simp)))
      have hs : DtAt K (upd H7 u (.tup [.ref t, v1, .str z, v2])) (.ref t) (nmD (0 + (i : Int) + 1 + 3 * e * most, e2)) := DtAt.stp ((((s6.trans s7).trans s8).trans (s9.mono (by simp)))) _ _ rfl (nm_mk upd_same)
      have hc : DtAt K (upd H7 u (.tup [.ref t, v1, .str z, v2])) (.ref u) (chD ⟨(0 + (i : Int) + 1 + 3 * e * most, e2), nm, z, va⟩) :=
        ch_mk (c := ⟨(0 + (i : Int) + 1 + 3 * e * most, e2), nm, z, va⟩) (.inl upd_same) hs (DtAt.stp ((s7.trans s8).trans (s9.mono (by simp))) _ _ rfl hv1) (DtAt.stp (s9.mono (M' := [b]) (by simp)) _ _ (vaD_flat va) hv2)
      have hp9 := st.keep _ _ h2 nb
      refine ⟨p, ws, .ref u, rfl, rfl, hp9, ?_, ?_⟩
      · have := d2.length
        rw [List.length_map] at this
        exact Nat.lt_of_le_of_lt (show ws.length ≤ 1000 by omega) (by decide)
      · have sp : Stp [p] (upd H7 u (.tup [.ref t, v1, .str z, v2])) (upd (upd H7 u (.tup [.ref t, v1, .str z, v2])) p (.lst (ws ++ [.ref u]))) := .wr (by simp) hp9 fun _ z => nomatch z
        refine ⟨_, y4, y5, y6, ws ++ [.ref u], cs ++ [⟨(0 + (i : Int) + 1 + 3 * e * most, e2), nm, z, va⟩], rfl, (s2.trans st).into hp (sp.mono (by simp)), ?_, upd_same, ?_, ?_, ?_⟩
        · exact hb.off (M := []) (b8.grow s9) hp sp
        · exact dts_map (chs_stp (chs_stp d2 st) sp) (DtAt.stp sp _ _ (chD_flat _) hc)
        · intro c hcm
          rcases List.mem_append.mp hcm with h | h
          · exact c2 c h
          · rw [List.mem_singleton] at h
            subst h
            exact ⟨⟨se.2, se.1⟩, ⟨e20, e21⟩, hn1, hz, hva⟩
        · rw [List.length_append, l2]; rfl
    · rintro σ H2 ⟨y3, y4, y5, y6, ws, cs, rfl, s2, b2, h2, d2, c2, l2⟩
      repeat walk_at "g"
      intro t H3 nt h3 s3
      repeat walk_at "g"
      have nt0 : H t = none := s2.free nt (b2.nin nt)
      have pt : p ≠ t := fun z => by rw [z, nt] at h2; cases h2
      have nbt : t ∉ [b] := b2.nin nt
      have h3p := s3.keep _ _ h2 (by simp)
      refine ⟨p, rfl, ⟨ws, SqL.of h3p⟩, ?_⟩
      have s23 := s2.trans (s3.mono (M' := [b]) (by simp))
      have wl : ws.length = cs.length := by have := d2.length; rwa [List.length_map] at this
      refine for_list (xs := ws) (fun i σ H' => ∃ (y3 y5 y6 : Option V) (kvs : List NKV), σ = [some (.ref b), some (.int most), some (.ref p), y3, some (.ref t), y5, y6] ∧ Stp [b] H H' ∧ Box K b dg H' ∧ H' p = some (.lst ws) ∧ DtsAt K H' ws (cs.map chD) ∧ ND P w K H' t kvs ∧ TbOk K H' kvs ∧ kvs.length ≤ i)
        ⟨y3, y5, y6, [], rfl, s23, b2.grow s3, h3p, chs_stp d2 s3, h3, ⟨List.nodup_nil, fun p hp => nomatch hp⟩, Nat.le_refl _⟩ (fun i σ H' _ ⟨_, _, _, _, _, _, _, h, _⟩ => SqL.of h) ?_ ?_
      · rintro i x σ H4 hx ⟨z3, z5, z6, kvs, rfl, s4, b4, h4, d4, n4, t4, l4⟩
        repeat walk_at "g"
        obtain ⟨c, hc, dc⟩ := ch_get d4 hx
        obtain ⟨a, s, n, v, rfl, ha, hs, hn, hv⟩ := chAt dc
        refine i_IxT ha.sqt (at_of (j := 0) rfl rfl) ?_
        obtain ⟨sa, rfl, _⟩ := nmAt hs
        refine ⟨t, sa, kvs, (nmD c.st).key, rfl, rfl, n4, KyAt.of hs, ?_, fun H5 n5 s5 _ => ?_⟩
        · have hi : i < ws.length := (List.getElem?_eq_some_iff.mp hx).1
          exact Nat.lt_of_le_of_lt (show kvs.length ≤ 1000 by omega) (by decide)
        · refine ⟨_, _, _, _, rfl, ?_, ?_, ?_, chs_stp d4 s5, n5, (t4.stp s5).put (c2 c (List.mem_of_getElem? hc)) (DtAt.stp s5 _ _ (chD_flat c) dc), ?_⟩
          · exact (s4.into (H0 := H) (p := t) nt0 (s5.mono (by simp)))
          · exact b2.off (M := []) b4 nt s5
          · exact s5.keep _ _ h4 (by simpa using pt)
          · have := length_putK kvs (nmD c.st).key (V.ref a); omega
      · rintro σ H4 ⟨z3, z5, z6, kvs, rfl, s4, b4, h4, d4, n4, t4, l4⟩
        repeat walk_at "g"
        refine lockE_nd n4 fun o xs hx kx ex => ?_
        have tx : ∀ ys, ndO P w t xs ≠ .tup ys := ndO_nt
        have s5 : Stp [t] H4 (upd H4 t (.frz o (ndO P w t xs))) := Stp.lock (M := []) ex tx
        repeat walk_at "g"
        refine ⟨t, o, xs, rfl, upd_same, fun r hr0 => ?_⟩
        have tr : t ≠ r := fun z => by rw [← z, upd_same] at hr0; cases hr0
        have hr4 : H4 r = none := by rw [upd_ne tr.symm] at hr0; exact hr0
        have s6 : Stp [t] H4 (upd (upd H4 t (.frz o (ndO P w t xs))) r (.lst [])) := s5.trans (.new hr0)
        refine lc_n (xs := xs) (fun i H' => ∃ (acc : List V) (es : List Ch), H' t = some (.frz o (ndO P w t xs)) ∧ Stp [t] H4 H' ∧ H' r = some (.lst acc) ∧ DtsAt K H' acc (es.map chD) ∧ (∀ c ∈ es, drawnCh c) ∧ es.map (fun c => (nmD c.st).key) = (kvs.map (·.1)).take i ∧ acc.length = i)
          ⟨[], [], by rw [upd_ne tr]; exact upd_same, s6, upd_same, .nil, by simp, by simp, rfl⟩ (fun i H' _ ⟨_, _, h, _⟩ => h) ?_ ?_
        · rintro i x H5 hxi ⟨acc, es, e5, s7, r5, d5, c5, k5, l5⟩
          repeat walk_at "g"
          refine ⟨rfl, i_Yes ?_⟩
          refine i_ite (fun _ => ?_) (fun z => nomatch z)
          repeat walk_at "g"
          have hxk := plainX_at hxi
          rw [hx] at hxk
          have hm := List.mem_of_getElem? hxk
          obtain ⟨c, dc, ck, hc⟩ := t4.2 _ hm
          refine ⟨t, x.2.1, kvs, x.1, x.2.2, rfl, rfl, ?_, (kx.stp s7) x (List.mem_of_getElem? hxi), valV_of t4.1 hm, acc, r5, ?_, ?_⟩
          · have h := (ndf e5 (kx.stp s7)).r
            rw [hx] at h; exact h
          · have h1 : kvs.length ≤ 1000 := by omega
            have h2 : i < kvs.length := (List.getElem?_eq_some_iff.mp hxk).1
            exact Nat.lt_of_le_of_lt (show acc.length ≤ 1000 by omega) (by decide)
          · have sr : Stp [r] H5 (upd H5 r (.lst (acc ++ [x.2.2]))) := .wr (by simp) r5 fun _ z => nomatch z
            refine ⟨acc ++ [x.2.2], es ++ [c], by rw [upd_ne tr]; exact e5, s7.into hr4 (sr.mono (by simp)), upd_same, dts_map (chs_stp d5 sr) (DtAt.stp ((s7.mono (M' := [t, r]) (by simp)).trans (sr.mono (by simp))) _ _ (chD_flat c) hc), ?_, ?_, by rw [List.length_append, l5]; rfl⟩
            · intro c hcm
              rcases List.mem_append.mp hcm with h | h
              · exact c5 c h
              · rw [List.mem_singleton] at h; subst h; exact dc
            · rw [List.map_append, k5, List.take_add_one, List.getElem?_map, hxk]
              simp
              exact ck.symm
        · rintro H5 ⟨acc, es, e5, s7, r5, d5, c5, k5, l5⟩
          have xl : xs.length = kvs.length := by rw [← hx, plainX_len]
          have s8 : Stp [] H4 (upd H5 t (ndO P w t xs)) := s7.unlock (M := []) ex tx
          have k6 : es.map (fun c => (nmD c.st).key) = kvs.map (·.1) := by rw [k5]; exact List.take_of_length_le (by simp [xl])
          have el : es.length = kvs.length := by have := congrArg List.length k6; simpa using this
          refine ⟨e5, ?_⟩
          refine q r acc es _ (s4.free hr4 (b4.nin hr4)) (by rw [upd_ne tr.symm]; exact r5) (chs_stp d5 (Stp.off e5)) c5 ?_ (by omega) (s4.trans (s8.mono (by simp))) (b4.grow s8)
          have h := t4.1
          rw [← k6] at h
          have h' : ((es.map Ch.st).map (fun n => (nmD n).key)).Nodup := by rw [List.map_map]; exact h
          exact h'.of_map _ fun a b ne e => ne (by rw [e])
theorem dts_perm {us ws : List V} {cs : List Ch} {H : Hp} (p : us.Perm ws) (h : DtsAt K H ws (cs.map chD)) : ∃ es : List Ch, es.Perm cs ∧ DtsAt K H us (es.map chD) := by
  induction p generalizing cs with
  | nil => 
    cases cs with
    | nil => exact ⟨[], .nil, .nil⟩
    | cons c cs => rw [List.map_cons] at h; cases h
  | cons x _ ih =>
    cases cs with
    | nil => rw [List.map_nil] at h; cases h
    | cons c cs =>
      rw [List.map_cons] at h
      cases h with
      | cons h1 h2 =>
        obtain ⟨es, pe, de⟩ := ih h2
        exact ⟨c :: es, pe.cons c, .cons h1 de⟩
  | swap x y l =>
    cases cs with
    | nil => rw [List.map_nil] at h; cases h
    | cons c cs =>
      cases cs with
      | nil => rw [List.map_cons, List.map_nil] at h; cases h with | cons h1 h2 => cases h2
      | cons c2 cs =>
        rw [List.map_cons, List.map_cons] at h
        cases h with
        | cons h1 h2 =>
          cases h2 with
          | cons h2 h3 => exact ⟨c2 :: c :: cs, List.Perm.swap c c2 cs, .cons h2 (.cons h1 h3)⟩
  | trans _ _ ih1 ih2 =>
    obtain ⟨es, pe, de⟩ := ih2 h
    obtain ⟨fs, pf, df⟩ := ih1 de
    exact ⟨fs, pf.trans pe, df⟩
theorem out_perm {α : Type} : ∀ (l : List α) (k : Nat) (h : k < l.length), (l[k] :: l.eraseIdx k).Perm l
  | x :: l, 0, _ => .refl _
  | x :: l, k + 1, h => by
    show (l[k]'(by simpa using h) :: x :: l.eraseIdx k).Perm (x :: l)
    exact (List.Perm.swap x _ _).trans ((out_perm l k (by simpa using h)).cons x)
def spMixed (K : PySem.W.Frag) : Sp := fun vs H Q _ => ∃ (b dg r : Addr) (ws : List V), vs = [.ref b, .ref r] ∧ Box K b dg H ∧ H r = some (.lst ws) ∧ r ≠ b ∧ ws.length ≤ 1000 ∧
  ∀ (p : Addr) (us : List V) (H1 : Hp), H p = none → H1 p = some (.lst us) → us.Perm ws → Stp [b] H H1 → Box K b dg H1 → Q (.ref p) H1
theorem cal_law_mixed (F : Df K mg d_law_mixed) (B : Blt mg) (C_law_draw : Cal P w K mg base lv_law_draw "_law_draw" ["box", "many"] (spDraw K)) : Cal P w K mg base lv_law_mixed "_law_mixed" ["box", "row"] (spMixed K) := by
  obtain ⟨f, fd, F, g⟩ := F
  refine ⟨f, fd, F.ok sc_law_mixed (fun vs H Q E h => ?_) (fun cdv A outer s H vs Q E hr h => ⟨_, PSs.nox
    (pss_cons (ps_setLc (i := 2) (own := [("one", 5)]) (g := gName 5) (by rfl) sc_law_mixed.nd rfl rfl (sw_true rfl rfl rfl (by decide +kernel)) (pi_list (pv 1)) (blkOk_by (N := ["box", "row", "left", "found", "k", "one"]) (own := [("one", 5)]) (sc := defScope s_law_mixed) (by decide +kernel)) (fun _ _ _ _ _ => (pg_name (i := 5) sc_law_mixed.nd rfl (Or.inl rfl))) (fun _ _ _ _ _ => pts_nil) (fun _ _ _ _ _ => (pv 5)))
    (pss_cons (ps_set (i := 3) sc_law_mixed.nd rfl (Or.inl rfl) (pe_lst pa_nil))
    (pss_cons (ps_for PassesOwn.never rfl (pi_range1 rfl B.range (pa_cons (pe_callB call_len_seq (by rfl) B.len boot_len (pa_cons (pv 1) pa_nil)) pa_nil)) (pg_name (i := 4) sc_law_mixed.nd rfl (Or.inl rfl))
      (pss_one (ps_expr (pe_bm PySem.F.plainAttrs_list PySem.F.slot_list_append PySem.F.type_list_append mt_append (pv 3) (pa_cons (pe_bm PySem.F.plainAttrs_list PySem.F.slot_list_pop PySem.F.type_list_pop mt_popAt (pv 2) (pa_cons (pe_op op_mod (pe_callTy call_int1 (by rfl) B.int boot_int (pa_cons (pc_call C_law_draw (hr.mono (by decide)) (by rfl) (pa_cons (pv 0) (pa_cons pe_int pa_nil))) pa_nil)) (pe_callB call_len_seq (by rfl) B.len boot_len (pa_cons (pv 2) pa_nil))) pa_nil)) pa_nil)))))
    (pss_one (ps_ret (pv 3)))))), ?_⟩), g, F.kp, F.bindsN fun _ _ _ _ _ _ us hl => match us, hl with | [_, _], _ => rfl⟩
  · obtain ⟨b, dg, r, ws, rfl, _⟩ := h
    rfl
  · obtain ⟨b, dg, r, ws, rfl, hb, hr1, rb, hl, q⟩ := h
    repeat walk_at "g"
    refine ⟨r, rfl, ⟨ws, SqL.of hr1⟩, fun l hl0 => ?_⟩
    refine lc_list (xs := ws) (fun i H' => Stp [] H H' ∧ H' l = some (.lst (ws.take i)))
      ⟨.new hl0, upd_same⟩ (fun i H' _ ⟨h, _⟩ => SqL.of (h.keep _ _ hr1 (by simp))) ?_ ?_
    · rintro i x H1 hx ⟨s1, h1⟩
      repeat walk_at "g"
      refine ⟨rfl, i_Yes ?_⟩
      refine i_ite (fun _ => ?_) (fun z => nomatch z)
      repeat walk_at "g"
      have hi : i < ws.length := (List.getElem?_eq_some_iff.mp hx).1
      refine ⟨_, h1, ?_, ?_⟩
      · rw [List.length_take]; exact Nat.lt_of_le_of_lt (show min i ws.length ≤ 1000 by omega) (by decide)
      · refine ⟨s1.mut hl0, ?_⟩
        rw [upd_same, List.take_add_one, hx]; rfl
    · rintro H1 ⟨s1, h1⟩
      rw [List.take_length] at h1
      repeat walk_at "g"
      refine ⟨Nat.zero_le _, fun p hp => ?_⟩
      have hp0 : H p = none := s1.free hp (by simp)
      have pl : p ≠ l := fun z => by rw [z, h1] at hp; cases hp
      have s2 : Stp [] H (upd H1 p (.lst [])) := s1.add hp
      repeat walk_at "g"
      have s1r : Stp [] H (upd H1 p (.lst [])) := s2
      refine ⟨r, ws, rfl, .inl (SqL.of (s2.keep _ _ hr1 (by simp))), ?_⟩
      repeat walk_at "g"
      refine ⟨ws.length, rfl, by omega, by omega, ?_⟩
      rw [show ((ws.length : Int)).toNat = ws.length by omega]
      refine for_range (lo := 0) (n := ws.length) (fun i σ H' => ∃ (y4 y5 : Option V) (us ls : List V), σ = [some (.ref b), some (.ref r), some (.ref l), some (.ref p), y4, y5] ∧ Stp [b] H H' ∧ Box K b dg H' ∧ H' p = some (.lst us) ∧ H' l = some (.lst ls) ∧ (us ++ ls).Perm ws ∧ us.length = i)
        ⟨none, none, [], ws, rfl, s2.mono (by simp), hb.grow s2, upd_same, by rw [upd_ne pl.symm]; exact h1, .refl _, rfl⟩ ?_ ?_
      · rintro i σ H2 hi ⟨y4, y5, us, ls, rfl, s3, b3, p3, l3, pm, ul⟩
        have ll : us.length + ls.length = ws.length := by have := pm.length_eq; rwa [List.length_append] at this
        repeat walk_at "g"
        refine ⟨.inl ⟨rfl, _, SqL.of p3⟩, ?_⟩
        repeat walk_at "g"
        refine ⟨.inl ⟨rfl, _, SqL.of l3⟩, ?_⟩
        repeat walk_at "g"
        refine ⟨b, dg, 900, rfl, by decide, b3, fun e H3 e0 e1 s4 b4 => ?_⟩
        have l4 : H3 l = some (.lst ls) := s4.keep _ _ l3 (hb.nin hl0)
        have p4 : H3 p = some (.lst us) := s4.keep _ _ p3 (hb.nin hp0)
        repeat walk_at "g"
        refine .inl ⟨e, rfl, ?_⟩
        repeat walk_at "g"
        refine ⟨l, ls, rfl, .inl (SqL.of l4), ?_⟩
        have n0 : (0 : Int) < (ls.length : Int) := by omega
        refine i_I (show (0 : Int) < (ls.length : Int) from n0) ?_
        repeat walk_at "g"
        have m0 := Int.emod_nonneg e (b := (ls.length : Int)) (by omega)
        have m1 := Int.emod_lt_of_pos e n0
        obtain ⟨m, hm⟩ : ∃ m, e % (ls.length : Int) = m := ⟨_, rfl⟩
        rw [hm] at m0 m1
        have hk : m.toNat < ls.length := by omega
        have hpm := out_perm ls m.toNat hk
        have s5 : Stp [l] H3 (upd H3 l (.lst (ls.eraseIdx m.toNat))) := .wr (by simp) l4 fun _ z => nomatch z
        have p5 := s5.keep _ _ p4 (by simpa using pl)
        refine ⟨l, ls, m, m.toNat, ls[m.toNat], rfl, by rw [← hm], l4, by omega, by omega, ?_, List.getElem?_eq_getElem hk, ?_⟩
        · unfold seqIndex?
          rw [if_neg (show ¬ m < 0 by omega)]
          simp only [m0, m1, decide_true, Bool.and_true, if_true]
        repeat walk_at "g"
        refine ⟨p, us, ls[m.toNat], rfl, rfl, p5, ?_, ?_⟩
        · exact Nat.lt_of_le_of_lt (show us.length ≤ 1000 by omega) (by decide)
        · have s6 : Stp [p] (upd H3 l (.lst (ls.eraseIdx m.toNat))) (upd (upd H3 l (.lst (ls.eraseIdx m.toNat))) p (.lst (us ++ [ls[m.toNat]]))) := .wr (by simp) p5 fun _ z => nomatch z
          have b5 := hb.off (M := []) b4 hl0 s5
          refine ⟨_, y5, us ++ [ls[m.toNat]], ls.eraseIdx m.toNat, rfl, ((s3.trans s4).into hl0 (s5.mono (by simp))).into hp0 (s6.mono (by simp)), hb.off (M := []) b5 hp0 s6, upd_same, by rw [upd_ne pl.symm, upd_same], ?_, by rw [List.length_append, ul]; rfl⟩
          refine List.Perm.trans ?_ pm
          rw [List.append_assoc]
          exact hpm.append_left us
      · rintro σ H2 ⟨y4, y5, us, ls, rfl, s3, b3, p3, l3, pm, ul⟩
        have ll : us.length + ls.length = ws.length := by have := pm.length_eq; rwa [List.length_append] at this
        have e : ls = [] := List.eq_nil_of_length_eq_zero (by omega)
        rw [e, List.append_nil] at pm
        repeat walk_at "g"
        exact q p us H2 hp0 p3 pm s3 b3
end

/-! ### octets of numbers and words -/
structure ConW (mg : Str → Option Value) : Prop where
  GREATEST_PEER : ∃ t, mg "GREATEST_PEER" = some (.int 7 t)
  GREATEST_COUNT : ∃ t, mg "GREATEST_COUNT" = some (.int 4294967295 t)
  LONGEST_FIELD : ∃ t, mg "LONGEST_FIELD" = some (.int 8 t)
  LONGEST_TEXT : ∃ t, mg "LONGEST_TEXT" = some (.int 20 t)
  LEAST_INTEGER : ∃ t, mg "LEAST_INTEGER" = some (.int (-1000000) t)
  GREATEST_INTEGER : ∃ t, mg "GREATEST_INTEGER" = some (.int 1000000 t)
  GREATEST_CLOCK : ∃ t, mg "GREATEST_CLOCK" = some (.int 4294967295 t)
  NOTHING : ∃ t, mg "NOTHING" = some (.int 0 t)
  INTEGER : ∃ t, mg "INTEGER" = some (.int 1 t)
  TEXT : ∃ t, mg "TEXT" = some (.int 2 t)
  OBJECT : ∃ t, mg "OBJECT" = some (.int 3 t)
  FIRST_CODE : ∃ t, mg "FIRST_CODE" = some (.int 97 t)
  LAST_CODE : ∃ t, mg "LAST_CODE" = some (.int 122 t)
  GREATEST_NUMBER : ∃ t, mg "GREATEST_NUMBER" = some (.int 4294967295 t)
  MOST_CHANGES : ∃ t, mg "MOST_CHANGES" = some (.int 65535 t)
  LETTERS : ∃ t, mg "LETTERS" = some (.str (Str.ofString "abcdefghijklmnopqrstuvwxyz") t)
/-- so many octets of a number, the greatest first -/
def octs (n : Int) : Nat → List Int
  | 0 => []
  | k + 1 => octs (n / 256) k ++ [n % 256]
theorem octs_len (n : Int) : ∀ k, (octs n k).length = k := by
  intro k
  induction k generalizing n with
  | zero => rfl
  | succ k ih => rw [octs, List.length_append, ih]; rfl
theorem div_pow (n : Int) (k : Nat) : n / 256 / 256 ^ k = n / 256 ^ (k + 1) := by
  rw [Int.ediv_ediv_of_nonneg (by decide), Int.pow_succ, Int.mul_comm]
theorem div_pow' (n : Int) (k : Nat) : n / 256 ^ k / 256 = n / 256 ^ (k + 1) := by
  rw [Int.ediv_ediv_of_nonneg (Int.pow_nonneg (by decide)), Int.pow_succ]
theorem octs_cons (n : Int) (k : Nat) : octs n (k + 1) = (n / 256 ^ k % 256) :: octs n k := by
  induction k generalizing n with
  | zero => simp [octs]
  | succ k ih =>
    rw [octs, ih (n / 256), octs, div_pow]; rfl
/-- the codes of a text -/
def codes (z : Str) : List Int := z.cps.toList.map fun c => ((c : Nat) : Int)
def wordO (z : Str) : List Int := octs (z.length : Nat) 1 ++ codes z
theorem wordO_len (z : Str) : (wordO z).length = 1 + z.length := by
  unfold wordO codes
  rw [List.length_append, octs_len, List.length_map]
  rfl
section
variable {P : Program} {w : World} {K : PySem.W.Frag} {mg : Str → Option Value} {base : Heap}
/-- a new list of octets -/
def NewI (H : Hp) (os : List Int) (Q : VK) : Prop := ∀ (p : Addr) (H1 : Hp), H p = none → H1 p = some (.lst (os.map V.int)) → Stp [] H H1 → Q (.ref p) H1
def spNum (K : PySem.W.Frag) : Sp := fun vs H Q _ => ∃ (n : Int) (k : Nat), vs = [.int n, .int k] ∧ k ≤ 1000 ∧ NewI H (octs n k) Q
theorem cal_number_octets (F : Df K mg d_number_octets) (B : Blt mg) : Cal P w K mg base lv_number_octets "number_octets" ["number", "many"] (spNum K) := by
  obtain ⟨f, fd, F, g⟩ := F
  refine ⟨f, fd, F.ok sc_number_octets (fun vs H Q E h => ?_) (fun cdv A outer s H vs Q E hr h => ⟨_, PSs.nox
    (pss_cons (ps_set (i := 2) sc_number_octets.nd rfl (Or.inl rfl) (pe_lst pa_nil))
    (pss_cons (ps_set (i := 3) sc_number_octets.nd rfl (Or.inl rfl) (pv 0))
    (pss_cons (ps_for PassesOwn.never rfl (pi_range1 rfl B.range (pa_cons (pv 1) pa_nil)) (pg_name (i := 4) sc_number_octets.nd rfl (Or.inl rfl))
      (pss_cons (ps_expr (pe_bm PySem.F.plainAttrs_list PySem.F.slot_list_append PySem.F.type_list_append mt_append (pv 2) (pa_cons (pe_op op_mod (pv 3) pe_int) pa_nil)))
        (pss_one (ps_set (i := 3) sc_number_octets.nd rfl (Or.inl rfl) (pe_op op_fdiv (pv 3) pe_int)))))
    (pss_cons (ps_expr (pe_bm0 PySem.F.plainAttrs_list PySem.F.slot_list_reverse PySem.F.type_list_reverse mt_reverse (pv 2)))
    (pss_one (ps_ret (pv 2))))))), ?_⟩), g, F.kp, F.bindsN fun _ _ _ _ _ _ us hl => match us, hl with | [_, _], _ => rfl⟩
  · obtain ⟨n, k, rfl, _⟩ := h
    rfl
  · obtain ⟨n, k, rfl, hk, q⟩ := h
    repeat walk_at "h"
    refine ⟨Nat.zero_le _, fun p hp => ?_⟩
    have s1 : Stp [] H (upd H p (.lst [])) := .new hp
    have p1 : (upd H p (.lst [])) p = some (.lst []) := upd_same
    generalize upd H p (.lst []) = H1 at s1 p1 ⊢
    repeat walk_at "h"
    refine ⟨k, rfl, by omega, by omega, ?_⟩
    refine for_range (lo := 0) (n := (k : Int).toNat) (fun i σ H' => ∃ (y4 : Option V) (ls : List Int), σ = [some (.int n), some (.int k), some (.ref p), some (.int (n / 256 ^ i)), y4] ∧ Stp [] H H' ∧ H' p = some (.lst (ls.map V.int)) ∧ ls.reverse = octs n i)
      ⟨_, [], by simp; rfl, s1, p1, rfl⟩ ?_ ?_
    · rintro i σ H2 hi ⟨y4, ls, rfl, s2, p2, e2⟩
      have ll : ls.length = i := by rw [← List.length_reverse, e2, octs_len]
      repeat walk_at "h"
      refine ⟨.inl ⟨rfl, _, SqL.of p2⟩, ?_⟩
      repeat walk_at "h"
      refine ⟨p, _, _, rfl, rfl, p2, by rw [List.length_map]; exact Nat.lt_of_le_of_lt (show ls.length ≤ 1000 by omega) (by decide), ?_⟩
      have s3 : Stp [p] H2 (upd H2 p (.lst (ls.map V.int ++ [.int (n / 256 ^ i % 256)]))) := .wr (by simp) p2 fun _ z => nomatch z
      repeat walk_at "h"
      refine ⟨_, ls ++ [n / 256 ^ i % 256], by rw [← div_pow']; rfl, s2.into hp s3, by rw [upd_same, List.map_append]; rfl, ?_⟩
      rw [List.reverse_append, e2, octs_cons]; rfl
    · rintro σ H2 ⟨y4, ls, rfl, s2, p2, e2⟩
      repeat walk_at "h"
      refine ⟨.inl ⟨rfl, _, SqL.of p2⟩, p, _, rfl, rfl, p2, ?_⟩
      have s3 : Stp [p] H2 (upd H2 p (.lst (ls.map V.int).reverse)) := .wr (by simp) p2 fun _ z => nomatch z
      repeat walk_at "h"
      refine q p _ hp ?_ (s2.into hp s3)
      rw [upd_same, ← List.map_reverse, e2, Int.toNat_natCast]
theorem ints_at {H : Hp} {p : Addr} {os : List Int} (h : H p = some (.lst (os.map V.int))) : DtAt K H (.ref p) (.lst (os.map Dt.num)) := by
  refine .lst (SqL.of h) ?_
  clear h
  induction os with
  | nil => exact .nil
  | cons o os ih => exact .cons (.num _) ih
/-- [ord(letter) for letter in word] and the like -/
theorem lc_codes {σ : L2.St} {H : Hp} {Q : VK} {i j : Nat} {z : Str} {te : TE} (hi : σ[i]? = some (some (.str z))) (hz : z.length ≤ 1000) (ht : ∀ (c : Nat) (σ2 : L2.St) (H2 : Hp) (Q2 : VK), c ∈ z.cps.toList → σ2 = (wipe σ [j]).set j (some (.str ⟨#[c]⟩)) → Q2 (.int ((c : Nat) : Int)) H2 → te σ2 H2 Q2)
    (q : NewI H (codes z) Q) : tLc (iStr (tVar i)) (gName j) tYes te [j] σ H Q := by
  refine i_Lc (i_Str (i_var hi ⟨z, rfl, fun p hp0 => ?_⟩))
  have zl : z.cps.toList.length = z.cps.size := by simp
  refine lc_it walk_str (fun m H' => Stp [] H H' ∧ H' p = some (.lst (((codes z).take m).map V.int))) ⟨.new hp0, by rw [upd_same]; rfl⟩ (fun _ _ _ _ => trivial) ?_ ?_
  · rintro m x H1 H2 hm ⟨s1, h1⟩ ⟨rfl, c, hc, rfl⟩
    have hc2 : z.cps.toList[m]? = some c := by rw [← hc]; simp
    refine i_Name ⟨by show ((σ.set j none).set j _).set j none = σ.set j none; rw [List.set_set, List.set_set], i_Yes (i_ite (fun _ => ht c _ _ _ (List.mem_of_getElem? hc2) rfl ⟨_, h1, ?_, s1.mut hp0, ?_⟩) (fun z => nomatch z))⟩
    · have hl : z.cps.size ≤ 1000 := hz
      rw [List.length_map, List.length_take]
      exact Nat.lt_of_le_of_lt (show _ ≤ 1000 by omega) (by decide)
    · rw [upd_same]
      have : (codes z).take (m + 1) = (codes z).take m ++ [((c : Nat) : Int)] := by
        unfold codes
        rw [List.take_add_one, List.getElem?_map, hc2]; rfl
      rw [this, List.map_append]; rfl
  · rintro H1 ⟨s1, h1⟩
    rw [List.take_of_length_le (by unfold codes; rw [List.length_map]; omega)] at h1
    exact q p H1 hp0 h1 s1
def spWordO (K : PySem.W.Frag) : Sp := fun vs H Q _ => ∃ (z : Str), vs = [.str z] ∧ z.length ≤ 1000 ∧ NewI H (wordO z) Q
theorem cal_word_octets (F : Df K mg d_word_octets) (B : Blt mg) (C_number_octets : Cal P w K mg base lv_number_octets "number_octets" ["number", "many"] (spNum K)) : Cal P w K mg base lv_word_octets "word_octets" ["word"] (spWordO K) := by
  obtain ⟨f, fd, F, g⟩ := F
  refine ⟨f, fd, F.ok sc_word_octets (fun vs H Q E h => ?_) (fun cdv A outer s H vs Q E hr h => ⟨_, PSs.nox
    (pss_one (ps_ret (pe_op op_cat (pc_call C_number_octets (hr.mono (by decide)) (by rfl) (pa_cons (pe_callB call_len_str (by rfl) B.len boot_len (pa_cons (pv 0) pa_nil)) (pa_cons pe_int pa_nil))) (pe_lc (own := [("letter", 1)]) (g := gName 1) (by rfl) sc_word_octets.nd (pi_str (pv 0)) (blkOk_by (N := ["word", "letter"]) (own := [("letter", 1)]) (sc := defScope s_word_octets) (by decide +kernel)) (fun _ _ _ _ _ => (pg_name (i := 1) sc_word_octets.nd rfl (Or.inl rfl))) (fun _ _ _ _ _ => pts_nil) (fun _ _ _ _ _ => (pe_callB call_ord (by rfl) B.ord (by decide +kernel) (pa_cons (pv 1) pa_nil))))))), ?_⟩), g, F.kp, F.bindsN fun _ _ _ _ _ _ us hl => match us, hl with | [_], _ => rfl⟩
  · obtain ⟨z, rfl, _⟩ := h
    rfl
  · obtain ⟨z, rfl, hz, q⟩ := h
    repeat walk_at "h"
    refine ⟨z, rfl, Nat.le_trans hz (by decide), ?_⟩
    repeat walk_at "h"
    refine ⟨(z.length : Nat), 1, rfl, by decide, fun p H1 hp p1 s1 => ?_⟩
    refine lc_codes (i := 0) (j := 1) rfl hz (fun c σ2 H2 Q2 hc e q2 => ?_) fun p2 H2 hp2 p2' s2 => ?_
    · subst e
      repeat walk_at "h"
      exact ⟨_, rfl, rfl, q2⟩
    · have p1' := s2.keep _ _ p1 (by simp)
      refine ⟨p, p2, _, _, rfl, rfl, p1', p2', ?_, fun p3 hp3 => ?_⟩
      · rw [List.length_map, List.length_map, octs_len]
        unfold codes
        rw [List.length_map]
        have : z.cps.toList.length = z.length := rfl
        exact Nat.le_trans (show _ ≤ 2000 by omega) (by decide)
      · have s3 : Stp [] H2 (upd H2 p3 (.lst ((octs (z.length : Nat) 1).map V.int ++ (codes z).map V.int))) := .new hp3
        refine q p3 _ ((s1.trans s2).free hp3 (by simp)) ?_ ((s1.trans s2).trans s3)
        rw [upd_same, ← List.map_append]; rfl
end

/-! ### octets of messages -/
def nameO (n : Nm) : List Int := octs n.1 1 ++ octs n.2 4
def valO : Va → List Int
  | .non => [0]
  | .num i => [1] ++ octs (i + 1000000) 3
  | .txt z => [2] ++ wordO z
  | .tg _ n => [3] ++ nameO n
def chO (c : Ch) : List Int := octs c.st.1 4 ++ octs c.st.2 1 ++ nameO c.nm ++ wordO c.fd ++ valO c.va
def sumS (p : Int × Int) (o : Int) : Int × Int := ((p.1 + o) % 256, (p.2 + (p.1 + o) % 256) % 256)
def chkO (os : List Int) : List Int := let p := os.foldl sumS (0, 0); [p.2, p.1]
def msgB (s n : Int) (cs : List Ch) : List Int := octs s 1 ++ octs n 4 ++ octs (cs.length : Nat) 2 ++ (cs.map chO).flatten
def msgO (s n : Int) (cs : List Ch) : List Int := msgB s n cs ++ chkO (msgB s n cs)
def shortVa : Va → Prop
  | .txt z => z.length ≤ 100
  | _ => True
def shortCh (c : Ch) : Prop := c.fd.length ≤ 100 ∧ shortVa c.va
theorem valO_len {x : Va} (h : shortVa x) : (valO x).length ≤ 200 := by
  cases x with
  | non => simp [valO]
  | num i => simp [valO, octs_len]
  | txt z =>
    have h : z.length ≤ 100 := h
    simp only [valO, List.length_append, List.length_singleton, wordO_len]; omega
  | tg s n => simp [valO, nameO, octs_len]
theorem chO_len {c : Ch} (h : shortCh c) : (chO c).length ≤ 500 := by
  have h1 := valO_len h.2
  have h2 := h.1
  unfold chO nameO
  simp only [List.length_append, octs_len, wordO_len]
  omega
theorem chOs_len : ∀ {cs : List Ch}, (∀ c ∈ cs, shortCh c) → ((cs.map chO).flatten).length ≤ 500 * cs.length
  | [], _ => by simp
  | c :: cs, h => by
    have h1 := chO_len (h c List.mem_cons_self)
    have h2 := chOs_len fun c hc => h c (List.mem_cons_of_mem _ hc)
    rw [List.map_cons, List.flatten_cons, List.length_append, List.length_cons]
    omega
section
variable {P : Program} {w : World} {K : PySem.W.Frag} {mg : Str → Option Value} {base : Heap}
/-- two such lists, one behind the other -/
theorem cat_i {H : Hp} {Q : VK} {p p2 : Addr} {a b : List Int} (h1 : H p = some (.lst (a.map V.int))) (h2 : H p2 = some (.lst (b.map V.int))) (l : a.length + b.length ≤ 1000000) (q : NewI H (a ++ b) Q) : rCat (.ref p) (.ref p2) H Q := by
  refine ⟨p, p2, _, _, rfl, rfl, h1, h2, ?_, fun p3 hp3 => ?_⟩
  · rw [List.length_map, List.length_map]
    exact Nat.le_trans l (by decide)
  · have s3 : Stp [] H (upd H p3 (.lst (a.map V.int ++ b.map V.int))) := .new hp3
    exact q p3 _ hp3 (by rw [upd_same, ← List.map_append]) s3
theorem NewI.from {H H1 : Hp} {os : List Int} {Q : VK} (q : NewI H os Q) (s : Stp [] H H1) : NewI H1 os Q := fun p H2 hp h s2 => q p H2 (s.free hp (by simp)) h (s.trans s2)
/-- [x, ..] -/
theorem lit_i {H : Hp} {Q : VK} {os : List Int} (q : NewI H os Q) (l : os.length ≤ 1000) : (os.map V.int).length ≤ sizeLine ∧ ∀ p, H p = none → Q (.ref p) (upd H p (.lst (os.map V.int))) :=
  ⟨by rw [List.length_map]; exact Nat.le_trans l (by decide), fun p hp => q p _ hp upd_same (.new hp)⟩
def spPlainO (K : PySem.W.Frag) : Sp := fun vs H Q _ => ∃ (v : V) (x : Va), vs = [v] ∧ DtAt K H v (vaD x) ∧ shortVa x ∧ x ≠ .non ∧ (∀ s n, x ≠ .tg s n) ∧ NewI H (valO x) Q
theorem cal_plain_octets (F : Df K mg d_plain_octets) (B : Blt mg) (N : ConW mg) (C_number_octets : Cal P w K mg base lv_number_octets "number_octets" ["number", "many"] (spNum K)) (C_word_octets : Cal P w K mg base lv_word_octets "word_octets" ["word"] (spWordO K)) : Cal P w K mg base lv_plain_octets "plain_octets" ["value"] (spPlainO K) := by
  obtain ⟨f, fd, F, g⟩ := F
  refine ⟨f, fd, F.ok sc_plain_octets (fun vs H Q E h => ?_) (fun cdv A outer s H vs Q E hr h => ⟨_, PSs.nox
    (pss_cons (ps_if (pt_val (pe_callB call_isi (by rfl) B.isinstance (by decide +kernel) (pa_cons (pv 0) (pa_cons (pe_bltn (v := .ty "str") (by rfl) B.str (by decide +kernel) rfl) pa_nil))))
      (pss_one (ps_ret (pe_op op_cat (pe_lst (pa_cons (pe_gi rfl N.TEXT) pa_nil)) (pc_call C_word_octets (hr.mono (by decide)) (by rfl) (pa_cons (pv 0) pa_nil)))))
      pss_nil)
    (pss_one (ps_ret (pe_op op_cat (pe_lst (pa_cons (pe_gi rfl N.INTEGER) pa_nil)) (pc_call C_number_octets (hr.mono (by decide)) (by rfl) (pa_cons (pe_op op_sub (pv 0) (pe_gi rfl N.LEAST_INTEGER)) (pa_cons pe_int pa_nil))))))), ?_⟩), g, F.kp, F.bindsN fun _ _ _ _ _ _ us hl => match us, hl with | [_], _ => rfl⟩
  · obtain ⟨v, x, rfl, _⟩ := h
    rfl
  · obtain ⟨v, x, rfl, hv, sh, h1, h2, q⟩ := h
    repeat walk_at "h"
    cases x with
    | non => exact absurd rfl h1
    | tg s n => exact absurd rfl (h2 s n)
    | txt z =>
      refine i_Isi "str" true hv ?_
      obtain rfl := txtAt hv
      have sh : z.length ≤ 100 := sh
      repeat walk_at "h"
      refine iteT ?_
      repeat walk_at "h"
      refine ⟨(by decide : 1 ≤ sizeLine), fun p hp => ?_⟩
      have s1 : Stp [] H (upd H p (.lst [.int 2])) := .new hp
      have p1 : (upd H p (.lst [.int 2])) p = some (.lst (([2] : List Int).map V.int)) := upd_same
      generalize upd H p (.lst [.int 2]) = H1 at s1 p1 ⊢
      repeat walk_at "h"
      refine ⟨z, rfl, by omega, fun p2 H2 hp2 p2' s2 => ?_⟩
      refine cat_i (s2.keep _ _ p1 (by simp)) p2' (by rw [wordO_len]; simp; omega) (q.from (s1.trans s2))
    | num i =>
      refine i_Isi "int" false hv ?_
      obtain rfl := numAt hv
      repeat walk_at "h"
      refine iteF ?_
      repeat walk_at "h"
      refine ⟨(by decide : 1 ≤ sizeLine), fun p hp => ?_⟩
      have s1 : Stp [] H (upd H p (.lst [.int 1])) := .new hp
      have p1 : (upd H p (.lst [.int 1])) p = some (.lst (([1] : List Int).map V.int)) := upd_same
      generalize upd H p (.lst [.int 1]) = H1 at s1 p1 ⊢
      repeat walk_at "h"
      refine ⟨i + 1000000, 3, by rw [Int.sub_neg]; rfl, by decide, fun p2 H2 hp2 p2' s2 => ?_⟩
      refine cat_i (s2.keep _ _ p1 (by simp)) p2' (by rw [octs_len]; decide) (q.from (s1.trans s2))
def spNameO (K : PySem.W.Frag) : Sp := fun vs H Q _ => ∃ (v : V) (n : Nm), vs = [v] ∧ DtAt K H v (nmD n) ∧ NewI H (nameO n) Q
theorem cal_name_octets (F : Df K mg d_name_octets) (C_number_octets : Cal P w K mg base lv_number_octets "number_octets" ["number", "many"] (spNum K)) : Cal P w K mg base lv_name_octets "_name_octets" ["name"] (spNameO K) := by
  obtain ⟨f, fd, F, g⟩ := F
  refine ⟨f, fd, F.ok sc_name_octets (fun vs H Q E h => ?_) (fun cdv A outer s H vs Q E hr h => ⟨_, PSs.nox
    (pss_cons (ps_asg (pv 0) (pg_tup (by rfl) (pgs_cons (pg_name (i := 1) sc_name_octets.nd rfl (Or.inl rfl)) (pgs_cons (pg_name (i := 2) sc_name_octets.nd rfl (Or.inl rfl)) pgs_nil))))
    (pss_one (ps_ret (pe_op op_cat (pc_call C_number_octets (hr.mono (by decide)) (by rfl) (pa_cons (pv 1) (pa_cons pe_int pa_nil))) (pc_call C_number_octets (hr.mono (by decide)) (by rfl) (pa_cons (pv 2) (pa_cons pe_int pa_nil))))))), ?_⟩), g, F.kp, F.bindsN fun _ _ _ _ _ _ us hl => match us, hl with | [_], _ => rfl⟩
  · obtain ⟨v, n, rfl, _⟩ := h
    rfl
  · obtain ⟨v, n, rfl, hv, q⟩ := h
    obtain ⟨a, rfl, ha⟩ := nmAt hv
    repeat walk_at "h"
    refine i_gTup ha.sqt rfl ?_
    repeat walk_at "h"
    refine ⟨n.1, 1, rfl, by decide, fun p H1 hp p1 s1 => ?_⟩
    repeat walk_at "h"
    refine ⟨n.2, 4, rfl, by decide, fun p2 H2 hp2 p2' s2 => ?_⟩
    exact cat_i (s2.keep _ _ p1 (by simp)) p2' (by rw [octs_len, octs_len]; decide) (q.from (s1.trans s2))
def spValO (K : PySem.W.Frag) : Sp := fun vs H Q _ => ∃ (v : V) (x : Va), vs = [v] ∧ DtAt K H v (vaD x) ∧ shortVa x ∧ NewI H (valO x) Q
theorem cal_value_octets (F : Df K mg d_value_octets) (B : Blt mg) (N : ConW mg) (C_name_octets : Cal P w K mg base lv_name_octets "_name_octets" ["name"] (spNameO K)) (C_plain_octets : Cal P w K mg base lv_plain_octets "plain_octets" ["value"] (spPlainO K)) : Cal P w K mg base lv_value_octets "_value_octets" ["value"] (spValO K) := by
  obtain ⟨f, fd, F, g⟩ := F
  refine ⟨f, fd, F.ok sc_value_octets (fun vs H Q E h => ?_) (fun cdv A outer s H vs Q E hr h => ⟨_, PSs.nox
    (pss_cons (ps_if (pt_cmpR op_isN (pv 0) pe_non (nomark _))
      (pss_one (ps_ret (pe_lst (pa_cons (pe_gi rfl N.NOTHING) pa_nil))))
      pss_nil)
    (pss_cons (ps_if (pt_val (pe_callB call_isi (by rfl) B.isinstance (by decide +kernel) (pa_cons (pv 0) (pa_cons (pe_bltn (v := .ty "tuple") (by rfl) B.tuple (by decide +kernel) rfl) pa_nil))))
      (pss_one (ps_ret (pe_op op_cat (pe_lst (pa_cons (pe_gi rfl N.OBJECT) pa_nil)) (pc_call C_name_octets (hr.mono (by decide)) (by rfl) (pa_cons (pe_ix (ix_tupK (K := K) rfl) (pv 0) pe_int (fun _ _ => rfl)) pa_nil)))))
      pss_nil)
    (pss_one (ps_ret (pc_call C_plain_octets (hr.mono (by decide)) (by rfl) (pa_cons (pv 0) pa_nil)))))), ?_⟩), g, F.kp, F.bindsN fun _ _ _ _ _ _ us hl => match us, hl with | [_], _ => rfl⟩
  · obtain ⟨v, x, rfl, _⟩ := h
    rfl
  · obtain ⟨v, x, rfl, hv, sh, q⟩ := h
    repeat walk_at "h"
    refine ⟨rfl, ⟨_, rfl, ?_⟩⟩
    cases x with
    | non =>
      cases hv
      refine i_ite (fun _ => ?_) (fun z => by simp at z)
      repeat walk_at "h"
      exact lit_i (os := [0]) q (by decide)
    | num i =>
      have hv0 := hv
      obtain rfl := numAt hv
      refine i_ite (fun z => by simp at z) (fun _ => ?_)
      repeat walk_at "h"
      refine i_Isi "int" false hv0 ?_
      repeat walk_at "h"
      refine iteF ?_
      repeat walk_at "h"
      exact ⟨_, _, rfl, hv0, sh, (fun z => nomatch z), (fun _ _ z => nomatch z), q⟩
    | txt z =>
      have hv0 := hv
      obtain rfl := txtAt hv
      refine i_ite (fun z => by simp at z) (fun _ => ?_)
      repeat walk_at "h"
      refine i_Isi "str" false hv0 ?_
      repeat walk_at "h"
      refine iteF ?_
      repeat walk_at "h"
      exact ⟨_, _, rfl, hv0, sh, (fun z => nomatch z), (fun _ _ z => nomatch z), q⟩
    | tg s n =>
      have hv0 := hv
      obtain ⟨a, b, rfl, ha, hb⟩ := tgAt hv
      refine i_ite (fun z => by simp at z) (fun _ => ?_)
      repeat walk_at "h"
      refine i_Isi "tuple" true hv0 ?_
      repeat walk_at "h"
      refine iteT ?_
      repeat walk_at "h"
      refine ⟨(by decide : 1 ≤ sizeLine), fun p hp => ?_⟩
      have s1 : Stp [] H (upd H p (.lst [.int 3])) := .new hp
      have p1 : (upd H p (.lst [.int 3])) p = some (.lst (([3] : List Int).map V.int)) := upd_same
      generalize upd H p (.lst [.int 3]) = H1 at s1 p1 ⊢
      repeat walk_at "h"
      refine i_IxT (ha.stp s1).sqt (at_of (j := 1) rfl rfl) ?_
      repeat walk_at "h"
      refine ⟨_, n, rfl, DtAt.stp s1 _ _ rfl hb, fun p2 H2 hp2 p2' s2 => ?_⟩
      exact cat_i (s2.keep _ _ p1 (by simp)) p2' (by simp [nameO, octs_len]) (q.from (s1.trans s2))
def spChO (K : PySem.W.Frag) : Sp := fun vs H Q _ => ∃ (v : V) (c : Ch), vs = [v] ∧ DtAt K H v (chD c) ∧ shortCh c ∧ NewI H (chO c) Q
theorem cal_change_octets (F : Df K mg d_change_octets) (C_number_octets : Cal P w K mg base lv_number_octets "number_octets" ["number", "many"] (spNum K)) (C_name_octets : Cal P w K mg base lv_name_octets "_name_octets" ["name"] (spNameO K)) (C_word_octets : Cal P w K mg base lv_word_octets "word_octets" ["word"] (spWordO K)) (C_value_octets : Cal P w K mg base lv_value_octets "_value_octets" ["value"] (spValO K)) : Cal P w K mg base lv_change_octets "_change_octets" ["change"] (spChO K) := by
  obtain ⟨f, fd, F, g⟩ := F
  refine ⟨f, fd, F.ok sc_change_octets (fun vs H Q E h => ?_) (fun cdv A outer s H vs Q E hr h => ⟨_, PSs.nox
    (pss_cons (ps_asg (pv 0) (pg_tup (by rfl) (pgs_cons (pg_tup (by rfl) (pgs_cons (pg_name (i := 1) sc_change_octets.nd rfl (Or.inl rfl)) (pgs_cons (pg_name (i := 2) sc_change_octets.nd rfl (Or.inl rfl)) pgs_nil))) (pgs_cons (pg_name (i := 3) sc_change_octets.nd rfl (Or.inl rfl)) (pgs_cons (pg_name (i := 4) sc_change_octets.nd rfl (Or.inl rfl)) (pgs_cons (pg_name (i := 5) sc_change_octets.nd rfl (Or.inl rfl)) pgs_nil))))))
    (pss_cons (ps_set (i := 6) sc_change_octets.nd rfl (Or.inl rfl) (pe_op op_cat (pc_call C_number_octets (hr.mono (by decide)) (by rfl) (pa_cons (pv 1) (pa_cons pe_int pa_nil))) (pc_call C_number_octets (hr.mono (by decide)) (by rfl) (pa_cons (pv 2) (pa_cons pe_int pa_nil)))))
    (pss_one (ps_ret (pe_op op_cat (pe_op op_cat (pe_op op_cat (pv 6) (pc_call C_name_octets (hr.mono (by decide)) (by rfl) (pa_cons (pv 3) pa_nil))) (pc_call C_word_octets (hr.mono (by decide)) (by rfl) (pa_cons (pv 4) pa_nil))) (pc_call C_value_octets (hr.mono (by decide)) (by rfl) (pa_cons (pv 5) pa_nil))))))), ?_⟩), g, F.kp, F.bindsN fun _ _ _ _ _ _ us hl => match us, hl with | [_], _ => rfl⟩
  · obtain ⟨v, c, rfl, _⟩ := h
    rfl
  · obtain ⟨v, c, rfl, hv, sh, q⟩ := h
    obtain ⟨a, s, n, x, rfl, ha, hs, hn, hx⟩ := chAt hv
    obtain ⟨sa, rfl, hsa⟩ := nmAt hs
    have l1 := valO_len sh.2
    have l2 := sh.1
    repeat walk_at "h"
    refine i_gTup ha.sqt rfl ?_
    repeat walk_at "h"
    refine i_gTup hsa.sqt rfl ?_
    repeat walk_at "h"
    refine ⟨c.st.1, 4, rfl, by decide, fun p1 H1 n1 e1 s1 => ?_⟩
    repeat walk_at "h"
    refine ⟨c.st.2, 1, rfl, by decide, fun p2 H2 n2 e2 s2 => ?_⟩
    refine cat_i (s2.keep _ _ e1 (by simp)) e2 (by rw [octs_len, octs_len]; decide) fun p3 H3 n3 e3 s3 => ?_
    have s03 := (s1.trans s2).trans s3
    repeat walk_at "h"
    refine ⟨_, c.nm, rfl, DtAt.stp s03 _ _ rfl hn, fun p4 H4 n4 e4 s4 => ?_⟩
    refine cat_i (s4.keep _ _ e3 (by simp)) e4 (by simp only [List.length_append, nameO, octs_len]; decide) fun p5 H5 n5 e5 s5 => ?_
    repeat walk_at "h"
    refine ⟨c.fd, rfl, by omega, fun p6 H6 n6 e6 s6 => ?_⟩
    refine cat_i (s6.keep _ _ e5 (by simp)) e6 (by simp only [List.length_append, nameO, octs_len, wordO_len]; omega) fun p7 H7 n7 e7 s7 => ?_
    have s07 := (((s03.trans s4).trans s5).trans s6).trans s7
    repeat walk_at "h"
    refine ⟨_, c.va, rfl, DtAt.stp s07 _ _ (vaD_flat _) hx, sh.2, fun p8 H8 n8 e8 s8 => ?_⟩
    exact cat_i (s8.keep _ _ e7 (by simp)) e8 (by simp only [List.length_append, nameO, octs_len, wordO_len]; omega) (q.from (s07.trans s8))
def spChk (K : PySem.W.Frag) : Sp := fun vs H Q _ => ∃ (p : Addr) (os : List Int), vs = [.ref p] ∧ H p = some (.lst (os.map V.int)) ∧ NewI H (chkO os) Q
theorem cal_check_of (F : Df K mg d_check_of) : Cal P w K mg base lv_check_of "check_of" ["octets"] (spChk K) := by
  obtain ⟨f, fd, F, g⟩ := F
  refine ⟨f, fd, F.ok sc_check_of (fun vs H Q E h => ?_) (fun cdv A outer s H vs Q E hr h => ⟨_, PSs.nox
    (pss_cons (ps_set (i := 1) sc_check_of.nd rfl (Or.inl rfl) pe_int)
    (pss_cons (ps_set (i := 2) sc_check_of.nd rfl (Or.inl rfl) pe_int)
    (pss_cons (ps_for PassesOwn.never rfl (pi_list (pv 0)) (pg_name (i := 3) sc_check_of.nd rfl (Or.inl rfl))
      (pss_cons (ps_set (i := 1) sc_check_of.nd rfl (Or.inl rfl) (pe_op op_mod (pe_op op_add (pv 1) (pv 3)) pe_int))
        (pss_one (ps_set (i := 2) sc_check_of.nd rfl (Or.inl rfl) (pe_op op_mod (pe_op op_add (pv 2) (pv 1)) pe_int)))))
    (pss_one (ps_ret (pe_lst (pa_cons (pv 2) (pa_cons (pv 1) pa_nil)))))))), ?_⟩), g, F.kp, F.bindsN fun _ _ _ _ _ _ us hl => match us, hl with | [_], _ => rfl⟩
  · obtain ⟨p, os, rfl, _⟩ := h
    rfl
  · obtain ⟨p, os, rfl, hp, q⟩ := h
    repeat walk_at "h"
    refine ⟨p, rfl, ⟨_, SqL.of hp⟩, ?_⟩
    refine for_list (xs := os.map V.int) (fun i σ H' => H' = H ∧ ∃ (y3 : Option V), σ = [some (.ref p), some (.int ((os.take i).foldl sumS (0, 0)).1), some (.int ((os.take i).foldl sumS (0, 0)).2), y3])
      ⟨rfl, _, rfl⟩ (fun i σ H' _ ⟨e, _⟩ => by rw [e]; exact SqL.of hp) ?_ ?_
    · rintro i v σ H' hv ⟨rfl, y3, rfl⟩
      rw [List.getElem?_map] at hv
      obtain ⟨o, ho, rfl⟩ := Option.map_eq_some_iff.mp hv
      have tk : os.take (i + 1) = os.take i ++ [o] := by rw [List.take_add_one, ho]; rfl
      repeat walk_at "h"
      refine ⟨rfl, some (.int o), ?_⟩
      rw [tk, List.foldl_append]; rfl
    · rintro σ H' ⟨rfl, y3, rfl⟩
      rw [List.length_map, List.take_length]
      repeat walk_at "h"
      exact lit_i (os := chkO os) q (by simp [chkO])
end

section
variable {P : Program} {w : World} {K : PySem.W.Frag} {mg : Str → Option Value} {base : Heap}
theorem chO_snoc (cs : List Ch) (c : Ch) : ((cs ++ [c]).map chO).flatten = (cs.map chO).flatten ++ chO c := by simp
/-- a list's octets, more behind them -/
theorem ext_i {H : Hp} {Q : VK} {p p2 : Addr} {a b : List Int} (h1 : H p = some (.lst (a.map V.int))) (h2 : H p2 = some (.lst (b.map V.int))) (l : a.length + b.length ≤ 1000000)
    (q : ∀ H1, H1 p = some (.lst ((a ++ b).map V.int)) → Stp [p] H H1 → Q .non H1) : rExtend (.ref p) [.ref p2] H Q := by
  refine ⟨p, p2, _, _, rfl, rfl, h1, h2, ?_, ?_⟩
  · rw [List.length_map, List.length_map]
    exact Nat.le_trans l (by decide)
  · exact q _ (by rw [upd_same, List.map_append]) (.wr (by simp) h1 fun _ z => nomatch z)
def spMsgO (K : PySem.W.Frag) : Sp := fun vs H Q _ => ∃ (sd n : Int) (r : Addr) (ws : List V) (cs : List Ch), vs = [.int sd, .int n, .ref r] ∧ H r = some (.lst ws) ∧ DtsAt K H ws (cs.map chD) ∧ cs.length ≤ 100 ∧ (∀ c ∈ cs, shortCh c) ∧ NewI H (msgO sd n cs) Q
theorem cal_message_octets (F : Df K mg d_message_octets) (B : Blt mg) (C_number_octets : Cal P w K mg base lv_number_octets "number_octets" ["number", "many"] (spNum K)) (C_change_octets : Cal P w K mg base lv_change_octets "_change_octets" ["change"] (spChO K)) (C_check_of : Cal P w K mg base lv_check_of "check_of" ["octets"] (spChk K)) : Cal P w K mg base lv_message_octets "message_octets" ["sender", "number", "changes"] (spMsgO K) := by
  obtain ⟨f, fd, F, g⟩ := F
  refine ⟨f, fd, F.ok sc_message_octets (fun vs H Q E h => ?_) (fun cdv A outer s H vs Q E hr h => ⟨_, PSs.nox
    (pss_cons (ps_set (i := 3) sc_message_octets.nd rfl (Or.inl rfl) (pe_op op_cat (pe_op op_cat (pc_call C_number_octets (hr.mono (by decide)) (by rfl) (pa_cons (pv 0) (pa_cons pe_int pa_nil))) (pc_call C_number_octets (hr.mono (by decide)) (by rfl) (pa_cons (pv 1) (pa_cons pe_int pa_nil)))) (pc_call C_number_octets (hr.mono (by decide)) (by rfl) (pa_cons (pe_callB call_len_seq (by rfl) B.len boot_len (pa_cons (pv 2) pa_nil)) (pa_cons pe_int pa_nil)))))
    (pss_cons (ps_for PassesOwn.never rfl (pi_list (pv 2)) (pg_name (i := 4) sc_message_octets.nd rfl (Or.inl rfl))
      (pss_one (ps_expr (pe_bm PySem.F.plainAttrs_list PySem.F.slot_list_extend PySem.F.type_list_extend mt_extend (pv 3) (pa_cons (pc_call C_change_octets (hr.mono (by decide)) (by rfl) (pa_cons (pv 4) pa_nil)) pa_nil)))))
    (pss_one (ps_ret (pe_op op_cat (pv 3) (pc_call C_check_of (hr.mono (by decide)) (by rfl) (pa_cons (pv 3) pa_nil))))))), ?_⟩), g, F.kp, F.bindsN fun _ _ _ _ _ _ us hl => match us, hl with | [_, _, _], _ => rfl⟩
  · obtain ⟨sd, n, r, ws, cs, rfl, _⟩ := h
    rfl
  · obtain ⟨sd, n, r, ws, cs, rfl, hr, hd, hl, sh, q⟩ := h
    have wl : ws.length = cs.length := by have := hd.length; rwa [List.length_map] at this
    repeat walk_at "h"
    refine ⟨sd, 1, rfl, by decide, fun p1 H1 n1 e1 s1 => ?_⟩
    repeat walk_at "h"
    refine ⟨n, 4, rfl, by decide, fun p2 H2 n2 e2 s2 => ?_⟩
    refine cat_i (s2.keep _ _ e1 (by simp)) e2 (by rw [octs_len, octs_len]; decide) fun p3 H3 n3 e3 s3 => ?_
    have s03 := (s1.trans s2).trans s3
    repeat walk_at "h"
    refine ⟨r, ws, rfl, .inl (SqL.of (s03.keep _ _ hr (by simp))), ?_⟩
    repeat walk_at "h"
    refine ⟨(ws.length : Nat), 2, rfl, by decide, fun p4 H4 n4 e4 s4 => ?_⟩
    rw [wl] at e4
    refine cat_i (s4.keep _ _ e3 (by simp)) e4 (by simp only [List.length_append, octs_len]; decide) fun p5 H5 n5 e5 s5 => ?_
    have s05 := (s03.trans s4).trans s5
    have n5H : H p5 = none := (s03.trans s4).free n5 (by simp)
    have rp : r ≠ p5 := ne_of_none hr n5H
    clear s1 s2 s3 s4 s5 e1 e2 e3 e4 s03 n1 n2 n3 n4 n5
    repeat walk_at "h"
    refine ⟨r, rfl, ⟨ws, SqL.of (s05.keep _ _ hr (by simp))⟩, ?_⟩
    refine for_list (xs := ws) (fun i σ H' => ∃ (y4 : Option V), σ = [some (.int sd), some (.int n), some (.ref r), some (.ref p5), y4] ∧ Stp [] H H' ∧ H' p5 = some (.lst ((octs sd 1 ++ octs n 4 ++ octs (cs.length : Nat) 2 ++ ((cs.take i).map chO).flatten).map V.int)))
      ⟨_, rfl, s05, by simpa using e5⟩ (fun i σ H' _ ⟨_, _, s, _⟩ => SqL.of (s.keep _ _ hr (by simp))) ?_ ?_
    · rintro i v σ H6 hv ⟨y4, rfl, s6, e6⟩
      obtain ⟨c, hc, dc⟩ := ch_get (chs_stp hd s6) hv
      have tk : cs.take (i + 1) = cs.take i ++ [c] := by rw [List.take_add_one, hc]; rfl
      have cl := chOs_len (cs := cs.take i) fun c hc => sh c (List.mem_of_mem_take hc)
      rw [List.length_take] at cl
      have c1 := chO_len (sh c (List.mem_of_getElem? hc))
      repeat walk_at "h"
      refine ⟨.inl ⟨rfl, _, SqL.of e6⟩, ?_⟩
      repeat walk_at "h"
      refine ⟨v, c, rfl, dc, sh c (List.mem_of_getElem? hc), fun p7 H7 n7 e7 s7 => ?_⟩
      refine i_Nil (ext_i (s7.keep _ _ e6 (by simp)) e7 (by simp only [List.length_append, octs_len]; omega) fun H8 e8 s8 => ?_)
      repeat walk_at "h"
      refine ⟨_, rfl, (s6.trans s7).into n5H s8, ?_⟩
      rw [tk, chO_snoc, ← List.append_assoc]; exact e8
    · rintro σ H6 ⟨y4, rfl, s6, e6⟩
      rw [wl, List.take_length] at e6
      have cl := chOs_len sh
      repeat walk_at "h"
      refine ⟨p5, msgB sd n cs, rfl, e6, fun p7 H7 n7 e7 s7 => ?_⟩
      refine cat_i (s7.keep _ _ e6 (by simp)) e7 ?_ (q.from (s6.trans s7))
      simp only [List.length_append, octs_len, chkO, List.length_cons, List.length_nil]; omega
/-! ### the law's own writer -/
def spDigO (K : PySem.W.Frag) : Sp := spNum K
theorem cal_law_digits_of (F : Df K mg d_law_digits_of) (B : Blt mg) : Cal P w K mg base lv_law_digits_of "_law_digits_of" ["number", "many"] (spDigO K) := by
  obtain ⟨f, fd, F, g⟩ := F
  refine ⟨f, fd, F.ok sc_law_digits_of (fun vs H Q E h => ?_) (fun cdv A outer s H vs Q E hr h => ⟨_, PSs.nox
    (pss_cons (ps_set (i := 2) sc_law_digits_of.nd rfl (Or.inl rfl) (pe_lst pa_nil))
    (pss_cons (ps_for PassesOwn.never rfl (pi_range1 rfl B.range (pa_cons (pv 1) pa_nil)) (pg_name (i := 3) sc_law_digits_of.nd rfl (Or.inl rfl))
      (pss_cons (ps_set (i := 2) sc_law_digits_of.nd rfl (Or.inl rfl) (pe_op op_cat (pe_lst (pa_cons (pe_op op_mod (pv 0) pe_int) pa_nil)) (pv 2)))
        (pss_one (ps_set (i := 0) sc_law_digits_of.nd rfl (Or.inl rfl) (pe_op op_fdiv (pv 0) pe_int)))))
    (pss_one (ps_ret (pv 2))))), ?_⟩), g, F.kp, F.bindsN fun _ _ _ _ _ _ us hl => match us, hl with | [_, _], _ => rfl⟩
  · obtain ⟨n, k, rfl, _⟩ := h
    rfl
  · obtain ⟨n, k, rfl, hk, q⟩ := h
    repeat walk_at "h"
    refine ⟨Nat.zero_le _, fun p hp => ?_⟩
    have s1 : Stp [] H (upd H p (.lst [])) := .new hp
    have p1 : (upd H p (.lst [])) p = some (.lst []) := upd_same
    generalize upd H p (.lst []) = H1 at s1 p1 ⊢
    repeat walk_at "h"
    refine ⟨k, rfl, by omega, by omega, ?_⟩
    refine for_range (lo := 0) (n := (k : Int).toNat) (fun i σ H' => ∃ (y3 : Option V) (p : Addr), σ = [some (.int (n / 256 ^ i)), some (.int k), some (.ref p), y3] ∧ Stp [] H H' ∧ H p = none ∧ H' p = some (.lst ((octs n i).map V.int)))
      ⟨_, p, by simp; rfl, s1, hp, p1⟩ ?_ ?_
    · rintro i σ H2 hi ⟨y3, p, rfl, s2, np, p2⟩
      repeat walk_at "h"
      refine ⟨(by decide : 1 ≤ sizeLine), fun t ht => ?_⟩
      have s3 : Stp [] H2 (upd H2 t (.lst [.int (n / 256 ^ i % 256)])) := .new ht
      have t3 : (upd H2 t (.lst [.int (n / 256 ^ i % 256)])) t = some (.lst (([n / 256 ^ i % 256] : List Int).map V.int)) := upd_same
      generalize upd H2 t (.lst [.int (n / 256 ^ i % 256)]) = H3 at s3 t3 ⊢
      repeat walk_at "h"
      refine cat_i t3 (s3.keep _ _ p2 (by simp)) (by rw [octs_len]; simp; omega) fun p4 H4 n4 e4 s4 => ?_
      repeat walk_at "h"
      refine ⟨some (.int (0 + (i : Int))), p4, by rw [← div_pow']; rfl, (s2.trans s3).trans s4, (s2.trans s3).free n4 (by simp), ?_⟩
      rw [octs_cons]; exact e4
    · rintro σ H2 ⟨y3, p, rfl, s2, np, p2⟩
      repeat walk_at "h"
      exact q p H2 np p2 s2
/-- a to z -/
def azZ (z : Str) : Prop := ∀ c ∈ z.cps.toList, 97 ≤ c ∧ c ≤ 122
theorem az_index {c : Nat} (h : 97 ≤ c ∧ c ≤ 122) : ∃ rest, Builtin.Str.occurrences (Str.ofString "abcdefghijklmnopqrstuvwxyz") ⟨#[c]⟩ 0 (Str.ofString "abcdefghijklmnopqrstuvwxyz").length 1 = (c - 97) :: rest := by
  obtain ⟨k, rfl⟩ : ∃ k, c = 97 + k := ⟨c - 97, by omega⟩
  have hk : k < 26 := by omega
  have all : ∀ k : Fin 26, (Builtin.Str.occurrences (Str.ofString "abcdefghijklmnopqrstuvwxyz") ⟨#[97 + k.val]⟩ 0 (Str.ofString "abcdefghijklmnopqrstuvwxyz").length 1).head? = some (97 + k.val - 97) := by decide +kernel
  have h2 := all ⟨k, hk⟩
  cases e : Builtin.Str.occurrences (Str.ofString "abcdefghijklmnopqrstuvwxyz") ⟨#[97 + k]⟩ 0 (Str.ofString "abcdefghijklmnopqrstuvwxyz").length 1 with
  | nil => rw [e] at h2; cases h2
  | cons a rest =>
    rw [e] at h2
    simp only [List.head?_cons, Option.some.injEq] at h2
    exact ⟨rest, by rw [h2]⟩
def spLetters (K : PySem.W.Frag) : Sp := fun vs H Q _ => ∃ (z : Str), vs = [.str z] ∧ z.length ≤ 100 ∧ azZ z ∧ NewI H (wordO z) Q
theorem cal_law_letters (F : Df K mg d_law_letters) (B : Blt mg) : Cal P w K mg base lv_law_letters "_law_letters" ["word"] (spLetters K) := by
  obtain ⟨f, fd, F, g⟩ := F
  refine ⟨f, fd, F.ok sc_law_letters (fun vs H Q E h => ?_) (fun cdv A outer s H vs Q E hr h => ⟨_, PSs.nox
    (pss_one (ps_ret (pe_op op_cat (pe_lst (pa_cons (pe_callB call_len_str (by rfl) B.len boot_len (pa_cons (pv 0) pa_nil)) pa_nil)) (pe_lc (own := [("sign", 1)]) (g := gName 1) (by rfl) sc_law_letters.nd (pi_str (pv 0)) (blkOk_by (N := ["word", "sign"]) (own := [("sign", 1)]) (sc := defScope s_law_letters) (by decide +kernel)) (fun _ _ _ _ _ => (pg_name (i := 1) sc_law_letters.nd rfl (Or.inl rfl))) (fun _ _ _ _ _ => pts_nil) (fun _ _ _ _ _ => (pe_op op_add (pe_bmK (K := K) rfl PySem.F.plainAttrs_str PySem.F.slot_str_index PySem.F.type_str_index mt_sindex pe_str (pa_cons (pv 1) pa_nil)) pe_int)))))), ?_⟩), g, F.kp, F.bindsN fun _ _ _ _ _ _ us hl => match us, hl with | [_], _ => rfl⟩
  · obtain ⟨z, rfl, _⟩ := h
    rfl
  · obtain ⟨z, rfl, hz, az, q⟩ := h
    repeat walk_at "h"
    refine ⟨z, rfl, Nat.le_trans hz (by decide), ?_⟩
    repeat walk_at "h"
    refine ⟨(by decide : 1 ≤ sizeLine), fun p hp => ?_⟩
    have s1 : Stp [] H (upd H p (.lst [.int (z.length : Nat)])) := .new hp
    have p1 : (upd H p (.lst [.int (z.length : Nat)])) p = some (.lst ((octs (z.length : Nat) 1).map V.int)) := by
      rw [upd_same]
      have : ((z.length : Nat) : Int) % 256 = (z.length : Nat) := Int.emod_eq_of_lt (by omega) (by omega)
      simp [octs, this]
    generalize upd H p (.lst [.int (z.length : Nat)]) = H1 at s1 p1 ⊢
    repeat walk_at "h"
    refine lc_codes (i := 0) (j := 1) rfl (by omega) (fun c σ2 H2 Q2 hc e q2 => ?_) fun p2 H2 hp2 p2' s2 => ?_
    · subst e
      obtain ⟨rest, ho⟩ := az_index (az c hc)
      repeat walk_at "h"
      refine ⟨rfl, ?_⟩
      repeat walk_at "h"
      refine ⟨_, _, _, _, rfl, rfl, ho, ?_⟩
      repeat walk_at "h"
      have := az c hc
      have e1 : (((c - 97 : Nat) : Int) + 97) = (c : Nat) := by omega
      rw [e1]; exact q2
    · refine cat_i (s2.keep _ _ p1 (by simp)) p2' ?_ (q.from (s1.trans s2))
      unfold codes
      rw [octs_len, List.length_map]
      have : z.cps.toList.length = z.length := rfl
      omega
def spSums (K : PySem.W.Frag) : Sp := spChk K
theorem cal_law_sums (F : Df K mg d_law_sums) (B : Blt mg) : Cal P w K mg base lv_law_sums "_law_sums" ["code"] (spSums K) := by
  obtain ⟨f, fd, F, g⟩ := F
  refine ⟨f, fd, F.ok sc_law_sums (fun vs H Q E h => ?_) (fun cdv A outer s H vs Q E hr h => ⟨_, PSs.nox
    (pss_cons (ps_set (i := 1) sc_law_sums.nd rfl (Or.inl rfl) pe_int)
    (pss_cons (ps_set (i := 2) sc_law_sums.nd rfl (Or.inl rfl) pe_int)
    (pss_cons (ps_for PassesOwn.never rfl (pi_list (pv 0)) (pg_name (i := 3) sc_law_sums.nd rfl (Or.inl rfl))
      (pss_cons (ps_set (i := 1) sc_law_sums.nd rfl (Or.inl rfl) (pe_op op_mod (pe_callTy call_int1 (by rfl) B.int boot_int (pa_cons (pe_op op_add (pv 1) (pv 3)) pa_nil)) pe_int))
        (pss_one (ps_set (i := 2) sc_law_sums.nd rfl (Or.inl rfl) (pe_op op_mod (pe_callTy call_int1 (by rfl) B.int boot_int (pa_cons (pe_op op_add (pv 2) (pv 1)) pa_nil)) pe_int)))))
    (pss_one (ps_ret (pe_lst (pa_cons (pv 2) (pa_cons (pv 1) pa_nil)))))))), ?_⟩), g, F.kp, F.bindsN fun _ _ _ _ _ _ us hl => match us, hl with | [_], _ => rfl⟩
  · obtain ⟨p, os, rfl, _⟩ := h
    rfl
  · obtain ⟨p, os, rfl, hp, q⟩ := h
    repeat walk_at "h"
    refine ⟨p, rfl, ⟨_, SqL.of hp⟩, ?_⟩
    refine for_list (xs := os.map V.int) (fun i σ H' => H' = H ∧ ∃ (y3 : Option V), σ = [some (.ref p), some (.int ((os.take i).foldl sumS (0, 0)).1), some (.int ((os.take i).foldl sumS (0, 0)).2), y3])
      ⟨rfl, _, rfl⟩ (fun i σ H' _ ⟨e, _⟩ => by rw [e]; exact SqL.of hp) ?_ ?_
    · rintro i v σ H' hv ⟨rfl, y3, rfl⟩
      rw [List.getElem?_map] at hv
      obtain ⟨o, ho, rfl⟩ := Option.map_eq_some_iff.mp hv
      have tk : os.take (i + 1) = os.take i ++ [o] := by rw [List.take_add_one, ho]; rfl
      repeat walk_at "h"
      refine .inl ⟨_, rfl, ?_⟩
      repeat walk_at "h"
      refine .inl ⟨_, rfl, ?_⟩
      repeat walk_at "h"
      refine ⟨rfl, some (.int o), ?_⟩
      rw [tk, List.foldl_append]; rfl
    · rintro σ H' ⟨rfl, y3, rfl⟩
      rw [List.length_map, List.take_length]
      repeat walk_at "h"
      exact lit_i (os := chkO os) q (by simp [chkO])
end

section
variable {P : Program} {w : World} {K : PySem.W.Frag} {mg : Str → Option Value} {base : Heap}
def azVa : Va → Prop
  | .txt z => azZ z
  | .tg _ n => 0 ≤ n.1 ∧ n.1 < 256
  | _ => True
structure LawCh (c : Ch) : Prop where
  sh : shortCh c
  pr : 0 ≤ c.st.2 ∧ c.st.2 < 256
  nm : 0 ≤ c.nm.1 ∧ c.nm.1 < 256
  fd : azZ c.fd
  va : azVa c.va
theorem oct1 {x : Int} (h : 0 ≤ x ∧ x < 256) : octs x 1 = [x] := by
  simp [octs, Int.emod_eq_of_lt h.1 h.2]
/-- a list and the octets behind it -/
theorem lit_cat {H : Hp} {Q : VK} {p : Addr} {a b : List Int} (h1 : H p = some (.lst (a.map V.int))) (l : a.length + b.length ≤ 1000000) (q : NewI H (a ++ b) Q) : ∀ t, H t = none → rCat (.ref p) (.ref t) (upd H t (.lst (b.map V.int))) Q := fun t ht => by
  have s : Stp [] H (upd H t (.lst (b.map V.int))) := .new ht
  exact cat_i (s.keep _ _ h1 (by simp)) upd_same l (q.from s)
def spLMsg (K : PySem.W.Frag) : Sp := fun vs H Q _ => ∃ (sd n : Int) (r : Addr) (ws : List V) (cs : List Ch), vs = [.int sd, .int n, .ref r] ∧ (0 ≤ sd ∧ sd < 256) ∧ H r = some (.lst ws) ∧ DtsAt K H ws (cs.map chD) ∧ cs.length ≤ 100 ∧ (∀ c ∈ cs, LawCh c) ∧ NewI H (msgO sd n cs) Q
theorem cal_law_message_code (F : Df K mg d_law_message_code) (B : Blt mg) (C_law_digits_of : Cal P w K mg base lv_law_digits_of "_law_digits_of" ["number", "many"] (spDigO K)) (C_law_letters : Cal P w K mg base lv_law_letters "_law_letters" ["word"] (spLetters K)) (C_law_sums : Cal P w K mg base lv_law_sums "_law_sums" ["code"] (spSums K)) : Cal P w K mg base lv_law_message_code "_law_message_code" ["sender", "number", "changes"] (spLMsg K) := by
  obtain ⟨f, fd, F, g⟩ := F
  refine ⟨f, fd, F.ok sc_law_message_code (fun vs H Q E h => ?_) (fun cdv A outer s H vs Q E hr h => ⟨_, PSs.nox
    (pss_cons (ps_set (i := 3) sc_law_message_code.nd rfl (Or.inl rfl) (pe_op op_cat (pe_op op_cat (pe_lst (pa_cons (pv 0) pa_nil)) (pc_call C_law_digits_of (hr.mono (by decide)) (by rfl) (pa_cons (pv 1) (pa_cons pe_int pa_nil)))) (pc_call C_law_digits_of (hr.mono (by decide)) (by rfl) (pa_cons (pe_callB call_len_seq (by rfl) B.len boot_len (pa_cons (pv 2) pa_nil)) (pa_cons pe_int pa_nil)))))
    (pss_cons (ps_for PassesOwn.never rfl (pi_list (pv 2)) (pg_name (i := 4) sc_law_message_code.nd rfl (Or.inl rfl))
      (pss_cons (ps_set (i := 3) sc_law_message_code.nd rfl (Or.inl rfl) (pe_op op_cat (pe_op op_cat (pe_op op_cat (pv 3) (pc_call C_law_digits_of (hr.mono (by decide)) (by rfl) (pa_cons (pe_ix (ix_tupK (K := K) rfl) (pe_ix (ix_tupK (K := K) rfl) (pv 4) pe_int (fun _ _ => rfl)) pe_int (fun _ _ => rfl)) (pa_cons pe_int pa_nil)))) (pe_lst (pa_cons (pe_ix (ix_tupK (K := K) rfl) (pe_ix (ix_tupK (K := K) rfl) (pv 4) pe_int (fun _ _ => rfl)) pe_int (fun _ _ => rfl)) (pa_cons (pe_ix (ix_tupK (K := K) rfl) (pe_ix (ix_tupK (K := K) rfl) (pv 4) pe_int (fun _ _ => rfl)) pe_int (fun _ _ => rfl)) pa_nil)))) (pc_call C_law_digits_of (hr.mono (by decide)) (by rfl) (pa_cons (pe_ix (ix_tupK (K := K) rfl) (pe_ix (ix_tupK (K := K) rfl) (pv 4) pe_int (fun _ _ => rfl)) pe_int (fun _ _ => rfl)) (pa_cons pe_int pa_nil)))))
        (pss_cons (ps_set (i := 3) sc_law_message_code.nd rfl (Or.inl rfl) (pe_op op_cat (pv 3) (pc_call C_law_letters (hr.mono (by decide)) (by rfl) (pa_cons (pe_ix (ix_tupK (K := K) rfl) (pv 4) pe_int (fun _ _ => rfl)) pa_nil))))
        (pss_cons (ps_set (i := 5) sc_law_message_code.nd rfl (Or.inl rfl) (pe_ix (ix_tupK (K := K) rfl) (pv 4) pe_int (fun _ _ => rfl)))
        (pss_one (ps_if (pt_cmpR op_isN (pv 5) pe_non (nomark _))
          (pss_one (ps_expr (pe_bm PySem.F.plainAttrs_list PySem.F.slot_list_append PySem.F.type_list_append mt_append (pv 3) (pa_cons pe_int pa_nil))))
          (pss_one (ps_if (pt_val (pe_callB call_isi (by rfl) B.isinstance (by decide +kernel) (pa_cons (pv 5) (pa_cons (pe_bltn (v := .ty "tuple") (by rfl) B.tuple (by decide +kernel) rfl) pa_nil))))
              (pss_one (ps_set (i := 3) sc_law_message_code.nd rfl (Or.inl rfl) (pe_op op_cat (pe_op op_cat (pv 3) (pe_lst (pa_cons pe_int (pa_cons (pe_ix (ix_tupK (K := K) rfl) (pe_ix (ix_tupK (K := K) rfl) (pv 5) pe_int (fun _ _ => rfl)) pe_int (fun _ _ => rfl)) pa_nil)))) (pc_call C_law_digits_of (hr.mono (by decide)) (by rfl) (pa_cons (pe_ix (ix_tupK (K := K) rfl) (pe_ix (ix_tupK (K := K) rfl) (pv 5) pe_int (fun _ _ => rfl)) pe_int (fun _ _ => rfl)) (pa_cons pe_int pa_nil))))))
              (pss_one (ps_if (pt_val (pe_callB call_isi (by rfl) B.isinstance (by decide +kernel) (pa_cons (pv 5) (pa_cons (pe_bltn (v := .ty "str") (by rfl) B.str (by decide +kernel) rfl) pa_nil))))
                  (pss_one (ps_set (i := 3) sc_law_message_code.nd rfl (Or.inl rfl) (pe_op op_cat (pe_op op_cat (pv 3) (pe_lst (pa_cons pe_int pa_nil))) (pc_call C_law_letters (hr.mono (by decide)) (by rfl) (pa_cons (pv 5) pa_nil)))))
                  (pss_one (ps_set (i := 3) sc_law_message_code.nd rfl (Or.inl rfl) (pe_op op_cat (pe_op op_cat (pv 3) (pe_lst (pa_cons pe_int pa_nil))) (pc_call C_law_digits_of (hr.mono (by decide)) (by rfl) (pa_cons (pe_op op_add (pv 5) pe_int) (pa_cons pe_int pa_nil))))))))))))))))
    (pss_one (ps_ret (pe_op op_cat (pv 3) (pc_call C_law_sums (hr.mono (by decide)) (by rfl) (pa_cons (pv 3) pa_nil))))))), ?_⟩), g, F.kp, F.bindsN fun _ _ _ _ _ _ us hl => match us, hl with | [_, _, _], _ => rfl⟩
  · obtain ⟨sd, n, r, ws, cs, rfl, _⟩ := h
    rfl
  · obtain ⟨sd, n, r, ws, cs, rfl, hsd, hr, hd, hl, lw, q⟩ := h
    have wl : ws.length = cs.length := by have := hd.length; rwa [List.length_map] at this
    repeat walk_at "h"
    refine ⟨(by decide : 1 ≤ sizeLine), fun p1 n1 => ?_⟩
    have s1 : Stp [] H (upd H p1 (.lst [.int sd])) := .new n1
    have e1 : (upd H p1 (.lst [.int sd])) p1 = some (.lst ((octs sd 1).map V.int)) := by rw [upd_same, oct1 hsd]; rfl
    generalize upd H p1 (.lst [.int sd]) = H1 at s1 e1 ⊢
    repeat walk_at "h"
    refine ⟨n, 4, rfl, by decide, fun p2 H2 n2 e2 s2 => ?_⟩
    refine cat_i (s2.keep _ _ e1 (by simp)) e2 (by rw [octs_len, octs_len]; decide) fun p3 H3 n3 e3 s3 => ?_
    have s03 := (s1.trans s2).trans s3
    repeat walk_at "h"
    refine ⟨r, ws, rfl, .inl (SqL.of (s03.keep _ _ hr (by simp))), ?_⟩
    repeat walk_at "h"
    refine ⟨(ws.length : Nat), 2, rfl, by decide, fun p4 H4 n4 e4 s4 => ?_⟩
    rw [wl] at e4
    refine cat_i (s4.keep _ _ e3 (by simp)) e4 (by simp only [List.length_append, octs_len]; decide) fun p5 H5 n5 e5 s5 => ?_
    have s05 := (s03.trans s4).trans s5
    have n5H : H p5 = none := (s03.trans s4).free n5 (by simp)
    clear s1 s2 s3 s4 s5 e1 e2 e3 e4 s03 n1 n2 n3 n4 n5
    repeat walk_at "h"
    refine ⟨r, rfl, ⟨ws, SqL.of (s05.keep _ _ hr (by simp))⟩, ?_⟩
    refine for_list (xs := ws) (fun i σ H' => ∃ (p : Addr) (y4 y5 : Option V), σ = [some (.int sd), some (.int n), some (.ref r), some (.ref p), y4, y5] ∧ Stp [] H H' ∧ H p = none ∧ H' p = some (.lst ((octs sd 1 ++ octs n 4 ++ octs (cs.length : Nat) 2 ++ ((cs.take i).map chO).flatten).map V.int)))
      ⟨p5, _, _, rfl, s05, n5H, by simpa using e5⟩ (fun i σ H' _ ⟨_, _, _, _, s, _⟩ => SqL.of (s.keep _ _ hr (by simp))) ?_ ?_
    · rintro i v σ H6 hv ⟨p, y4, y5, rfl, s6, np, e6⟩
      obtain ⟨c, hc, dc⟩ := ch_get (chs_stp hd s6) hv
      have tk : cs.take (i + 1) = cs.take i ++ [c] := by rw [List.take_add_one, hc]; rfl
      have cl := chOs_len (cs := cs.take i) fun c hc => (lw c (List.mem_of_mem_take hc)).sh
      rw [List.length_take] at cl
      have L := lw c (List.mem_of_getElem? hc)
      have l1 := valO_len L.sh.2
      have l2 := L.sh.1
      obtain ⟨a, s, nn, x, rfl, ha, hs, hn, hx⟩ := chAt dc
      obtain ⟨sa, rfl, hsa⟩ := nmAt hs
      obtain ⟨na, rfl, hna⟩ := nmAt hn
      have bl : (octs sd 1 ++ octs n 4 ++ octs (cs.length : Nat) 2 ++ ((cs.take i).map chO).flatten).length ≤ 60000 := by
        simp only [List.length_append, octs_len]; omega
      rw [tk, chO_snoc]
      generalize octs sd 1 ++ octs n 4 ++ octs (cs.length : Nat) 2 = A0 at e6 bl ⊢
      generalize ((cs.take i).map chO).flatten = A1 at e6 bl cl ⊢
      rw [show chO c = octs c.st.1 4 ++ octs c.st.2 1 ++ (octs c.nm.1 1 ++ octs c.nm.2 4) ++ wordO c.fd ++ valO c.va from rfl]
      repeat walk_at "h"
      refine i_IxT ha.sqt (at_of (j := 0) rfl rfl) ?_
      repeat walk_at "h"
      refine i_IxT hsa.sqt (at_of (j := 0) rfl rfl) ?_
      repeat walk_at "h"
      refine ⟨c.st.1, 4, rfl, by decide, fun q1 H7 n7 e7 s7 => ?_⟩
      refine cat_i (s7.keep _ _ e6 (by simp)) e7 (by rw [octs_len]; omega) fun q2 H8 n8 e8 s8 => ?_
      have s68 := s7.trans s8
      have ha8 := ha.stp s68
      have hsa8 := hsa.stp s68
      have hna8 := hna.stp s68
      repeat walk_at "h"
      refine i_IxT ha8.sqt (at_of (j := 0) rfl rfl) ?_
      repeat walk_at "h"
      refine i_IxT hsa8.sqt (at_of (j := 1) rfl rfl) ?_
      repeat walk_at "h"
      refine i_IxT ha8.sqt (at_of (j := 1) rfl rfl) ?_
      repeat walk_at "h"
      refine i_IxT hna8.sqt (at_of (j := 0) rfl rfl) ?_
      refine i_Nil ⟨(by decide : 2 ≤ sizeLine), ?_⟩
      refine lit_cat (b := [c.st.2, c.nm.1]) e8 (by rw [List.length_append, octs_len]; simp only [List.length_cons, List.length_nil]; omega) fun q3 H9 n9 e9 s9 => ?_
      have s69 := s68.trans s9
      have ha9 := ha.stp s69
      have hna9 := hna.stp s69
      repeat walk_at "h"
      refine i_IxT ha9.sqt (at_of (j := 1) rfl rfl) ?_
      repeat walk_at "h"
      refine i_IxT hna9.sqt (at_of (j := 1) rfl rfl) ?_
      repeat walk_at "h"
      refine ⟨c.nm.2, 4, rfl, by decide, fun q4 H10 n10 e10 s10 => ?_⟩
      refine cat_i (s10.keep _ _ e9 (by simp)) e10 (by simp only [List.length_append, octs_len, List.length_cons, List.length_nil] at bl ⊢; omega) fun q5 H11 n11 e11 s11 => ?_
      have s611 := (s69.trans s10).trans s11
      have ha11 := ha.stp s611
      repeat walk_at "h"
      refine i_IxT ha11.sqt (at_of (j := 2) rfl rfl) ?_
      repeat walk_at "h"
      refine ⟨c.fd, rfl, l2, L.fd, fun q6 H12 n12 e12 s12 => ?_⟩
      refine cat_i (s12.keep _ _ e11 (by simp)) e12 (by simp only [List.length_append, octs_len, wordO_len, List.length_cons, List.length_nil] at bl ⊢; omega) fun q7 H13 n13 e13 s13 => ?_
      have s613 := (s611.trans s12).trans s13
      have n7H : H q7 = none := (s6.trans (s611.trans s12)).free n13 (by simp)
      have s013 := s6.trans s613
      have hx13 := DtAt.stp s613 _ _ (vaD_flat _) hx
      have ha13 := ha.stp s613
      have ee : A0 ++ A1 ++ octs c.st.1 4 ++ [c.st.2, c.nm.1] ++ octs c.nm.2 4 ++ wordO c.fd = A0 ++ A1 ++ (octs c.st.1 4 ++ octs c.st.2 1 ++ (octs c.nm.1 1 ++ octs c.nm.2 4) ++ wordO c.fd) := by
        rw [oct1 L.pr, oct1 L.nm]; simp
      rw [ee] at e13
      have bl2 : (A0 ++ A1 ++ (octs c.st.1 4 ++ octs c.st.2 1 ++ (octs c.nm.1 1 ++ octs c.nm.2 4) ++ wordO c.fd)).length ≤ 70000 := by
        simp only [List.length_append, octs_len, wordO_len] at bl ⊢; omega
      rw [show A0 ++ (A1 ++ (octs c.st.1 4 ++ octs c.st.2 1 ++ (octs c.nm.1 1 ++ octs c.nm.2 4) ++ wordO c.fd ++ valO c.va)) = A0 ++ A1 ++ (octs c.st.1 4 ++ octs c.st.2 1 ++ (octs c.nm.1 1 ++ octs c.nm.2 4) ++ wordO c.fd) ++ valO c.va by simp]
      clear ee e12 e11 e10 e9 e8 e7 s13 s12 s11 s10 s9 s8 s7 ha8 ha9 ha11 hsa8 hna8 hna9 n7 n8 n9 n10 n11 n12 n13 s68 s69 s611
      generalize A0 ++ A1 ++ (octs c.st.1 4 ++ octs c.st.2 1 ++ (octs c.nm.1 1 ++ octs c.nm.2 4) ++ wordO c.fd) = A2 at e13 bl2 ⊢
      repeat walk_at "h"
      refine i_IxT ha13.sqt (at_of (j := 3) rfl rfl) ?_
      repeat walk_at "h"
      refine ⟨rfl, ⟨_, rfl, ?_⟩⟩
      cases hq : c.va with
      | non =>
        rw [hq] at hx13
        cases hx13
        refine i_ite (fun _ => ?_) (fun z => by simp at z)
        repeat walk_at "h"
        refine ⟨.inl ⟨rfl, _, SqL.of e13⟩, ?_⟩
        repeat walk_at "h"
        refine ⟨q7, _, _, rfl, rfl, e13, by rw [List.length_map]; exact Nat.lt_of_le_of_lt bl2 (by decide), ?_⟩
        have s14 : Stp [q7] H13 (upd H13 q7 (.lst (A2.map V.int ++ [.int 0]))) := .wr (by simp) e13 fun _ z => nomatch z
        repeat walk_at "h"
        exact ⟨q7, _, _, rfl, s013.into n7H s14, n7H, by rw [upd_same, List.map_append]; rfl⟩
      | num z =>
        rw [hq] at hx13
        have hx0 := hx13
        obtain rfl := numAt hx13
        refine i_ite (fun z => by simp at z) (fun _ => ?_)
        repeat walk_at "h"
        refine i_Isi "int" false hx0 ?_
        repeat walk_at "h"
        refine iteF ?_
        repeat walk_at "h"
        refine i_Isi "int" false hx0 ?_
        repeat walk_at "h"
        refine iteF ?_
        repeat walk_at "h"
        refine ⟨(by decide : 1 ≤ sizeLine), ?_⟩
        refine lit_cat (b := [1]) e13 (by simp only [List.length_cons, List.length_nil]; omega) fun q8 H14 n14 e14 s14 => ?_
        repeat walk_at "h"
        refine ⟨z + 1000000, 3, rfl, by decide, fun q9 H15 n15 e15 s15 => ?_⟩
        refine cat_i (s15.keep _ _ e14 (by simp)) e15 (by rw [List.length_append, octs_len]; simp only [List.length_cons, List.length_nil]; omega) fun q10 H16 n16 e16 s16 => ?_
        repeat walk_at "h"
        refine ⟨q10, _, _, rfl, ((s013.trans s14).trans s15).trans s16, ((s013.trans s14).trans s15).free n16 (by simp), ?_⟩
        rw [e16, List.append_assoc]; rfl
      | txt z =>
        rw [hq] at hx13 l1
        have hx0 := hx13
        obtain rfl := txtAt hx13
        have hz : z.length ≤ 100 := by have := L.sh.2; rw [hq] at this; exact this
        have az : azZ z := by have := L.va; rw [hq] at this; exact this
        refine i_ite (fun z => by simp at z) (fun _ => ?_)
        repeat walk_at "h"
        refine i_Isi "str" false hx0 ?_
        repeat walk_at "h"
        refine iteF ?_
        repeat walk_at "h"
        refine i_Isi "str" true hx0 ?_
        repeat walk_at "h"
        refine iteT ?_
        repeat walk_at "h"
        refine ⟨(by decide : 1 ≤ sizeLine), ?_⟩
        refine lit_cat (b := [2]) e13 (by simp only [List.length_cons, List.length_nil]; omega) fun q8 H14 n14 e14 s14 => ?_
        repeat walk_at "h"
        refine ⟨z, rfl, hz, az, fun q9 H15 n15 e15 s15 => ?_⟩
        refine cat_i (s15.keep _ _ e14 (by simp)) e15 (by rw [List.length_append, wordO_len]; simp only [List.length_cons, List.length_nil]; omega) fun q10 H16 n16 e16 s16 => ?_
        repeat walk_at "h"
        refine ⟨q10, _, _, rfl, ((s013.trans s14).trans s15).trans s16, ((s013.trans s14).trans s15).free n16 (by simp), ?_⟩
        rw [e16, List.append_assoc]; rfl
      | tg s m =>
        rw [hq] at hx13
        have hx0 := hx13
        obtain ⟨ra, rb, rfl, hra, hrb⟩ := tgAt hx13
        obtain ⟨_, _, hrb2⟩ := nmAt hrb
        cases ‹V.ref rb = V.ref _›
        have hm : 0 ≤ m.1 ∧ m.1 < 256 := by have := L.va; rw [hq] at this; exact this
        refine i_ite (fun z => by simp at z) (fun _ => ?_)
        repeat walk_at "h"
        refine i_Isi "tuple" true hx0 ?_
        repeat walk_at "h"
        refine iteT ?_
        repeat walk_at "h"
        refine i_IxT hra.sqt (at_of (j := 1) rfl rfl) ?_
        repeat walk_at "h"
        refine i_IxT hrb2.sqt (at_of (j := 0) rfl rfl) ?_
        refine i_Nil ⟨(by decide : 2 ≤ sizeLine), ?_⟩
        refine lit_cat (b := [3, m.1]) e13 (by simp only [List.length_cons, List.length_nil]; omega) fun q8 H14 n14 e14 s14 => ?_
        repeat walk_at "h"
        refine i_IxT (hra.stp s14).sqt (at_of (j := 1) rfl rfl) ?_
        repeat walk_at "h"
        refine i_IxT (hrb2.stp s14).sqt (at_of (j := 1) rfl rfl) ?_
        repeat walk_at "h"
        refine ⟨m.2, 4, rfl, by decide, fun q9 H15 n15 e15 s15 => ?_⟩
        refine cat_i (s15.keep _ _ e14 (by simp)) e15 (by rw [List.length_append, octs_len]; simp only [List.length_cons, List.length_nil]; omega) fun q10 H16 n16 e16 s16 => ?_
        repeat walk_at "h"
        refine ⟨q10, _, _, rfl, ((s013.trans s14).trans s15).trans s16, ((s013.trans s14).trans s15).free n16 (by simp), ?_⟩
        rw [e16, show valO (.tg s m) = [3] ++ (octs m.1 1 ++ octs m.2 4) from rfl, oct1 hm]
        simp
    · rintro σ H6 ⟨p, y4, y5, rfl, s6, np, e6⟩
      rw [wl, List.take_length] at e6
      have cl := chOs_len fun c hc => (lw c hc).sh
      repeat walk_at "h"
      refine ⟨p, msgB sd n cs, rfl, e6, fun p7 H7 n7 e7 s7 => ?_⟩
      refine cat_i (s7.keep _ _ e6 (by simp)) e7 ?_ (q.from (s6.trans s7))
      simp only [List.length_append, octs_len, chkO, List.length_cons, List.length_nil]; omega
end

/-! ### the reader -/
section
variable {P : Program} {w : World} {K : PySem.W.Frag} {mg : Str → Option Value} {base : Heap} {C : Addr}
abbrev octetsS : Str := Str.ofString "octets"
abbrev placeS : Str := Str.ofString "place"
/-- a reader at r of the octets os at o, so far -/
structure RdAt (C : Addr) (H : Hp) (r dx o : Addr) (os : List Int) (n : Nat) : Prop where
  at_ : H r = some (.ins C dx [(octetsS, .ref o), (placeS, .int (n : Nat))])
  os_ : H o = some (.lst (os.map V.int))
theorem RdAt.grow {H H1 : Hp} {r dx o : Addr} {os : List Int} {n : Nat} (h : RdAt C H r dx o os n) (s : Stp [] H H1) : RdAt C H1 r dx o os n := ⟨s.keep _ _ h.at_ (by simp), s.keep _ _ h.os_ (by simp)⟩
theorem RdAt.ne {H : Hp} {r dx o : Addr} {os : List Int} {n : Nat} (h : RdAt C H r dx o os n) : o ≠ r := by
  rintro rfl
  have h1 := h.at_
  rw [h.os_] at h1
  cases h1
structure RdC (K : PySem.W.Frag) (C : Addr) : Prop where
  cls : Cls K C
  oc : NoAttr K C "octets"
  pl : NoAttr K C "place"
def spRInit (C : Addr) : Sp := fun vs H Q _ => ∃ (r dx o : Addr) (os : List Int), vs = [.ref r, .ref o] ∧ H r = some (.ins C dx []) ∧ H o = some (.lst (os.map V.int)) ∧ ∀ H1, RdAt C H1 r dx o os 0 → Stp [r] H H1 → Q .non H1
theorem mki_Reader_init (F : Dfi K mg C "Reader" d_Reader_init) (R : RdC K C) : Mki P w K mg base lv_Reader_init C "Reader" ["self", "octets"] (spRInit C) := by
  obtain ⟨f, fd, F, g⟩ := F
  refine ⟨f, fd, F.ok sc_Reader_init (fun vs H Q E h => ?_) (fun cdv A outer s H vs Q E hr h => ⟨_, PSs.nox
    (pss_cons (ps_fld (pv 0) (pv 1) rfl)
    (pss_one (ps_fld (pv 0) pe_int rfl))), ?_⟩), g, F.kp, F.bindsN fun _ _ _ _ _ _ us hl => match us, hl with | [_, _], _ => rfl⟩
  · obtain ⟨r, dx, o, os, rfl, _⟩ := h
    rfl
  · obtain ⟨r, dx, o, os, rfl, hr, ho, q⟩ := h
    repeat walk_at "h"
    refine ⟨r, C, dx, [], rfl, hr, R.cls, R.oc, by decide, ?_⟩
    have s1 : Stp [r] H (upd H r (.ins C dx (putF "octets" (.ref o) []))) := .wr (by simp) hr fun _ z => nomatch z
    have r1 : (upd H r (.ins C dx (putF "octets" (.ref o) []))) r = some (.ins C dx [(octetsS, .ref o)]) := upd_same
    have or : o ≠ r := by
      rintro rfl
      rw [ho] at hr; cases hr
    have o1 := s1.keep _ _ ho (by simpa using or)
    generalize upd H r (.ins C dx (putF "octets" (.ref o) [])) = H1 at s1 r1 o1 ⊢
    repeat walk_at "h"
    refine ⟨r, C, dx, _, rfl, r1, R.cls, R.pl, (show 1 < 1000 by decide), ?_⟩
    have s2 : Stp [r] H1 (upd H1 r (.ins C dx (putF "place" (.int 0) [(octetsS, .ref o)]))) := .wr (by simp) r1 fun _ z => nomatch z
    exact q _ ⟨upd_same, s2.keep _ _ o1 (by simpa using or)⟩ (s1.trans s2)
def spOctet (C : Addr) : Sp := fun vs H Q _ => ∃ (r dx o : Addr) (os : List Int) (n : Nat) (a b x : Int), vs = [.ref r, .int a, .int b] ∧ RdAt C H r dx o os n ∧ os[n]? = some x ∧ a ≤ x ∧ x ≤ b ∧ ∀ H1, RdAt C H1 r dx o os (n + 1) → Stp [r] H H1 → Q (.int x) H1
theorem mth_Reader_next_octet (F : Dfm K C d_Reader_next_octet) (B : Blt mg) (R : RdC K C) : Mth P w K mg base lv_Reader_next_octet C "next_octet" ["self", "least", "greatest"] (spOctet C) := by
  have CL_Reader := R.cls
  obtain ⟨f, fd, F, g⟩ := F
  refine ⟨f, fd, F.ok sc_Reader_next_octet (fun vs H Q E h => ?_) (fun cdv A outer s H vs Q E hr h => ⟨_, PSs.nox
    (pss_cons (ps_if (pt_cmpR op_ge (pe_fld (pv 0) rfl) (pe_callB call_len_seq (by rfl) B.len boot_len (pa_cons (pe_fld (pv 0) rfl) pa_nil)) (nomark _))
      (pss_one ps_never)
      pss_nil)
    (pss_cons (ps_set (i := 3) sc_Reader_next_octet.nd rfl (Or.inl rfl) (pe_ix (ix_listK (K := K) rfl) (pe_fld (pv 0) rfl) (pe_fld (pv 0) rfl) (fun _ _ => rfl)))
    (pss_cons (ps_if (PW.pt (pw_or (pt_cmpR op_lt (pv 3) (pv 1) (nomark _)) (pw_or1 (pt_cmpR op_gt (pv 3) (pv 2) (nomark _)))))
      (pss_one ps_never)
      pss_nil)
    (pss_cons (ps_fldaug (pv 0) pe_int in_add)
    (pss_one (ps_ret (pv 3))))))), ?_⟩), g, F.kp, F.bindsN fun _ _ _ _ _ _ us hl => match us, hl with | [_, _, _], _ => rfl⟩
  · obtain ⟨r, dx, o, os, n, a, b, x, rfl, _⟩ := h
    rfl
  · obtain ⟨r, dx, o, os, n, a, b, x, rfl, ⟨hr, ho⟩, hx, ha, hb, q⟩ := h
    have hn := (List.getElem?_eq_some_iff.mp hx).1
    have or : o ≠ r := (show RdAt C H r dx o os n from ⟨hr, ho⟩).ne
    repeat walk_at "h"
    refine ⟨r, C, dx, _, _, rfl, hr, R.cls, R.pl, rfl, ?_⟩
    repeat walk_at "h"
    refine ⟨r, C, dx, _, _, rfl, hr, R.cls, R.oc, rfl, ?_⟩
    repeat walk_at "h"
    refine ⟨o, _, rfl, .inl (SqL.of ho), ?_⟩
    refine i_I0 ⟨_, rfl, i_iteD (fun h => ?_) (fun h => ?_)⟩
    · rw [List.length_map] at h; omega
    · repeat walk_at "h"
      refine ⟨r, C, dx, _, _, rfl, hr, R.cls, R.oc, rfl, ?_⟩
      repeat walk_at "h"
      refine ⟨r, C, dx, _, _, rfl, hr, R.cls, R.pl, rfl, ?_⟩
      refine i_IxL (SqL.of ho) (at_of (j := n) rfl (by rw [List.getElem?_map, hx]; rfl)) ?_
      repeat walk_at "h"
      rw [decide_eq_false (show ¬ x < a by omega), decide_eq_false (show ¬ b < x by omega)]
      refine iteF ?_
      repeat walk_at "h"
      refine ⟨_, rfl, r, C, dx, _, _, rfl, hr, R.cls, R.pl, rfl, ?_⟩
      repeat walk_at "h"
      refine ⟨_, _, rfl, rfl, dx, _, hr, (show 2 < 1000 by decide), ?_⟩
      have s1 : Stp [r] H (upd H r (.ins C dx (putF "place" (.int ((n : Nat) + 1)) [(octetsS, .ref o), (placeS, .int (n : Nat))]))) := .wr (by simp) hr fun _ z => nomatch z
      repeat walk_at "h"
      exact q _ ⟨upd_same, s1.keep _ _ ho (by simpa using or)⟩ s1
theorem octs_get (v : Int) : ∀ {k i : Nat}, i < k → (octs v k)[i]? = some (v / 256 ^ (k - 1 - i) % 256)
  | k + 1, 0, _ => by rw [octs_cons]; simp
  | k + 1, i + 1, h => by
    rw [octs_cons, List.getElem?_cons_succ, octs_get v (k := k) (i := i) (by omega)]
    rw [show k + 1 - 1 - (i + 1) = k - 1 - i by omega]
theorem take_get {os ys : List Int} {n k i : Nat} (h : (os.drop n).take k = ys) (hi : i < k) : os[n + i]? = ys[i]? := by
  rw [← h, List.getElem?_take, if_pos hi, List.getElem?_drop]
theorem pow_2_256 (m : Nat) : (2 : Int) ^ (8 * m) = 256 ^ m := by
  rw [Int.pow_mul]; rfl
def spRNum (C : Addr) : Sp := fun vs H Q _ => ∃ (r dx o : Addr) (os : List Int) (n k : Nat) (a b v : Int), vs = [.ref r, .int k, .int a, .int b] ∧ RdAt C H r dx o os n ∧ k ≤ 8 ∧ (os.drop n).take k = octs v k ∧ 0 ≤ v ∧ v < 256 ^ k ∧ a ≤ v ∧ v ≤ b ∧ ∀ H1, RdAt C H1 r dx o os (n + k) → Stp [r] H H1 → Q (.int v) H1
theorem mth_Reader_next_number (F : Dfm K C d_Reader_next_number) (B : Blt mg) (CL_Reader : Cls K C) (M_Reader_next_octet : Mth P w K mg base lv_Reader_next_octet C "next_octet" ["self", "least", "greatest"] (spOctet C)) : Mth P w K mg base lv_Reader_next_number C "next_number" ["self", "many", "least", "greatest"] (spRNum C) := by
  obtain ⟨f, fd, F, g⟩ := F
  refine ⟨f, fd, F.ok sc_Reader_next_number (fun vs H Q E h => ?_) (fun cdv A outer s H vs Q E hr h => ⟨_, PSs.nox
    (pss_cons (ps_set (i := 4) sc_Reader_next_number.nd rfl (Or.inl rfl) pe_int)
    (pss_cons (ps_for PassesOwn.never rfl (pi_range1 rfl B.range (pa_cons (pv 1) pa_nil)) (pg_name (i := 5) sc_Reader_next_number.nd rfl (Or.inl rfl))
      (pss_cons (ps_set (i := 6) sc_Reader_next_number.nd rfl (Or.inl rfl) (pe_op op_mul pe_int (pe_op op_sub (pe_op op_sub (pv 1) pe_int) (pv 5))))
        (pss_cons (ps_set (i := 7) sc_Reader_next_number.nd rfl (Or.inl rfl) (pe_op op_sub (pe_op op_shr (pv 2) (pv 6)) (pe_op op_mul pe_int (pv 4))))
        (pss_cons (ps_set (i := 8) sc_Reader_next_number.nd rfl (Or.inl rfl) (pe_op op_sub (pe_op op_shr (pv 3) (pv 6)) (pe_op op_mul pe_int (pv 4))))
        (pss_one (ps_set (i := 4) sc_Reader_next_number.nd rfl (Or.inl rfl) (pe_op op_add (pe_op op_mul pe_int (pv 4)) (pc_meth (pv 0) CL_Reader M_Reader_next_octet (hr.mono (by decide)) (pa_cons (pe_callB (call_max2 rfl) (by rfl) B.max (by decide +kernel) (pa_cons (pv 7) (pa_cons pe_int pa_nil))) (pa_cons (pe_callB (call_min2 rfl) (by rfl) B.min (by decide +kernel) (pa_cons (pv 8) (pa_cons pe_int pa_nil))) pa_nil))))))))))
    (pss_one (ps_ret (pv 4))))), ?_⟩), g, F.kp, F.bindsN fun _ _ _ _ _ _ us hl => match us, hl with | [_, _, _, _], _ => rfl⟩
  · obtain ⟨r, dx, o, os, n, k, a, b, v, rfl, _⟩ := h
    rfl
  · obtain ⟨r, dx, o, os, n, k, a, b, v, rfl, hr, k8, ht, v0, v1, ha, hb, q⟩ := h
    repeat walk_at "h"
    refine ⟨k, rfl, by omega, by omega, ?_⟩
    refine for_range (lo := 0) (n := (k : Int).toNat) (fun i σ H' => ∃ (y5 y6 y7 y8 : Option V), σ = [some (.ref r), some (.int k), some (.int a), some (.int b), some (.int (v / 256 ^ (k - i))), y5, y6, y7, y8] ∧ Stp [r] H H' ∧ RdAt C H' r dx o os (n + i))
      ⟨_, _, _, _, by rw [Nat.sub_zero, Int.ediv_eq_zero_of_lt v0 v1]; rfl, .refl _, hr⟩ ?_ ?_
    · rintro i σ H2 hi ⟨y5, y6, y7, y8, rfl, s2, r2⟩
      rw [Int.toNat_natCast] at hi
      obtain ⟨m, hm⟩ : ∃ m : Nat, k = i + (m + 1) := ⟨k - i - 1, by omega⟩
      have e1 : k - i = m + 1 := by omega
      have e2 : k - (i + 1) = m := by omega
      rw [e1, e2]
      repeat walk_at "h"
      have eb : (8 * ((k : Int) - 1 - (0 + (i : Int)))).toNat = 8 * m := by omega
      refine i_I (show (0 : Int) ≤ 8 * ((k : Int) - 1 - (0 + (i : Int))) by omega) ?_
      rw [eb, pow_2_256]
      repeat walk_at "h"
      refine i_I (show (0 : Int) ≤ 8 * ((k : Int) - 1 - (0 + (i : Int))) by omega) ?_
      rw [eb, pow_2_256]
      repeat walk_at "h"
      have hx : os[n + i]? = some (v / 256 ^ m % 256) := by
        rw [take_get ht (by omega), octs_get v (by omega), show k - 1 - i = m by omega]
      have pm : (0 : Int) < 256 ^ m := Int.pow_pos (by decide)
      have la : a / 256 ^ m ≤ v / 256 ^ m := Int.ediv_le_ediv pm ha
      have lb : v / 256 ^ m ≤ b / 256 ^ m := Int.ediv_le_ediv pm hb
      have dv : 256 * (v / 256 ^ (m + 1)) + v / 256 ^ m % 256 = v / 256 ^ m := by
        rw [← div_pow']; exact Int.mul_ediv_add_emod _ _
      have x0 : 0 ≤ v / 256 ^ m % 256 := Int.emod_nonneg _ (by decide)
      have x1 : v / 256 ^ m % 256 < 256 := Int.emod_lt_of_pos _ (by decide)
      generalize v / 256 ^ m % 256 = x at hx dv x0 x1
      rw [← dv]
      generalize v / 256 ^ (m + 1) = u at dv la lb ⊢
      generalize a / 256 ^ m = am at la ⊢
      generalize b / 256 ^ m = bm at lb ⊢
      refine ⟨r, dx, _, rfl, r2.at_, rfl, ?_⟩
      repeat walk_at "h"
      refine ⟨_, _, rfl, ?_⟩
      repeat walk_at "h"
      refine ⟨_, _, rfl, ?_⟩
      repeat walk_at "h"
      refine ⟨r, dx, o, os, n + i, _, _, x, rfl, r2, hx, by split <;> omega, by split <;> omega, fun H3 r3 s3 => ?_⟩
      repeat walk_at "h"
      exact ⟨_, _, _, _, rfl, s2.trans s3, r3⟩
    · rintro σ H2 ⟨y5, y6, y7, y8, rfl, s2, r2⟩
      rw [Int.toNat_natCast] at r2
      repeat walk_at "h"
      rw [Int.toNat_natCast, Nat.sub_self, Int.pow_zero, Int.ediv_one]
      exact q H2 r2 s2
end

section
variable {P : Program} {w : World} {K : PySem.W.Frag} {mg : Str → Option Value} {base : Heap} {C : Addr}
def strOf (l : List Nat) : Str := ⟨l.toArray⟩
theorem strOf_self (z : Str) : strOf z.cps.toList = z := by
  obtain ⟨c⟩ := z
  simp [strOf]
theorem strOf_len (l : List Nat) : (strOf l).length = l.length := by
  show l.toArray.size = l.length
  simp
theorem strOf_snoc (l : List Nat) (c : Nat) : strOf l ++ (⟨#[c]⟩ : Str) = strOf (l ++ [c]) := by
  show (⟨l.toArray ++ #[c]⟩ : Str) = ⟨(l ++ [c]).toArray⟩
  simp
theorem str_app_cps (a b : Str) : (a ++ b).cps.toList = a.cps.toList ++ b.cps.toList := by
  show (a.cps ++ b.cps).toList = _
  simp
theorem mul_pos {n : Int} (h : 1 ≤ n) : (Txt.mul (Str.ofString "z") n).cps.toList ≠ [] := by
  unfold Txt.mul
  rw [if_neg (by omega)]
  split
  · decide
  · obtain ⟨k, hk⟩ : ∃ k : Nat, n.toNat = k + 1 := ⟨n.toNat - 1, by omega⟩
    rw [hk]
    have : ∀ (k : Nat) (a : Array Nat), a.toList ≠ [] → ((List.replicate k (Str.ofString "z").cps).foldl (· ++ ·) a).toList ≠ [] := by
      intro k
      induction k with
      | zero => intro a h; exact h
      | succ k ih =>
        intro a h
        rw [List.replicate_succ, List.foldl_cons]
        exact ih _ (by simp [h])
    rw [List.replicate_succ, List.foldl_cons]
    exact this k _ (by decide)
def spOrder (C : Addr) : Sp := fun vs H Q _ => ∃ (r : Addr) (z : Str) (m : Nat), vs = [.ref r, .str z, .int m, .str (Str.ofString "")] ∧ z.length ≤ m ∧ m ≤ 100 ∧ Q .non H
theorem mth_Reader_check_order (F : Dfm K C d_Reader_check_order) (B : Blt mg) : Mth P w K mg base lv_Reader_check_order C "_check_order" ["self", "begun", "many", "before"] (spOrder C) := by
  obtain ⟨f, fd, F, g⟩ := F
  refine ⟨f, fd, F.ok sc_Reader_check_order (fun vs H Q E h => ?_) (fun cdv A outer s H vs Q E hr h => ⟨_, PSs.nox
    (pss_cons (ps_set (i := 4) sc_Reader_check_order.nd rfl (Or.inl rfl) (pe_op op_add_str (pv 1) (pe_op op_mul_str pe_str (pe_op op_sub (pv 2) (pe_callB call_len_str (by rfl) B.len boot_len (pa_cons (pv 1) pa_nil))))))
    (pss_one (ps_if (PW.pt (pw_and (pt_cmpR op_gt (pv 2) pe_int (nomark _)) (pw_and1 (pt_cmpR op_le_str (pv 4) (pv 3) (nomark _)))))
      (pss_one ps_never)
      pss_nil))), ?_⟩), g, F.kp, F.bindsN fun _ _ _ _ _ _ us hl => match us, hl with | [_, _, _, _], _ => rfl⟩
  · obtain ⟨r, z, m, rfl, _⟩ := h
    rfl
  · obtain ⟨r, z, m, rfl, hz, hm, q⟩ := h
    have hsz := sizeLine_eq
    repeat walk_at "h"
    refine ⟨z, rfl, by omega, ?_⟩
    repeat walk_at "h"
    refine ⟨_, _, rfl, rfl, rfl, by omega, by omega, ?_⟩
    have ml : (Txt.mul (Str.ofString "z") ((m : Int) - (z.length : Nat))).length ≤ 1000 := by
      have all : ∀ n : Fin 101, (Txt.mul (Str.ofString "z") (n.val : Int)).length ≤ 1000 := by decide +kernel
      have h := all ⟨m - z.length, by omega⟩
      have e : (((m - z.length : Nat)) : Int) = (m : Int) - (z.length : Nat) := by omega
      rw [← e]; exact h
    refine ⟨_, _, rfl, rfl, by omega, ?_⟩
    repeat walk_at "h"
    refine i_iteD (fun h0 => ?_) (fun h0 => ?_)
    · repeat walk_at "h"
      have lt : (Str.ofString "").cps.toList < (z ++ Txt.mul (Str.ofString "z") ((m : Int) - (z.length : Nat))).cps.toList := by
        rw [str_app_cps, show (Str.ofString "").cps.toList = ([] : List Nat) from rfl]
        cases e : z.cps.toList with
        | cons c l => exact List.nil_lt_cons _ _
        | nil =>
          have zl : z.length = 0 := by
            have : z.cps.toList.length = z.length := rfl
            rw [← this, e]; rfl
          rw [List.nil_append]
          have h2 := mul_pos (n := (m : Int) - (z.length : Nat)) (by omega)
          cases e2 : (Txt.mul (Str.ofString "z") ((m : Int) - (z.length : Nat))).cps.toList with
          | nil => exact absurd e2 h2
          | cons c l => exact List.nil_lt_cons _ _
      refine ⟨_, _, rfl, rfl, ?_⟩
      rw [decide_eq_true lt]
      refine ⟨_, rfl, iteF ?_⟩
      repeat walk_at "h"
      exact q
    · refine iteF ?_
      repeat walk_at "h"
      exact q
def spRWord (C : Addr) : Sp := fun vs H Q _ => ∃ (r dx o : Addr) (os : List Int) (n : Nat) (a b : Int) (z : Str), vs = [.ref r, .int a, .int b, .str (Str.ofString "")] ∧ RdAt C H r dx o os n ∧ (os.drop n).take (1 + z.length) = wordO z ∧ a ≤ (z.length : Nat) ∧ ((z.length : Nat) : Int) ≤ b ∧ z.length ≤ 100 ∧ azZ z ∧ ∀ H1, RdAt C H1 r dx o os (n + (1 + z.length)) → Stp [r] H H1 → Q (.str z) H1
theorem az_letter {c : Nat} (h : 97 ≤ c ∧ c ≤ 122) : (Str.ofString "abcdefghijklmnopqrstuvwxyz").cps.toList[c - 97]? = some c := by
  have all : ∀ k : Fin 26, (Str.ofString "abcdefghijklmnopqrstuvwxyz").cps.toList[k.val]? = some (97 + k.val) := by decide +kernel
  have h2 := all ⟨c - 97, by omega⟩
  rw [h2]
  congr 1
  show 97 + (c - 97) = c
  omega
theorem mth_Reader_next_word (F : Dfm K C d_Reader_next_word) (B : Blt mg) (N : ConW mg) (CL_Reader : Cls K C) (M_Reader_next_octet : Mth P w K mg base lv_Reader_next_octet C "next_octet" ["self", "least", "greatest"] (spOctet C)) (M_Reader_check_order : Mth P w K mg base lv_Reader_check_order C "_check_order" ["self", "begun", "many", "before"] (spOrder C)) : Mth P w K mg base lv_Reader_next_word C "next_word" ["self", "least", "greatest", "before"] (spRWord C) := by
  obtain ⟨f, fd, F, g⟩ := F
  refine ⟨f, fd, F.ok sc_Reader_next_word (fun vs H Q E h => ?_) (fun cdv A outer s H vs Q E hr h => ⟨_, PSs.nox
    (pss_cons (ps_set (i := 4) sc_Reader_next_word.nd rfl (Or.inl rfl) (pc_meth (pv 0) CL_Reader M_Reader_next_octet (hr.mono (by decide)) (pa_cons (pv 1) (pa_cons (pv 2) pa_nil))))
    (pss_cons (ps_set (i := 5) sc_Reader_next_word.nd rfl (Or.inl rfl) pe_str)
    (pss_cons (ps_expr (pc_meth (pv 0) CL_Reader M_Reader_check_order (hr.mono (by decide)) (pa_cons (pv 5) (pa_cons (pv 4) (pa_cons (pv 3) pa_nil)))))
    (pss_cons (ps_while PassesOwn.never (pt_cmpR op_lt (pe_callB call_len_str (by rfl) B.len boot_len (pa_cons (pv 5) pa_nil)) (pv 4) (nomark _))
      (pss_cons (ps_set (i := 5) sc_Reader_next_word.nd rfl (Or.inl rfl) (pe_op op_add_str (pv 5) (pe_ix ix_str (pe_gs rfl N.LETTERS) (pe_op op_sub (pc_meth (pv 0) CL_Reader M_Reader_next_octet (hr.mono (by decide)) (pa_cons (pe_gi rfl N.FIRST_CODE) (pa_cons (pe_gi rfl N.LAST_CODE) pa_nil))) (pe_gi rfl N.FIRST_CODE)) (fun _ _ => rfl))))
        (pss_one (ps_expr (pc_meth (pv 0) CL_Reader M_Reader_check_order (hr.mono (by decide)) (pa_cons (pv 5) (pa_cons (pv 4) (pa_cons (pv 3) pa_nil))))))))
    (pss_one (ps_ret (pv 5))))))), ?_⟩), g, F.kp, F.bindsN fun _ _ _ _ _ _ us hl => match us, hl with | [_, _, _, _], _ => rfl⟩
  · obtain ⟨r, dx, o, os, n, a, b, z, rfl, _⟩ := h
    rfl
  · obtain ⟨r, dx, o, os, n, a, b, z, rfl, hr, ht, ha, hb, hz, az, q⟩ := h
    have hsz := sizeLine_eq
    have zl : z.cps.toList.length = z.length := rfl
    have w0 : (wordO z)[0]? = some ((z.length : Nat) : Int) := by
      have : ((z.length : Nat) : Int) % 256 = (z.length : Nat) := Int.emod_eq_of_lt (by omega) (by omega)
      simp [wordO, octs, this]
    have wi : ∀ i c, z.cps.toList[i]? = some c → (wordO z)[1 + i]? = some ((c : Nat) : Int) := fun i c h => by
      unfold wordO
      rw [List.getElem?_append_right (by rw [octs_len]; omega), octs_len, show 1 + i - 1 = i by omega]
      unfold codes
      rw [List.getElem?_map, h]; rfl
    repeat walk_at "h"
    refine ⟨r, dx, _, rfl, hr.at_, rfl, ?_⟩
    repeat walk_at "h"
    refine ⟨r, dx, o, os, n, a, b, (z.length : Nat), rfl, hr, by have := take_get ht (i := 0) (by omega); rw [Nat.add_zero] at this; rw [this, w0], ha, hb, fun H1 r1 s1 => ?_⟩
    repeat walk_at "h"
    refine ⟨r, dx, _, rfl, r1.at_, rfl, ?_⟩
    repeat walk_at "h"
    refine ⟨r, Str.ofString "", z.length, rfl, Nat.zero_le _, hz, ?_⟩
    repeat walk_at "h"
    refine ⟨fun k σ H' => ∃ i : Nat, k = z.length - i ∧ i ≤ z.length ∧ σ = [some (.ref r), some (.int a), some (.int b), some (.str (Str.ofString "")), some (.int (z.length : Nat)), some (.str (strOf (z.cps.toList.take i)))] ∧ Stp [r] H H' ∧ RdAt C H' r dx o os (n + (1 + i)), ⟨z.length, 0, rfl, Nat.zero_le _, rfl, s1, r1⟩, ?_⟩
    rintro k σ H2 ⟨i, rfl, hi, rfl, s2, r2⟩
    have li : (strOf (z.cps.toList.take i)).length = i := by rw [strOf_len, List.length_take]; omega
    repeat walk_at "h"
    refine ⟨_, rfl, by omega, ?_⟩
    rw [li]
    repeat walk_at "h"
    refine i_iteD (fun h1 => ?_) (fun h1 => ?_)
    · have lt : i < z.cps.toList.length := by omega
      have hc : z.cps.toList[i]? = some z.cps.toList[i] := List.getElem?_eq_getElem lt
      have hm := List.getElem_mem lt
      generalize z.cps.toList[i] = c at hc hm
      have azc := az c hm
      refine ⟨fun σ' H' => σ' = [some (.ref r), some (.int a), some (.int b), some (.str (Str.ofString "")), some (.int (z.length : Nat)), some (.str (strOf (z.cps.toList.take (i + 1))))] ∧ Stp [r] H H' ∧ RdAt C H' r dx o os (n + (1 + (i + 1))), ?_, ?_⟩
      · rintro σ' H' ⟨e1, e2, e3⟩
        exact ⟨z.length - (i + 1), by omega, i + 1, rfl, by omega, e1, e2, e3⟩
      · repeat walk_at "h"
        refine ⟨r, dx, _, rfl, r2.at_, rfl, ?_⟩
        repeat walk_at "h"
        refine ⟨r, dx, o, os, n + (1 + i), 97, 122, ((c : Nat) : Int), rfl, r2, by rw [take_get ht (by omega), wi i c hc], by omega, by omega, fun H3 r3 s3 => ?_⟩
        repeat walk_at "h"
        have ia : atI (Str.ofString "abcdefghijklmnopqrstuvwxyz").cps.toList (((c : Nat) : Int) - 97) = some c := by
          rw [show ((c : Nat) : Int) - 97 = ((c - 97 : Nat) : Int) by omega]
          exact atI_nat (az_letter azc)
        refine i_IxS (by decide) ia ?_
        refine ⟨_, _, rfl, rfl, ?_, ?_⟩
        · rw [li]
          show i + 1 ≤ sizeLine
          omega
        · rw [strOf_snoc, show z.cps.toList.take i ++ [c] = z.cps.toList.take (i + 1) by rw [List.take_add_one, hc]; rfl]
          repeat walk_at "h"
          refine ⟨r, dx, _, rfl, r3.at_, rfl, ?_⟩
          repeat walk_at "h"
          refine ⟨r, _, z.length, rfl, by rw [strOf_len, List.length_take]; omega, hz, ?_⟩
          repeat walk_at "h"
          exact ⟨rfl, s2.trans s3, r3⟩
    · have ei : i = z.length := by omega
      subst ei
      repeat walk_at "h"
      rw [List.take_of_length_le (by omega), strOf_self]
      exact q H2 r2 s2
def spRPlain (C : Addr) : Sp := fun vs H Q _ => ∃ (r dx o : Addr) (os : List Int) (n : Nat), RdAt C H r dx o os n ∧ ((∃ z : Str, vs = [.ref r, .int 2] ∧ (os.drop n).take (1 + z.length) = wordO z ∧ z.length ≤ 20 ∧ azZ z ∧ ∀ H1, RdAt C H1 r dx o os (n + (1 + z.length)) → Stp [r] H H1 → Q (.str z) H1) ∨
  ∃ i : Int, vs = [.ref r, .int 1] ∧ (os.drop n).take 3 = octs (i + 1000000) 3 ∧ -1000000 ≤ i ∧ i ≤ 1000000 ∧ ∀ H1, RdAt C H1 r dx o os (n + 3) → Stp [r] H H1 → Q (.int i) H1)
theorem mth_Reader_next_plain (F : Dfm K C d_Reader_next_plain) (N : ConW mg) (CL_Reader : Cls K C) (M_Reader_next_number : Mth P w K mg base lv_Reader_next_number C "next_number" ["self", "many", "least", "greatest"] (spRNum C)) (M_Reader_next_word : Mth P w K mg base lv_Reader_next_word C "next_word" ["self", "least", "greatest", "before"] (spRWord C)) : Mth P w K mg base lv_Reader_next_plain C "next_plain" ["self", "kind"] (spRPlain C) := by
  obtain ⟨f, fd, F, g⟩ := F
  refine ⟨f, fd, F.ok sc_Reader_next_plain (fun vs H Q E h => ?_) (fun cdv A outer s H vs Q E hr h => ⟨_, PSs.nox
    (pss_cons (ps_if (pt_cmpR op_eq (pv 1) (pe_gi rfl N.TEXT) (nomark _))
      (pss_one (ps_ret (pc_meth (pv 0) CL_Reader M_Reader_next_word (hr.mono (by decide)) (pa_cons pe_int (pa_cons (pe_gi rfl N.LONGEST_TEXT) (pa_cons pe_str pa_nil))))))
      pss_nil)
    (pss_one (ps_ret (pe_op op_add (pe_gi rfl N.LEAST_INTEGER) (pc_meth (pv 0) CL_Reader M_Reader_next_number (hr.mono (by decide)) (pa_cons pe_int (pa_cons pe_int (pa_cons (pe_op op_sub (pe_gi rfl N.GREATEST_INTEGER) (pe_gi rfl N.LEAST_INTEGER)) pa_nil)))))))), ?_⟩), g, F.kp, F.bindsN fun _ _ _ _ _ _ us hl => match us, hl with | [_, _], _ => rfl⟩
  · obtain ⟨r, dx, o, os, n, _, ⟨z, rfl, _⟩ | ⟨i, rfl, _⟩⟩ := h <;> rfl
  · obtain ⟨r, dx, o, os, n, hr, ⟨z, rfl, ht, hz, az, q⟩ | ⟨i, rfl, ht, h0, h1, q⟩⟩ := h
    · repeat walk_at "h"
      rw [decide_eq_true rfl]
      refine iteT ?_
      repeat walk_at "h"
      refine ⟨r, dx, _, rfl, hr.at_, rfl, ?_⟩
      repeat walk_at "h"
      exact ⟨r, dx, o, os, n, 0, 20, z, rfl, hr, ht, by omega, by omega, by omega, az, q⟩
    · repeat walk_at "h"
      rw [decide_eq_false (by decide)]
      refine iteF ?_
      repeat walk_at "h"
      refine ⟨r, dx, _, rfl, hr.at_, rfl, ?_⟩
      repeat walk_at "h"
      refine ⟨r, dx, o, os, n, 3, 0, 2000000, i + 1000000, rfl, hr, by decide, ht, by omega, by omega, by omega, by omega, fun H1 r1 s1 => ?_⟩
      refine i_I0 (qv (q H1 r1 s1) ?_)
      rw [show (-1000000 : Int) + (i + 1000000) = i by omega]
def spFinish (C : Addr) : Sp := fun vs H Q _ => ∃ (r dx o : Addr) (os : List Int), vs = [.ref r] ∧ RdAt C H r dx o os os.length ∧ Q .non H
theorem mth_Reader_finish (F : Dfm K C d_Reader_finish) (B : Blt mg) (R : RdC K C) : Mth P w K mg base lv_Reader_finish C "finish" ["self"] (spFinish C) := by
  obtain ⟨f, fd, F, g⟩ := F
  refine ⟨f, fd, F.ok sc_Reader_finish (fun vs H Q E h => ?_) (fun cdv A outer s H vs Q E hr h => ⟨_, PSs.nox
    (pss_one (ps_if (pt_cmpR op_lt (pe_fld (pv 0) rfl) (pe_callB call_len_seq (by rfl) B.len boot_len (pa_cons (pe_fld (pv 0) rfl) pa_nil)) (nomark _))
      (pss_one ps_never)
      pss_nil)), ?_⟩), g, F.kp, F.bindsN fun _ _ _ _ _ _ us hl => match us, hl with | [_], _ => rfl⟩
  · obtain ⟨r, dx, o, os, rfl, _⟩ := h
    rfl
  · obtain ⟨r, dx, o, os, rfl, ⟨hr, ho⟩, q⟩ := h
    repeat walk_at "h"
    refine ⟨r, C, dx, _, _, rfl, hr, R.cls, R.pl, rfl, ?_⟩
    repeat walk_at "h"
    refine ⟨r, C, dx, _, _, rfl, hr, R.cls, R.oc, rfl, ?_⟩
    repeat walk_at "h"
    refine ⟨o, _, rfl, .inl (SqL.of ho), ?_⟩
    refine i_I0 ⟨_, rfl, i_iteD (fun h => ?_) (fun h => ?_)⟩
    · rw [List.length_map] at h; omega
    · repeat walk_at "h"
      exact q
end

/-! ### reading messages -/
/-- at n the octets xs stand -/
def Beg (os : List Int) (n : Nat) (xs : List Int) : Prop := (os.drop n).take xs.length = xs
theorem Beg.app {os a b : List Int} {n : Nat} (h : Beg os n (a ++ b)) : Beg os n a ∧ Beg os (n + a.length) b := by
  unfold Beg at h ⊢
  rw [List.length_append, List.take_add, List.drop_drop] at h
  have hl : ((os.drop n).take a.length).length = a.length := by
    have h2 := congrArg List.length h
    rw [List.length_append, List.length_append, List.length_take, List.length_take] at h2
    rw [List.length_take]
    omega
  exact List.append_inj h hl
theorem Beg.one {os : List Int} {n : Nat} {x : Int} (h : Beg os n [x]) : os[n]? = some x := by
  have := take_get (os := os) (n := n) (k := 1) (i := 0) h (by decide)
  simpa using this
theorem Beg.oct {os : List Int} {n k : Nat} {v : Int} (h : Beg os n (octs v k)) : (os.drop n).take k = octs v k := by
  unfold Beg at h
  rwa [octs_len] at h
theorem Beg.word {os : List Int} {n : Nat} {z : Str} (h : Beg os n (wordO z)) : (os.drop n).take (1 + z.length) = wordO z := by
  unfold Beg at h
  rwa [wordO_len] at h
def okNmL (m : Nm) : Prop := (0 ≤ m.1 ∧ m.1 ≤ 7) ∧ (0 ≤ m.2 ∧ m.2 ≤ 4294967295)
def okVaL : Va → Prop
  | .non => True
  | .num i => -1000000 ≤ i ∧ i ≤ 1000000
  | .txt z => z.length ≤ 20 ∧ azZ z
  | .tg s m => s = strRef ∧ okNmL m
structure OkChL (c : Ch) : Prop where
  ck : 1 ≤ c.st.1 ∧ c.st.1 ≤ 4294967295
  pr : 0 ≤ c.st.2 ∧ c.st.2 ≤ 7
  nm : okNmL c.nm
  fd : (1 ≤ c.fd.length ∧ c.fd.length ≤ 8) ∧ azZ c.fd
  va : okVaL c.va
theorem nameO_len (n : Nm) : (nameO n).length = 5 := by unfold nameO; rw [List.length_append, octs_len, octs_len]
section
variable {P : Program} {w : World} {K : PySem.W.Frag} {mg : Str → Option Value} {base : Heap} {C : Addr}
def spRName (K : PySem.W.Frag) (C : Addr) : Sp := fun vs H Q _ => ∃ (r dx o : Addr) (os : List Int) (n : Nat) (m : Nm), vs = [.ref r] ∧ RdAt C H r dx o os n ∧ Beg os n (nameO m) ∧ okNmL m ∧ ∀ (v : V) (H1 : Hp), DtAt K H1 v (nmD m) → RdAt C H1 r dx o os (n + 5) → Stp [r] H H1 → Q v H1
theorem cal_read_name (F : Df K mg d_read_name) (N : ConW mg) (CL_Reader : Cls K C) (M_Reader_next_octet : Mth P w K mg base lv_Reader_next_octet C "next_octet" ["self", "least", "greatest"] (spOctet C)) (M_Reader_next_number : Mth P w K mg base lv_Reader_next_number C "next_number" ["self", "many", "least", "greatest"] (spRNum C)) : Cal P w K mg base lv_read_name "_read_name" ["reader"] (spRName K C) := by
  obtain ⟨f, fd, F, g⟩ := F
  refine ⟨f, fd, F.ok sc_read_name (fun vs H Q E h => ?_) (fun cdv A outer s H vs Q E hr h => ⟨_, PSs.nox
    (pss_cons (ps_set (i := 1) sc_read_name.nd rfl (Or.inl rfl) (pc_meth (pv 0) CL_Reader M_Reader_next_octet (hr.mono (by decide)) (pa_cons pe_int (pa_cons (pe_gi rfl N.GREATEST_PEER) pa_nil))))
    (pss_one (ps_ret (pe_tup (pa_cons (pv 1) (pa_cons (pc_meth (pv 0) CL_Reader M_Reader_next_number (hr.mono (by decide)) (pa_cons pe_int (pa_cons pe_int (pa_cons (pe_gi rfl N.GREATEST_COUNT) pa_nil)))) pa_nil)))))), ?_⟩), g, F.kp, F.bindsN fun _ _ _ _ _ _ us hl => match us, hl with | [_], _ => rfl⟩
  · obtain ⟨r, dx, o, os, n, m, rfl, _⟩ := h
    rfl
  · obtain ⟨r, dx, o, os, n, m, rfl, hr, hb, ⟨⟨h1, h2⟩, h3, h4⟩, q⟩ := h
    obtain ⟨b1, b2⟩ := hb.app
    rw [octs_len] at b2
    rw [oct1 ⟨h1, by omega⟩] at b1
    repeat walk_at "h"
    refine ⟨r, dx, _, rfl, hr.at_, rfl, ?_⟩
    repeat walk_at "h"
    refine ⟨r, dx, o, os, n, 0, 7, m.1, rfl, hr, b1.one, by omega, by omega, fun H1 r1 s1 => ?_⟩
    repeat walk_at "h"
    refine ⟨r, dx, _, rfl, r1.at_, rfl, ?_⟩
    repeat walk_at "h"
    refine ⟨r, dx, o, os, n + 1, 4, 0, 4294967295, m.2, rfl, r1, by decide, b2.oct, h3, by omega, h3, h4, fun H2 r2 s2 => ?_⟩
    repeat walk_at "h"
    refine ⟨(by decide : 2 ≤ sizeLine), fun t ht => ?_⟩
    have s3 : Stp [] H2 (upd H2 t (.tup [.int m.1, .int m.2])) := .new ht
    exact q _ _ (nm_mk upd_same) (r2.grow s3) ((s1.trans s2).trans (s3.mono (by simp)))
def spRVal (K : PySem.W.Frag) (C : Addr) : Sp := fun vs H Q _ => ∃ (r dx o : Addr) (os : List Int) (n : Nat) (x : Va), vs = [.ref r] ∧ RdAt C H r dx o os n ∧ Beg os n (valO x) ∧ okVaL x ∧ ∀ (v : V) (H1 : Hp), DtAt K H1 v (vaD x) → RdAt C H1 r dx o os (n + (valO x).length) → Stp [r] H H1 → Q v H1
theorem cal_read_value (F : Df K mg d_read_value) (N : ConW mg) (CL_Reader : Cls K C) (M_Reader_next_octet : Mth P w K mg base lv_Reader_next_octet C "next_octet" ["self", "least", "greatest"] (spOctet C)) (M_Reader_next_plain : Mth P w K mg base lv_Reader_next_plain C "next_plain" ["self", "kind"] (spRPlain C)) (C_read_name : Cal P w K mg base lv_read_name "_read_name" ["reader"] (spRName K C)) (C_reference : Cal P w K mg base lv_reference "reference" ["name"] (spReference K)) : Cal P w K mg base lv_read_value "_read_value" ["reader"] (spRVal K C) := by
  obtain ⟨f, fd, F, g⟩ := F
  refine ⟨f, fd, F.ok sc_read_value (fun vs H Q E h => ?_) (fun cdv A outer s H vs Q E hr h => ⟨_, PSs.nox
    (pss_cons (ps_set (i := 1) sc_read_value.nd rfl (Or.inl rfl) (pc_meth (pv 0) CL_Reader M_Reader_next_octet (hr.mono (by decide)) (pa_cons (pe_gi rfl N.NOTHING) (pa_cons (pe_gi rfl N.OBJECT) pa_nil))))
    (pss_cons (ps_if (pt_cmpR op_eq (pv 1) (pe_gi rfl N.NOTHING) (nomark _))
      (pss_one (ps_ret pe_non))
      pss_nil)
    (pss_cons (ps_if (pt_cmpR op_eq (pv 1) (pe_gi rfl N.OBJECT) (nomark _))
      (pss_one (ps_ret (pc_call C_reference (hr.mono (by decide)) (by rfl) (pa_cons (pc_call C_read_name (hr.mono (by decide)) (by rfl) (pa_cons (pv 0) pa_nil)) pa_nil))))
      pss_nil)
    (pss_one (ps_ret (pc_meth (pv 0) CL_Reader M_Reader_next_plain (hr.mono (by decide)) (pa_cons (pv 1) pa_nil))))))), ?_⟩), g, F.kp, F.bindsN fun _ _ _ _ _ _ us hl => match us, hl with | [_], _ => rfl⟩
  · obtain ⟨r, dx, o, os, n, x, rfl, _⟩ := h
    rfl
  · obtain ⟨r, dx, o, os, n, x, rfl, hr, hb, ok, q⟩ := h
    repeat walk_at "h"
    refine ⟨r, dx, _, rfl, hr.at_, rfl, ?_⟩
    repeat walk_at "h"
    cases x with
    | non =>
      refine ⟨r, dx, o, os, n, 0, 3, 0, rfl, hr, hb.one, by decide, by decide, fun H1 r1 s1 => ?_⟩
      repeat walk_at "h"
      rw [decide_eq_true rfl]
      refine iteT ?_
      repeat walk_at "h"
      exact q _ H1 .non r1 s1
    | tg s m =>
      obtain ⟨rfl, okm⟩ := ok
      have hb : Beg os n ([3] ++ nameO m) := hb
      obtain ⟨b1, b2⟩ := hb.app
      refine ⟨r, dx, o, os, n, 0, 3, 3, rfl, hr, b1.one, by decide, by decide, fun H1 r1 s1 => ?_⟩
      repeat walk_at "h"
      rw [decide_eq_false (by decide)]
      refine iteF ?_
      repeat walk_at "h"
      rw [decide_eq_true rfl]
      refine iteT ?_
      repeat walk_at "h"
      refine ⟨r, dx, o, os, n + 1, m, rfl, r1, b2, okm, fun v H2 dv r2 s2 => ?_⟩
      repeat walk_at "h"
      refine ⟨v, m, rfl, dv, fun u H3 s3 du => ?_⟩
      refine q u H3 du ?_ ((s1.trans s2).trans (s3.mono (by simp)))
      have e : n + (valO (.tg strRef m)).length = n + 1 + 5 := by
        rw [show valO (.tg strRef m) = [3] ++ nameO m from rfl, List.length_append, nameO_len]; rfl
      rw [e]
      exact r2.grow s3
    | txt z =>
      obtain ⟨hz, az⟩ := ok
      have hb : Beg os n ([2] ++ wordO z) := hb
      obtain ⟨b1, b2⟩ := hb.app
      refine ⟨r, dx, o, os, n, 0, 3, 2, rfl, hr, b1.one, by decide, by decide, fun H1 r1 s1 => ?_⟩
      repeat walk_at "h"
      rw [decide_eq_false (by decide)]
      refine iteF ?_
      repeat walk_at "h"
      rw [decide_eq_false (by decide)]
      refine iteF ?_
      repeat walk_at "h"
      refine ⟨r, dx, _, rfl, r1.at_, rfl, ?_⟩
      repeat walk_at "h"
      refine ⟨r, dx, o, os, n + 1, r1, .inl ⟨z, rfl, b2.word, hz, az, fun H2 r2 s2 => ?_⟩⟩
      refine q _ H2 (.txt z) ?_ (s1.trans s2)
      have e : n + (valO (.txt z)).length = n + 1 + (1 + z.length) := by
        rw [show valO (.txt z) = [2] ++ wordO z from rfl, List.length_append, wordO_len]; simp only [List.length_singleton]; omega
      rw [e]
      exact r2
    | num i =>
      have hb : Beg os n ([1] ++ octs (i + 1000000) 3) := hb
      obtain ⟨b1, b2⟩ := hb.app
      refine ⟨r, dx, o, os, n, 0, 3, 1, rfl, hr, b1.one, by decide, by decide, fun H1 r1 s1 => ?_⟩
      repeat walk_at "h"
      rw [decide_eq_false (by decide)]
      refine iteF ?_
      repeat walk_at "h"
      rw [decide_eq_false (by decide)]
      refine iteF ?_
      repeat walk_at "h"
      refine ⟨r, dx, _, rfl, r1.at_, rfl, ?_⟩
      repeat walk_at "h"
      refine ⟨r, dx, o, os, n + 1, r1, .inr ⟨i, rfl, b2.oct, ok.1, ok.2, fun H2 r2 s2 => ?_⟩⟩
      refine q _ H2 (.num i) ?_ (s1.trans s2)
      have e : n + (valO (.num i)).length = n + 1 + 3 := by
        rw [show valO (.num i) = [1] ++ octs (i + 1000000) 3 from rfl, List.length_append, octs_len]; rfl
      rw [e]
      exact r2
def spRCh (K : PySem.W.Frag) (C : Addr) : Sp := fun vs H Q _ => ∃ (r dx o : Addr) (os : List Int) (n : Nat) (c : Ch), vs = [.ref r] ∧ RdAt C H r dx o os n ∧ Beg os n (chO c) ∧ OkChL c ∧ ∀ (v : V) (H1 : Hp), DtAt K H1 v (chD c) → RdAt C H1 r dx o os (n + (chO c).length) → Stp [r] H H1 → Q v H1
theorem cal_read_change (F : Df K mg d_read_change) (N : ConW mg) (CL_Reader : Cls K C) (M_Reader_next_octet : Mth P w K mg base lv_Reader_next_octet C "next_octet" ["self", "least", "greatest"] (spOctet C)) (M_Reader_next_number : Mth P w K mg base lv_Reader_next_number C "next_number" ["self", "many", "least", "greatest"] (spRNum C)) (M_Reader_next_word : Mth P w K mg base lv_Reader_next_word C "next_word" ["self", "least", "greatest", "before"] (spRWord C)) (C_read_name : Cal P w K mg base lv_read_name "_read_name" ["reader"] (spRName K C)) (C_read_value : Cal P w K mg base lv_read_value "_read_value" ["reader"] (spRVal K C)) : Cal P w K mg base lv_read_change "_read_change" ["reader"] (spRCh K C) := by
  obtain ⟨f, fd, F, g⟩ := F
  refine ⟨f, fd, F.ok sc_read_change (fun vs H Q E h => ?_) (fun cdv A outer s H vs Q E hr h => ⟨_, PSs.nox
    (pss_cons (ps_set (i := 1) sc_read_change.nd rfl (Or.inl rfl) (pc_meth (pv 0) CL_Reader M_Reader_next_number (hr.mono (by decide)) (pa_cons pe_int (pa_cons pe_int (pa_cons (pe_gi rfl N.GREATEST_CLOCK) pa_nil)))))
    (pss_cons (ps_set (i := 2) sc_read_change.nd rfl (Or.inl rfl) (pc_meth (pv 0) CL_Reader M_Reader_next_octet (hr.mono (by decide)) (pa_cons pe_int (pa_cons (pe_gi rfl N.GREATEST_PEER) pa_nil))))
    (pss_cons (ps_set (i := 3) sc_read_change.nd rfl (Or.inl rfl) (pc_call C_read_name (hr.mono (by decide)) (by rfl) (pa_cons (pv 0) pa_nil)))
    (pss_cons (ps_set (i := 4) sc_read_change.nd rfl (Or.inl rfl) (pc_meth (pv 0) CL_Reader M_Reader_next_word (hr.mono (by decide)) (pa_cons pe_int (pa_cons (pe_gi rfl N.LONGEST_FIELD) (pa_cons pe_str pa_nil)))))
    (pss_one (ps_ret (pe_tup (pa_cons (pe_tup (pa_cons (pv 1) (pa_cons (pv 2) pa_nil))) (pa_cons (pv 3) (pa_cons (pv 4) (pa_cons (pc_call C_read_value (hr.mono (by decide)) (by rfl) (pa_cons (pv 0) pa_nil)) pa_nil))))))))))), ?_⟩), g, F.kp, F.bindsN fun _ _ _ _ _ _ us hl => match us, hl with | [_], _ => rfl⟩
  · obtain ⟨r, dx, o, os, n, c, rfl, _⟩ := h
    rfl
  · obtain ⟨r, dx, o, os, n, c, rfl, hr, hb, ok, q⟩ := h
    obtain ⟨hb4, b5⟩ := hb.app
    obtain ⟨hb3, b4⟩ := hb4.app
    obtain ⟨hb2, b3⟩ := hb3.app
    obtain ⟨b1, b2⟩ := hb2.app
    simp only [List.length_append, octs_len, nameO_len, wordO_len] at b2 b3 b4 b5
    have hp := ok.pr
    rw [oct1 ⟨hp.1, by omega⟩] at b2
    have hc := ok.ck
    repeat walk_at "h"
    refine ⟨r, dx, _, rfl, hr.at_, rfl, ?_⟩
    repeat walk_at "h"
    refine ⟨r, dx, o, os, n, 4, 1, 4294967295, c.st.1, rfl, hr, by decide, b1.oct, by omega, by omega, hc.1, hc.2, fun H1 r1 s1 => ?_⟩
    repeat walk_at "h"
    refine ⟨r, dx, _, rfl, r1.at_, rfl, ?_⟩
    repeat walk_at "h"
    refine ⟨r, dx, o, os, n + 4, 0, 7, c.st.2, rfl, r1, b2.one, hp.1, hp.2, fun H2 r2 s2 => ?_⟩
    repeat walk_at "h"
    refine ⟨r, dx, o, os, n + 4 + 1, c.nm, rfl, r2, b3, ok.nm, fun nv H3 dn r3 s3 => ?_⟩
    repeat walk_at "h"
    refine ⟨r, dx, _, rfl, r3.at_, rfl, ?_⟩
    repeat walk_at "h"
    have hf := ok.fd
    refine ⟨r, dx, o, os, n + 4 + 1 + 5, 1, 8, c.fd, rfl, r3, (show Beg os (n + 4 + 1 + 5) (wordO c.fd) from b4).word, by omega, by omega, by omega, hf.2, fun H4 r4 s4 => ?_⟩
    have dn4 := DtAt.stp s4 _ _ rfl dn
    have s14 := ((s1.trans s2).trans s3).trans s4
    repeat walk_at "h"
    refine ⟨(by decide : 2 ≤ sizeLine), fun t ht => ?_⟩
    have s5 : Stp [] H4 (upd H4 t (.tup [.int c.st.1, .int c.st.2])) := .new ht
    have d5 : DtAt K (upd H4 t (.tup [.int c.st.1, .int c.st.2])) (.ref t) (nmD c.st) := nm_mk upd_same
    have dn5 := DtAt.stp s5 _ _ rfl dn4
    have r5 := r4.grow s5
    generalize upd H4 t (.tup [.int c.st.1, .int c.st.2]) = H5 at s5 d5 dn5 r5 ⊢
    repeat walk_at "h"
    refine ⟨r, dx, o, os, n + 4 + 1 + 5 + (1 + c.fd.length), c.va, rfl, r5, by rw [show n + 4 + 1 + 5 + (1 + c.fd.length) = n + (4 + 1 + 5 + (1 + c.fd.length)) by omega]; exact b5, ok.va, fun v H6 dv r6 s6 => ?_⟩
    have d6 := DtAt.stp s6 _ _ rfl d5
    have dn6 := DtAt.stp s6 _ _ rfl dn5
    repeat walk_at "h"
    refine ⟨(by decide : 4 ≤ sizeLine), fun u hu => ?_⟩
    have s7 : Stp [] H6 (upd H6 u (.tup [.ref t, nv, .str c.fd, v])) := .new hu
    refine q _ _ (ch_mk (c := c) (.inl upd_same) (DtAt.stp s7 _ _ rfl d6) (DtAt.stp s7 _ _ rfl dn6) (DtAt.stp s7 _ _ (vaD_flat _) dv)) ?_ (((s14.trans (s5.mono (by simp))).trans s6).trans (s7.mono (by simp)))
    have e : n + (chO c).length = n + 4 + 1 + 5 + (1 + c.fd.length) + (valO c.va).length := by
      unfold chO
      simp only [List.length_append, octs_len, nameO_len, wordO_len]; omega
    rw [e]
    exact r6.grow s7
end

section
variable {P : Program} {w : World} {K : PySem.W.Frag} {mg : Str → Option Value} {base : Heap} {C : Addr}
theorem RdAt.stp {H H1 : Hp} {M : List Addr} {r dx o : Addr} {os : List Int} {n : Nat} (h : RdAt C H r dx o os n) (s : Stp M H H1) (a : r ∉ M) (b : o ∉ M) : RdAt C H1 r dx o os n := ⟨s.keep _ _ h.at_ a, s.keep _ _ h.os_ b⟩
theorem cut_takeI (xs : List V) (k : Nat) : cutV xs none (some (k : Int)) = xs.take (min k xs.length) := by
  unfold cutV
  simp only [HT.sIx_none, HT.sIx_nat, List.drop_zero, Nat.sub_zero, Int.toNat_natCast]
def msgD (sd n : Int) (cs : List Ch) : Dt := .tup [.num sd, .num n, .lst (cs.map chD)]
theorem chs_split (cs : List Ch) {i : Nat} {c : Ch} (h : cs[i]? = some c) : (cs.map chO).flatten = ((cs.take i).map chO).flatten ++ (chO c ++ ((cs.drop (i + 1)).map chO).flatten) := by
  have h1 : cs = cs.take i ++ (c :: cs.drop (i + 1)) := by
    have hi := (List.getElem?_eq_some_iff.mp h).1
    have e : cs[i] = c := by
      have := List.getElem?_eq_getElem hi
      rw [this] at h
      exact Option.some.inj h
    rw [← e, ← List.drop_eq_getElem_cons hi, List.take_append_drop]
  conv => lhs; rw [h1]
  rw [List.map_append, List.flatten_append, List.map_cons, List.flatten_cons]
def spRMsg (K : PySem.W.Frag) : Sp := fun vs H Q _ => ∃ (o : Addr) (sd n : Int) (cs : List Ch), vs = [.ref o] ∧ H o = some (.lst ((msgO sd n cs).map V.int)) ∧ (0 ≤ sd ∧ sd ≤ 7) ∧ (0 ≤ n ∧ n ≤ 4294967295) ∧ cs.length ≤ 100 ∧ (∀ c ∈ cs, OkChL c) ∧ ∀ (p : Addr) (ws : List V) (v : V) (H1 : Hp), H p = none → H1 p = some (.lst ws) → DtsAt K H1 ws (cs.map chD) → DtAt K H1 v (msgD sd n cs) → Stp [] H H1 → Q v H1
theorem cal_read_message (F : Df K mg d_read_message) (B : Blt mg) (N : ConW mg) (R : RdC K C) (I_Reader : Mki P w K mg base lv_Reader_init C "Reader" ["self", "octets"] (spRInit C)) (M_Reader_next_octet : Mth P w K mg base lv_Reader_next_octet C "next_octet" ["self", "least", "greatest"] (spOctet C)) (M_Reader_next_number : Mth P w K mg base lv_Reader_next_number C "next_number" ["self", "many", "least", "greatest"] (spRNum C)) (M_Reader_finish : Mth P w K mg base lv_Reader_finish C "finish" ["self"] (spFinish C)) (C_read_change : Cal P w K mg base lv_read_change "_read_change" ["reader"] (spRCh K C)) (C_check_of : Cal P w K mg base lv_check_of "check_of" ["octets"] (spChk K)) : Cal P w K mg base lv_read_message "read_message" ["octets"] (spRMsg K) := by
  have CL_Reader := R.cls
  obtain ⟨f, fd, F, g⟩ := F
  refine ⟨f, fd, F.ok sc_read_message (fun vs H Q E h => ?_) (fun cdv A outer s H vs Q E hr h => ⟨_, PSs.nox
    (pss_cons (ps_set (i := 1) sc_read_message.nd rfl (Or.inl rfl) (pc_make I_Reader (hr.mono (by decide)) (by rfl) (pa_cons (pv 0) pa_nil)))
    (pss_cons (ps_set (i := 2) sc_read_message.nd rfl (Or.inl rfl) (pc_meth (pv 1) CL_Reader M_Reader_next_octet (hr.mono (by decide)) (pa_cons pe_int (pa_cons (pe_gi rfl N.GREATEST_PEER) pa_nil))))
    (pss_cons (ps_set (i := 3) sc_read_message.nd rfl (Or.inl rfl) (pc_meth (pv 1) CL_Reader M_Reader_next_number (hr.mono (by decide)) (pa_cons pe_int (pa_cons pe_int (pa_cons (pe_gi rfl N.GREATEST_NUMBER) pa_nil)))))
    (pss_cons (ps_set (i := 4) sc_read_message.nd rfl (Or.inl rfl) (pc_meth (pv 1) CL_Reader M_Reader_next_number (hr.mono (by decide)) (pa_cons pe_int (pa_cons pe_int (pa_cons (pe_gi rfl N.MOST_CHANGES) pa_nil)))))
    (pss_cons (ps_set (i := 5) sc_read_message.nd rfl (Or.inl rfl) (pe_lst pa_nil))
    (pss_cons (ps_for PassesOwn.never rfl (pi_range1 rfl B.range (pa_cons (pv 4) pa_nil)) (pg_name (i := 6) sc_read_message.nd rfl (Or.inl rfl))
      (pss_one (ps_expr (pe_bm PySem.F.plainAttrs_list PySem.F.slot_list_append PySem.F.type_list_append mt_append (pv 5) (pa_cons (pc_call C_read_change (hr.mono (by decide)) (by rfl) (pa_cons (pv 1) pa_nil)) pa_nil)))))
    (pss_cons (ps_asg (pc_call C_check_of (hr.mono (by decide)) (by rfl) (pa_cons (pe_slice sl_list (pv 0) po_none (po_some (pe_fld (pv 1) rfl))) pa_nil)) (pg_lst (by rfl) (pgs_cons (pg_name (i := 7) sc_read_message.nd rfl (Or.inl rfl)) (pgs_cons (pg_name (i := 8) sc_read_message.nd rfl (Or.inl rfl)) pgs_nil))))
    (pss_cons (ps_expr (pc_meth (pv 1) CL_Reader M_Reader_next_octet (hr.mono (by decide)) (pa_cons (pv 7) (pa_cons (pv 7) pa_nil))))
    (pss_cons (ps_expr (pc_meth (pv 1) CL_Reader M_Reader_next_octet (hr.mono (by decide)) (pa_cons (pv 8) (pa_cons (pv 8) pa_nil))))
    (pss_cons (ps_expr (pc_meth0 (pv 1) CL_Reader M_Reader_finish (hr.mono (by decide))))
    (pss_one (ps_ret (pe_tup (pa_cons (pv 2) (pa_cons (pv 3) (pa_cons (pv 5) pa_nil)))))))))))))))), ?_⟩), g, F.kp, F.bindsN fun _ _ _ _ _ _ us hl => match us, hl with | [_], _ => rfl⟩
  · obtain ⟨o, sd, n, cs, rfl, _⟩ := h
    rfl
  · obtain ⟨o, sd, n, cs, rfl, ho, hsd, hn, hl, ok, q⟩ := h
    have b0 : Beg (msgO sd n cs) 0 (msgB sd n cs ++ chkO (msgB sd n cs)) := by
      show ((msgO sd n cs).drop 0).take (msgO sd n cs).length = msgO sd n cs
      rw [List.drop_zero, List.take_length]
    obtain ⟨bB, bC⟩ := b0.app
    rw [Nat.zero_add] at bC
    have bB : Beg (msgO sd n cs) 0 (octs sd 1 ++ octs n 4 ++ octs (cs.length : Nat) 2 ++ (cs.map chO).flatten) := bB
    obtain ⟨b3, bF⟩ := bB.app
    obtain ⟨b2, bL⟩ := b3.app
    obtain ⟨bS, bN⟩ := b2.app
    simp only [List.length_append, octs_len, Nat.zero_add] at bF bL bN
    rw [oct1 ⟨hsd.1, by omega⟩] at bS
    have oslen : (msgO sd n cs).length = (msgB sd n cs).length + 2 := by
      show (msgB sd n cs ++ chkO (msgB sd n cs)).length = _
      rw [List.length_append]; rfl
    have blen : (msgB sd n cs).length = 7 + ((cs.map chO).flatten).length := by
      unfold msgB
      simp only [List.length_append, octs_len]
    have tB : (msgO sd n cs).take (msgB sd n cs).length = msgB sd n cs := by
      show (msgB sd n cs ++ chkO (msgB sd n cs)).take _ = _
      rw [List.take_left]
    generalize hos : msgO sd n cs = os at ho bF bL bN bS bC oslen tB
    repeat walk_at "h"
    intro r dx nr ndr rdx
    have s4 : Stp [] H (upd (upd H dx (.own r)) r (.ins C dx [])) := (Stp.new ndr).add (by rw [upd_ne rdx.symm]; exact nr)
    refine ⟨r, dx, o, os, rfl, upd_same, s4.keep _ _ ho (by simp), fun H5 r5 s5 => ⟨rfl, ?_⟩⟩
    have s45 := s4.into nr s5
    clear s4 s5
    repeat walk_at "h"
    refine ⟨r, dx, _, rfl, r5.at_, rfl, ?_⟩
    repeat walk_at "h"
    refine ⟨r, dx, o, os, 0, 0, 7, sd, rfl, r5, bS.one, hsd.1, hsd.2, fun H6 r6 s6 => ?_⟩
    repeat walk_at "h"
    refine ⟨r, dx, _, rfl, r6.at_, rfl, ?_⟩
    repeat walk_at "h"
    refine ⟨r, dx, o, os, 1, 4, 0, 4294967295, n, rfl, r6, by decide, bN.oct, hn.1, by omega, hn.1, hn.2, fun H7 r7 s7 => ?_⟩
    repeat walk_at "h"
    refine ⟨r, dx, _, rfl, r7.at_, rfl, ?_⟩
    repeat walk_at "h"
    refine ⟨r, dx, o, os, 5, 2, 0, 65535, (cs.length : Nat), rfl, r7, by decide, bL.oct, by omega, by omega, by omega, by omega, fun H8 r8 s8 => ?_⟩
    have s08 : Stp [] H H8 := s45.into nr ((s6.trans s7).trans s8)
    clear s6 s7 s8 s45 r5 r6 r7
    repeat walk_at "h"
    refine ⟨Nat.zero_le _, fun p np => ?_⟩
    have s9 : Stp [] H8 (upd H8 p (.lst [])) := .new np
    have p9 : (upd H8 p (.lst [])) p = some (.lst []) := upd_same
    have r9 := r8.grow s9
    have s09 := s08.trans s9
    have npH : H p = none := s08.free np (by simp)
    have op : o ≠ p := ne_of_none ho npH
    have rp : r ≠ p := ne_of_none r8.at_ np
    generalize upd H8 p (.lst []) = H9 at s9 p9 r9 s09 ⊢
    clear s9 s08 r8
    repeat walk_at "h"
    refine ⟨(cs.length : Nat), rfl, by omega, by omega, ?_⟩
    refine for_range (lo := 0) (n := ((cs.length : Nat) : Int).toNat) (fun i σ H' => ∃ (y6 : Option V) (ac : List V), σ = [some (.ref o), some (.ref r), some (.int sd), some (.int n), some (.int (cs.length : Nat)), some (.ref p), y6, none, none] ∧ Stp [] H H' ∧ H' p = some (.lst ac) ∧ DtsAt K H' ac ((cs.take i).map chD) ∧ RdAt C H' r dx o os (7 + (((cs.take i).map chO).flatten).length))
      ⟨_, [], rfl, s09, p9, .nil, r9⟩ ?_ ?_
    · rintro i σ H10 hi ⟨y6, ac, rfl, s10, p10, d10, r10⟩
      rw [Int.toNat_natCast] at hi
      have hc : cs[i]? = some cs[i] := List.getElem?_eq_getElem hi
      generalize cs[i] = c at hc
      have tk : cs.take (i + 1) = cs.take i ++ [c] := by rw [List.take_add_one, hc]; rfl
      have bc : Beg os (7 + (((cs.take i).map chO).flatten).length) (chO c) := by
        rw [chs_split cs hc] at bF
        exact (bF.app.2).app.1
      have al : ac.length ≤ 1000 := by
        have := d10.length
        rw [List.length_map, List.length_take] at this
        omega
      repeat walk_at "h"
      refine ⟨.inl ⟨rfl, _, SqL.of p10⟩, ?_⟩
      repeat walk_at "h"
      refine ⟨r, dx, o, os, _, c, rfl, r10, bc, ok c (List.mem_of_getElem? hc), fun v H11 dv r11 s11 => ?_⟩
      have p11 := s11.keep _ _ p10 (by simpa using rp.symm)
      have d11 := chs_stp d10 s11
      refine i_Nil ⟨p, ac, v, rfl, rfl, p11, Nat.lt_of_le_of_lt al (by decide), ?_⟩
      have s12 : Stp [p] H11 (upd H11 p (.lst (ac ++ [v]))) := .wr (by simp) p11 fun _ z => nomatch z
      repeat walk_at "h"
      refine ⟨_, _, rfl, (s10.into nr s11).into npH s12, upd_same, ?_, ?_⟩
      · rw [tk]
        exact dts_map (chs_stp d11 s12) (DtAt.stp s12 _ _ (chD_flat _) dv)
      · rw [tk, chO_snoc, List.length_append, ← Nat.add_assoc]
        exact r11.stp s12 (by simpa using rp) (by simpa using op)
    · rintro σ H10 ⟨y6, ac, rfl, s10, p10, d10, r10⟩
      rw [Int.toNat_natCast, List.take_length] at d10 r10
      rw [← blen] at r10
      repeat walk_at "h"
      refine ⟨r, C, dx, _, _, rfl, r10.at_, R.cls, R.pl, rfl, ?_⟩
      repeat walk_at "h"
      refine i_SlL (SqL.of r10.os_) fun p2 np2 => ?_
      rw [cut_takeI, List.length_map, Nat.min_eq_left (by omega), ← List.map_take, tB]
      have s11 : Stp [] H10 (upd H10 p2 (.lst ((msgB sd n cs).map V.int))) := .new np2
      have p11 : (upd H10 p2 (.lst ((msgB sd n cs).map V.int))) p2 = some (.lst ((msgB sd n cs).map V.int)) := upd_same
      generalize upd H10 p2 (.lst ((msgB sd n cs).map V.int)) = H11 at s11 p11 ⊢
      repeat walk_at "h"
      refine ⟨p2, msgB sd n cs, rfl, p11, fun p3 H12 n12 p12 s12 => ?_⟩
      have s1012 := s11.trans s12
      have r12 := r10.grow s1012
      have bC : Beg os (msgB sd n cs).length ([((msgB sd n cs).foldl sumS (0, 0)).2] ++ [((msgB sd n cs).foldl sumS (0, 0)).1]) := bC
      obtain ⟨c1, c2⟩ := bC.app
      refine ⟨p3, [.int ((msgB sd n cs).foldl sumS (0, 0)).2, .int ((msgB sd n cs).foldl sumS (0, 0)).1], rfl, SqL.of p12, rfl, ?_⟩
      have p10' := s1012.keep _ _ p10 (by simp)
      have d12 := chs_stp d10 s1012
      have s012 := s10.trans s1012
      generalize ((msgB sd n cs).foldl sumS (0, 0)).2 = hi at c1 c2 ⊢
      generalize ((msgB sd n cs).foldl sumS (0, 0)).1 = lo at c2 ⊢
      clear s11 s12 p11 p12 s1012 p10 d10 r10 s10
      repeat walk_at "h"
      refine ⟨r, dx, _, rfl, r12.at_, rfl, ?_⟩
      repeat walk_at "h"
      refine ⟨r, dx, o, os, _, hi, hi, hi, rfl, r12, c1.one, Int.le_refl _, Int.le_refl _, fun H13 r13 s13 => ?_⟩
      repeat walk_at "h"
      refine ⟨r, dx, _, rfl, r13.at_, rfl, ?_⟩
      repeat walk_at "h"
      refine ⟨r, dx, o, os, _, lo, lo, lo, rfl, r13, c2.one, Int.le_refl _, Int.le_refl _, fun H14 r14 s14 => ?_⟩
      rw [show (msgB sd n cs).length + 1 + 1 = os.length by omega] at r14
      repeat walk_at "h"
      refine ⟨r, dx, _, rfl, r14.at_, rfl, ?_⟩
      repeat walk_at "h"
      refine ⟨r, dx, o, os, rfl, r14, ?_⟩
      have s1214 := s13.trans s14
      have p14 := s1214.keep _ _ p10' (by simpa using rp.symm)
      have d14 := chs_stp d12 s1214
      repeat walk_at "h"
      refine ⟨(by decide : 3 ≤ sizeLine), fun t ht => ?_⟩
      have s15 : Stp [] H14 (upd H14 t (.tup [.int sd, .int n, .ref p])) := .new ht
      have p15 := s15.keep _ _ p14 (by simp)
      have d15 := chs_stp d14 s15
      exact q p ac _ _ npH p15 d15 (.tup (.inl upd_same) (.cons (.num _) (.cons (.num _) (.cons (.lst (SqL.of p15) d15) .nil)))) ((s012.into nr s1214).trans s15)
end

/-! ### the law -/
section
variable {P : Program} {w : World} {K : PySem.W.Frag} {mg : Str → Option Value} {base : Heap} {C : Addr}
theorem wipe_one (σ : L2.St) (j : Nat) (v : Option V) : wipe ((wipe σ [j]).set j v) [j] = wipe σ [j] := by
  show ((σ.set j none).set j v).set j none = σ.set j none
  rw [List.set_set, List.set_set]
theorem wipe_at {σ : L2.St} {j : Nat} (h : ∃ o, σ[j]? = some o) (v : V) : ((wipe σ [j]).set j (some v))[j]? = some (some v) := by
  obtain ⟨o, h⟩ := h
  have : j < (wipe σ [j]).length := by rw [wipe_length]; exact (List.getElem?_eq_some_iff.mp h).1
  rw [List.getElem?_set_self this]
/-- [x for x in list] -/
theorem lc_same {σ : L2.St} {H : Hp} {Q : VK} {i j : Nat} {r : Addr} {ws : List V} (hi : σ[i]? = some (some (.ref r))) (hj : ∃ o, σ[j]? = some o) (hr : H r = some (.lst ws)) (hl : ws.length ≤ 100000)
    (q : ∀ (p : Addr) (H1 : Hp), H p = none → H1 p = some (.lst ws) → Stp [] H H1 → Q (.ref p) H1) : tLc (iList K (tVar i)) (gName j) tYes (tVar j) [j] σ H Q := by
  refine i_Lc (i_List (i_var hi ⟨r, rfl, ⟨ws, SqL.of hr⟩, fun l hl0 => ?_⟩))
  refine lc_list (xs := ws) (fun i H' => Stp [] H H' ∧ H' l = some (.lst (ws.take i))) ⟨.new hl0, upd_same⟩ (fun i H' _ ⟨h, _⟩ => SqL.of (h.keep _ _ hr (by simp))) ?_ ?_
  · rintro n x H1 hx ⟨s1, h1⟩
    refine i_Name ⟨wipe_one _ _ _, i_Yes (i_ite (fun _ => i_var (wipe_at hj x) ⟨_, h1, ?_, s1.mut hl0, ?_⟩) (fun z => nomatch z))⟩
    · rw [List.length_take]
      exact Nat.lt_of_le_of_lt (show min n ws.length ≤ 100000 by omega) (by decide)
    · rw [upd_same, List.take_add_one, hx]; rfl
  · rintro H1 ⟨s1, h1⟩
    rw [List.take_length] at h1
    exact q l H1 hl0 h1 s1
theorem depth_all {k : Nat} : ∀ {ds : List Dt}, (∀ d ∈ ds, d.depth ≤ k) → Dt.depthAll ds ≤ k
  | [], _ => Nat.zero_le _
  | d :: ds, h => by
    have h1 := depth_all fun e he => h e (List.mem_cons_of_mem _ he)
    have h2 := h d List.mem_cons_self
    rw [Dt.depthAll]
    omega
mutual
theorem dt_grow {H H1 : Hp} (s : Stp [] H H1) : ∀ (d : Dt) (v : V), DtAt K H v d → DtAt K H1 v d
  | .non, _, h => by cases h; exact .non
  | .bl _, _, h => by cases h; exact .bl _
  | .num _, _, h => by cases h; exact .num _
  | .txt _, _, h => by cases h; exact .txt _
  | .tup ds, _, h => by
    cases h with
    | tup h1 h2 => exact .tup (h1.stp s) (dts_grow s ds _ h2)
  | .lst ds, _, h => by
    cases h with
    | lst h1 h2 => exact .lst (s.seq h1 (by simp)) (dts_grow s ds _ h2)
theorem dts_grow {H H1 : Hp} (s : Stp [] H H1) : ∀ (ds : List Dt) (vs : List V), DtsAt K H vs ds → DtsAt K H1 vs ds
  | [], _, h => by cases h; exact .nil
  | d :: ds, _, h => by
    cases h with
    | cons h1 h2 => exact .cons (dt_grow s d _ h1) (dts_grow s ds _ h2)
end
theorem ints_depth (os : List Int) : (Dt.lst (os.map Dt.num)).depth ≤ 60 := by
  have h : Dt.depthAll (os.map Dt.num) ≤ 1 := depth_all fun d hd => by
    obtain ⟨r, _, rfl⟩ := List.mem_map.mp hd
    simp [Dt.depth]
  rw [Dt.depth]; omega
theorem chs_dep (cs : List Ch) : (Dt.lst (cs.map chD)).depth ≤ 30 := by
  have h : Dt.depthAll (cs.map chD) ≤ 3 := depth_all fun d hd => by
    obtain ⟨r, _, rfl⟩ := List.mem_map.mp hd
    exact chD_depth r
  rw [Dt.depth]; omega
theorem msgD_dep (sd n : Int) (cs : List Ch) : (msgD sd n cs).depth ≤ 60 := by
  have h := chs_dep cs
  unfold msgD
  simp only [Dt.depth, Dt.depthAll] at h ⊢
  omega
theorem fields_ok {z : Str} (h : z ∈ fieldsV) : (1 ≤ z.length ∧ z.length ≤ 8) ∧ azZ z := by
  simp only [fieldsV, List.mem_cons, List.not_mem_nil, or_false] at h
  rcases h with rfl | rfl | rfl | rfl | rfl <;> exact ⟨by decide, by unfold azZ; decide⟩
theorem texts_ok {z : Str} (h : z ∈ textsV) : z.length ≤ 20 ∧ azZ z := by
  simp only [textsV, List.mem_cons, List.not_mem_nil, or_false] at h
  rcases h with rfl | rfl | rfl | rfl <;> exact ⟨by decide, by unfold azZ; decide⟩
theorem nums_ok {i : Int} (h : i ∈ numsV) : -1000000 ≤ i ∧ i ≤ 1000000 := by
  simp only [numsV, List.mem_cons, List.not_mem_nil, or_false] at h
  omega
theorem drawn_okL {c : Ch} (h : drawnCh c) : OkChL c := by
  obtain ⟨h1, h2, h3, h4, h5⟩ := h
  obtain ⟨⟨a1, a2⟩, a3, a4⟩ := h3
  refine ⟨⟨h1.1, by omega⟩, ⟨h2.1, by omega⟩, ⟨⟨a1, by omega⟩, a3, by omega⟩, fields_ok h4, ?_⟩
  cases hq : c.va with
  | non => trivial
  | num i => rw [hq] at h5; exact nums_ok h5
  | txt z => rw [hq] at h5; exact texts_ok h5
  | tg s m =>
    rw [hq] at h5
    obtain ⟨e, ⟨b1, b2⟩, b3, b4⟩ := h5
    exact ⟨e, ⟨b1, by omega⟩, b3, by omega⟩
theorem drawn_law {c : Ch} (h : drawnCh c) : LawCh c := by
  have o := drawn_okL h
  obtain ⟨h1, h2, h3, h4, h5⟩ := h
  refine ⟨⟨by have := o.fd.1; omega, ?_⟩, ⟨h2.1, by omega⟩, ⟨h3.1.1, by have := h3.1.2; omega⟩, o.fd.2, ?_⟩
  · cases hq : c.va with
    | non => trivial
    | num i => trivial
    | txt z => have := o.va; rw [hq] at this; exact Nat.le_trans this.1 (by decide)
    | tg s m => trivial
  · cases hq : c.va with
    | non => trivial
    | num i => trivial
    | txt z => have := o.va; rw [hq] at this; exact this.2
    | tg s m => have := o.va; rw [hq] at this; exact ⟨this.2.1.1, by have := this.2.1.2; omega⟩
def numbersV : List Int := [0, 1, 255, 256, 65536, 4294967295]
def spLaw (K : PySem.W.Frag) : Sp := fun vs H Q _ => ∃ (a : Addr) (ns : List Int), vs = [.ref a] ∧ SqL K H a (ns.map V.int) ∧ ∀ H', Q (.bl true) H'
theorem ok_law {f : Addr} {fd : FuncData} (F : FunD K d_law.name d_law.qual d_law.params d_law.body d_law.scope [] [] f fd) (B : Blt mg) (C_law_digits : Cal P w K mg base lv_law_digits "_law_digits" ["script", "first", "last"] (spDigits K)) (C_law_draw : Cal P w K mg base lv_law_draw "_law_draw" ["box", "many"] (spDraw K)) (C_law_changes : Cal P w K mg base lv_law_changes "_law_changes" ["box", "most"] (spChanges K)) (C_law_mixed : Cal P w K mg base lv_law_mixed "_law_mixed" ["box", "row"] (spMixed K))
    (C_message_octets : Cal P w K mg base lv_message_octets "message_octets" ["sender", "number", "changes"] (spMsgO K)) (C_law_message_code : Cal P w K mg base lv_law_message_code "_law_message_code" ["sender", "number", "changes"] (spLMsg K)) (C_read_message : Cal P w K mg base lv_read_message "read_message" ["octets"] (spRMsg K)) (C_check_of : Cal P w K mg base lv_check_of "check_of" ["octets"] (spChk K)) (C_law_sums : Cal P w K mg base lv_law_sums "_law_sums" ["code"] (spSums K)) :
    FnOk P w K mg base CX0 lv_law f fd ["script"] (spLaw K) := by
  refine F.ok sc_law (fun vs H Q E h => ?_) (fun cdv A outer s H vs Q E hr h => ⟨_, PSs.nox
    (pss_cons (ps_set (i := 1) sc_law.nd rfl (Or.inr rfl) (pe_lst (pa_cons (pc_call C_law_digits (hr.mono (by decide)) (by rfl) (pa_cons (pv 0) (pa_cons pe_int (pa_cons pe_int pa_nil)))) (pa_cons pe_int pa_nil))))
    (pss_cons (ps_set (i := 2) sc_law.nd rfl (Or.inl rfl) (pc_call C_law_draw (hr.mono (by decide)) (by rfl) (pa_cons (pv 1) (pa_cons pe_int pa_nil))))
    (pss_cons (ps_set (i := 3) sc_law.nd rfl (Or.inl rfl) (pe_ix (ix_listK (K := K) rfl) (pe_lst (pa_cons pe_int (pa_cons pe_int (pa_cons pe_int (pa_cons pe_int (pa_cons pe_int (pa_cons pe_int pa_nil))))))) (pc_call C_law_draw (hr.mono (by decide)) (by rfl) (pa_cons (pv 1) (pa_cons pe_int pa_nil))) (fun _ _ => rfl)))
    (pss_cons (ps_set (i := 4) sc_law.nd rfl (Or.inl rfl) (pc_call C_law_mixed (hr.mono (by decide)) (by rfl) (pa_cons (pv 1) (pa_cons (pc_call C_law_changes (hr.mono (by decide)) (by rfl) (pa_cons (pv 1) (pa_cons pe_int pa_nil))) pa_nil))))
    (pss_cons (ps_setLc (i := 5) (own := [("change", 9)]) (g := gName 9) (by rfl) sc_law.nd rfl rfl (sw_true rfl rfl rfl (by decide +kernel)) (pi_list (pv 4)) (blkOk_by (N := ["script", "box", "sender", "number", "changes", "kept", "code", "told", "row", "change", "k"]) (own := [("change", 9)]) (sc := defScope s_law) (by decide +kernel)) (fun _ _ _ _ _ => (pg_name (i := 9) sc_law.nd rfl (Or.inl rfl))) (fun _ _ _ _ _ => pts_nil) (fun _ _ _ _ _ => (pv 9)))
    (pss_cons (ps_set (i := 6) sc_law.nd rfl (Or.inl rfl) (pc_call C_message_octets (hr.mono (by decide)) (by rfl) (pa_cons (pv 2) (pa_cons (pv 3) (pa_cons (pv 4) pa_nil)))))
    (pss_cons (ps_if (PW.pt (pw_or (pt_not (pt_val (pe_callB call_isi (by rfl) B.isinstance (by decide +kernel) (pa_cons (pv 6) (pa_cons (pe_bltn (v := .ty "list") (by rfl) B.list (by decide +kernel) rfl) pa_nil))))) (pw_or (pt_cmpR (op_neTK (K := K) rfl hr.units) (pv 6) (pc_call C_law_message_code (hr.mono (by decide)) (by rfl) (pa_cons (pv 2) (pa_cons (pv 3) (pa_cons (pv 4) pa_nil)))) (nomark _)) (pw_or1 (pt_cmpR (op_neTK (K := K) rfl hr.units) (pv 4) (pv 5) (nomark _))))))
      (pss_one (ps_ret pe_bl))
      pss_nil)
    (pss_cons (ps_set (i := 7) sc_law.nd rfl (Or.inl rfl) (pc_call C_read_message (hr.mono (by decide)) (by rfl) (pa_cons (pv 6) pa_nil)))
    (pss_cons (ps_if (PW.pt (pw_or (pt_not (pt_val (pe_callB call_isi (by rfl) B.isinstance (by decide +kernel) (pa_cons (pv 7) (pa_cons (pe_bltn (v := .ty "tuple") (by rfl) B.tuple (by decide +kernel) rfl) pa_nil))))) (pw_or1 (pt_cmpR (op_neTK (K := K) rfl hr.units) (pv 7) (pe_tup (pa_cons (pv 2) (pa_cons (pv 3) (pa_cons (pv 4) pa_nil)))) (nomark _)))))
      (pss_one (ps_ret pe_bl))
      pss_nil)
    (pss_cons (ps_setLc (i := 8) (own := [("k", 10)]) (g := gName 10) (by rfl) sc_law.nd rfl rfl (sw_true rfl rfl rfl (by decide +kernel)) (pi_range1 rfl B.range (pa_cons (pc_call C_law_draw (hr.mono (by decide)) (by rfl) (pa_cons (pv 1) (pa_cons pe_int pa_nil))) pa_nil)) (blkOk_by (N := ["script", "box", "sender", "number", "changes", "kept", "code", "told", "row", "change", "k"]) (own := [("k", 10)]) (sc := defScope s_law) (by decide +kernel)) (fun _ _ _ _ _ => (pg_name (i := 10) sc_law.nd rfl (Or.inl rfl))) (fun _ _ _ _ _ => pts_nil) (fun _ _ _ _ _ => (pc_call C_law_draw (hr.mono (by decide)) (by rfl) (pa_cons (pv 1) (pa_cons pe_int pa_nil)))))
    (pss_one (ps_ret (pe_cmpR (op_eqTK (K := K) rfl hr.units) (pc_call C_check_of (hr.mono (by decide)) (by rfl) (pa_cons (pv 8) pa_nil)) (pc_call C_law_sums (hr.mono (by decide)) (by rfl) (pa_cons (pv 8) pa_nil)) (nomark _)))))))))))))), ?_⟩)
  · obtain ⟨a, ns, rfl, _⟩ := h
    rfl
  · obtain ⟨a, ns, rfl, hs, q⟩ := h
    repeat walk_at "h"
    refine ⟨a, ns, 0, 63, rfl, by decide, by decide, by decide, by decide, hs, fun dg ds H1 n1 h1 s1 => ?_⟩
    repeat walk_at "h"
    refine ⟨(by decide : 2 ≤ sizeLine), fun b hb => ?_⟩
    have B0 : Box K b dg (upd H1 b (.lst [.ref dg, .int 0])) := ⟨⟨0, upd_same, by decide⟩, ⟨ds, (Stp.new (M := []) hb).keep _ _ h1 (by simp)⟩, ne_of_none h1 hb⟩
    repeat walk_at "h"
    generalize upd H1 b (.lst [.ref dg, .int 0]) = H2 at B0 ⊢
    clear s1 h1 n1 hb hs
    refine ⟨b, dg, 8, rfl, by decide, B0, fun sd H3 sd0 sd1 s3 B3 => ?_⟩
    repeat walk_at "h"
    refine ⟨(by decide : 6 ≤ sizeLine), fun p hp => ?_⟩
    have s4 : Stp [] H3 (upd H3 p (.lst (numbersV.map V.int))) := .new hp
    have p4 : (upd H3 p (.lst (numbersV.map V.int))) p = some (.lst (numbersV.map V.int)) := upd_same
    have B4 := B3.grow s4
    have pb : p ∉ [b] := B3.nin hp
    show tCall _ _ _ _ _ (upd H3 p (.lst (numbersV.map V.int))) _
    generalize upd H3 p (.lst (numbersV.map V.int)) = H4 at s4 p4 B4 ⊢
    repeat walk_at "h"
    refine ⟨b, dg, 6, rfl, by decide, B4, fun ni H5 n0 n1 s5 B5 => ?_⟩
    have p5 := s5.keep _ _ p4 pb
    obtain ⟨nv, hnv, hm⟩ := pick (xs := numbersV.map V.int) n0 (by simpa [numbersV] using n1)
    obtain ⟨n, hn, rfl⟩ := List.mem_map.mp hm
    have hn2 : 0 ≤ n ∧ n ≤ 4294967295 := by
      simp only [numbersV, List.mem_cons, List.not_mem_nil, or_false] at hn
      omega
    refine i_IxL (SqL.of p5) hnv ?_
    clear s3 s4 s5 p4 p5 B3 B4 B0 hnv hm hn
    repeat walk_at "h"
    refine ⟨b, dg, 8, rfl, by decide, by decide, B5, fun ch ws cs H6 nch hch dch dr nd lc s6 B6 => ?_⟩
    have wl : ws.length = cs.length := by have := dch.length; rwa [List.length_map] at this
    repeat walk_at "h"
    refine ⟨b, dg, ch, ws, rfl, B6, hch, fun z => (B5.nin nch) (by simp [z]), by omega, fun m us H7 nm hm pm s7 B7 => ?_⟩
    obtain ⟨es, pe, des⟩ := dts_perm (H := H7) pm (chs_stp dch s7)
    have el : es.length ≤ 8 := by have := pe.length_eq; omega
    have ul : us.length = es.length := by have := des.length; rwa [List.length_map] at this
    have dre : ∀ c ∈ es, drawnCh c := fun c hc => dr c (pe.mem_iff.mp hc)
    clear s6 s7 dch hch nch pm pe nm
    repeat walk_at "h"
    refine lc_same (i := 4) (j := 9) rfl ⟨_, rfl⟩ hm (by omega) fun kp H8 nkp hkp s8 => ?_
    have hm8 := s8.keep _ _ hm (by simp)
    have des8 := chs_stp des s8
    have B8 := B7.grow s8
    clear s8 hm des B7 nkp
    repeat walk_at "h"
    refine ⟨sd, n, m, us, es, rfl, hm8, des8, by omega, fun c hc => (drawn_law (dre c hc)).sh, fun cp H9 ncp hcp s9 => ?_⟩
    have hm9 := s9.keep _ _ hm8 (by simp)
    have des9 := chs_stp des8 s9
    have B9 := B8.grow s9
    have kp9 := s9.keep _ _ hkp (by simp)
    clear s9 hm8 des8 B8 hkp
    repeat walk_at "h"
    refine i_Isi "list" true (ints_at hcp) ?_
    repeat walk_at "h"
    refine iteF ?_
    repeat walk_at "h"
    refine ⟨sd, n, m, us, es, rfl, ⟨sd0, by omega⟩, hm9, des9, by omega, fun c hc => drawn_law (dre c hc), fun cp2 H10 ncp2 hcp2 s10 => ?_⟩
    have hcp10 := s10.keep _ _ hcp (by simp)
    have hm10 := s10.keep _ _ hm9 (by simp)
    have des10 := chs_stp des9 s10
    have B10 := B9.grow s10
    have kp10 := s10.keep _ _ kp9 (by simp)
    clear s10 hm9 des9 B9 kp9 hcp
    refine i_NeT (ints_at hcp10) (ints_at hcp2) ?_ (ints_depth _) (ints_depth _)
    rw [Dt.beq_self]
    refine ⟨_, rfl, iteF ?_⟩
    repeat walk_at "h"
    refine i_NeT (.lst (SqL.of hm10) des10) (.lst (SqL.of kp10) des10) ?_ (Nat.le_trans (chs_dep _) (by decide)) (Nat.le_trans (chs_dep _) (by decide))
    rw [Dt.beq_self]
    refine ⟨_, rfl, iteF ?_⟩
    clear kp10 hcp2
    repeat walk_at "h"
    refine ⟨cp, sd, n, es, rfl, hcp10, ⟨sd0, by omega⟩, hn2, by omega, fun c hc => drawn_okL (dre c hc), fun p ws2 v H11 np hws2 dws2 dv s11 => ?_⟩
    have hm11 := s11.keep _ _ hm10 (by simp)
    have des11 := chs_stp des10 s11
    have B11 := B10.grow s11
    clear s11 hm10 des10 B10 hcp10
    repeat walk_at "h"
    refine i_Isi "tuple" true dv ?_
    repeat walk_at "h"
    refine iteF ?_
    repeat walk_at "h"
    refine ⟨(by decide : 3 ≤ sizeLine), fun t ht => ?_⟩
    have s12 : Stp [] H11 (upd H11 t (.tup [.int sd, .int n, .ref m])) := .new ht
    have hm12 := s12.keep _ _ hm11 (by simp)
    have d12 : DtAt K (upd H11 t (.tup [.int sd, .int n, .ref m])) (.ref t) (msgD sd n es) := .tup (.inl upd_same) (.cons (.num _) (.cons (.num _) (.cons (.lst (SqL.of hm12) (chs_stp des11 s12)) .nil)))
    have B12 := B11.grow s12
    refine i_NeT (dt_grow s12 _ _ dv) d12 ?_ (msgD_dep _ _ _) (msgD_dep _ _ _)
    rw [Dt.beq_self]
    refine ⟨_, rfl, iteF ?_⟩
    clear d12 dv dws2 hws2 s12
    generalize upd H11 t (.tup [.int sd, .int n, .ref m]) = H12 at B12 ⊢
    repeat walk_at "h"
    refine i_Asg (i_Lc ?_)
    repeat walk_at "h"
    refine ⟨b, dg, 40, rfl, by decide, B12, fun k H13 k0 k1 s13 B13 => ?_⟩
    refine ⟨k, rfl, by omega, by omega, fun p hp0 => ?_⟩
    have pb : p ∉ [b] := B13.nin hp0
    refine lc_range (lo := 0) (n := k.toNat) (fun i H' => Stp [b] H13 H' ∧ Box K b dg H' ∧ ∃ os : List Int, H' p = some (.lst (os.map V.int)) ∧ os.length = i) ⟨.new hp0, B13.grow (.new hp0), [], upd_same, rfl⟩ ?_ ?_
    · rintro i H14 hi ⟨s14, B14, os, h14, ln⟩
      repeat walk_at "h"
      refine ⟨rfl, i_Yes ?_⟩
      refine i_ite (fun _ => ?_) (fun z => nomatch z)
      repeat walk_at "h"
      refine ⟨b, dg, 256, rfl, by decide, B14, fun x H15 x0 x1 s15 B15 => ?_⟩
      have h15 := s15.keep _ _ h14 pb
      have s16 : Stp [p] H15 (upd H15 p (.lst (os.map V.int ++ [.int x]))) := .wr (by simp) h15 fun _ z => nomatch z
      have pb1 : b ≠ p := by simpa using fun z : b = p => pb (by simp [z])
      have pdg : dg ≠ p := by
        obtain ⟨_, ⟨_, e⟩, _⟩ := B13
        exact ne_of_none e hp0
      exact ⟨_, h15, by rw [List.length_map]; exact Nat.lt_of_le_of_lt (show os.length ≤ 1000 by omega) (by decide), (s14.trans s15).mut hp0, B15.stp s16 (by simpa using pb1) (by simpa using pdg), os ++ [x], by rw [upd_same, List.map_append]; rfl, by rw [List.length_append, List.length_singleton, ln]⟩
    · rintro H14 ⟨s14, B14, os, h14, ln⟩
      repeat walk_at "h"
      refine ⟨p, os, rfl, h14, fun p2 H15 np2 h15 s15 => ?_⟩
      repeat walk_at "h"
      refine ⟨p, os, rfl, s15.keep _ _ h14 (by simp), fun p3 H16 np3 h16 s16 => ?_⟩
      refine i_EqT (ints_at (s16.keep _ _ h15 (by simp))) (ints_at h16) ?_ (ints_depth _) (ints_depth _)
      rw [Dt.beq_self]
      exact q H16
end

/-! ### the head: facts by names, the run -/
def fn : List He.DefD := [d_reference, d_CodeError_init, d_Reader_init, d_Reader_next_octet, d_Reader_next_number, d_Reader_next_word, d_Reader_next_plain, d_Reader_finish, d_Reader_check_order, d_number_octets, d_word_octets, d_plain_octets, d_check_of, d_message_octets, d_read_message, d_change_octets, d_name_octets, d_value_octets, d_read_change, d_read_name, d_read_value, d_law_cell, d_law_digits, d_law_draw, d_law_name, d_law_field, d_law_worth, d_law_changes, d_law_mixed, d_law_cells, d_law_fields, d_law_digits_of, d_law_letters, d_law_graph_code, d_law_message_code, d_law_sums, d_law]
def fa0 : List He.Fa := [.glo "reference", .glo "number_octets", .glo "word_octets", .glo "plain_octets", .glo "check_of", .glo "message_octets", .glo "read_message", .glo "_change_octets", .glo "_name_octets", .glo "_value_octets", .glo "_read_change", .glo "_read_name", .glo "_read_value", .glo "_law_cell", .glo "_law_digits", .glo "_law_draw", .glo "_law_name", .glo "_law_field", .glo "_law_worth", .glo "_law_changes", .glo "_law_mixed", .glo "_law_cells", .glo "_law_fields", .glo "_law_digits_of", .glo "_law_letters", .glo "_law_graph_code", .glo "_law_message_code", .glo "_law_sums", .glo "law", .free "len"]
def fa1 : List He.Fa := [.free "int", .free "range", .free "isinstance", .free "sorted", .free "list", .free "tuple", .free "dict", .free "str", .free "bool", .free "max", .free "min", .free "all", .free "any", .free "sum", .free "ord", .free "enumerate", .int "GREATEST_PEER" (7), .int "GREATEST_COUNT" (4294967295), .int "LONGEST_FIELD" (8), .int "LONGEST_TEXT" (20), .int "LEAST_INTEGER" (-1000000), .int "GREATEST_INTEGER" (1000000), .int "GREATEST_CLOCK" (4294967295), .int "NOTHING" (0), .int "INTEGER" (1), .int "TEXT" (2), .int "OBJECT" (3), .str "LETTERS" "abcdefghijklmnopqrstuvwxyz", .int "FIRST_CODE" (97), .int "LAST_CODE" (122)]
def fa2 : List He.Fa := [.int "GREATEST_NUMBER" (4294967295), .int "MOST_CHANGES" (65535), .glo "GraphtwinsError", .glo "CodeError", .glo "Reader", .cls "Reader", .noat "Reader" "octets", .noat "Reader" "place", .mkr "Reader", .meth "Reader" "next_octet", .meth "Reader" "next_number", .meth "Reader" "next_word", .meth "Reader" "next_plain", .meth "Reader" "finish", .meth "Reader" "_check_order"]
def fa : List He.Fa := fa0 ++ fa1 ++ fa2
def exB (K : PySem.W.Frag) : Bool := true
def tf : List He.Defn := []
abbrev R : PySem.W.OpenRow := PySem.W.OpenLaw.row PySem.Challenge.rw_graphtwins_k09_octets_of_messages
abbrev hk : PySem.W.Hook := He.hookX 5 fa fn [] tf exB
def ob (s : PySem.W.SharedT) : He.AlX := He.obsX 5 fa fn [] tf exB (HandSHeadRun.getT s)
theorem ob_eq (s : PySem.W.SharedT) : ob s = hk.obs s.abs := He.obsX_eq (HandSHeadRun.getT_eq s)
def loose0 : List PySem.Str := ["GREATEST_PEER", "GREATEST_COUNT", "LONGEST_FIELD", "LONGEST_TEXT", "LEAST_INTEGER", "GREATEST_INTEGER", "reference", "GREATEST_CLOCK", "GraphtwinsError", "CodeError", "NOTHING", "INTEGER", "TEXT", "OBJECT", "LETTERS", "FIRST_CODE", "LAST_CODE", "Reader", "number_octets", "word_octets", "plain_octets", "GREATEST_NUMBER", "MOST_CHANGES", "check_of", "message_octets", "read_message", "_change_octets", "_name_octets", "_value_octets", "_read_change"]
def loose1 : List PySem.Str := ["_read_name", "_read_value", "_law_cell", "_law_digits", "_law_draw", "_law_name", "_law_field", "_law_worth", "_law_changes", "_law_mixed", "_law_cells", "_law_fields", "_law_digits_of", "_law_letters", "_law_graph_code", "_law_message_code", "_law_sums"]
abbrev looseN : List PySem.Str := loose0 ++ loose1
set_option maxHeartbeats 0 in
theorem run (w : World) : HandSHeadRun.RunEq R (PySem.W.view R.prog [53]) hk ob 3000 looseN w := by
  intro os
  kernel_rfl
theorem facts {P : Program} {w : World} {K : PySem.W.Frag} {h : Heap} {mg : Str → Option Value} {f : Addr} (X : K.In h) (G : h.Ns mainGlobals mg) (hfa : mg ("law" : Str) = some (.ref f)) (c : He.SaysX fa fn [] tf exB w h K) :
    ∃ fd : FuncData, (∀ (s : Shared) (v : Value), BindsTo s fd ⟨[v], []⟩ [("script", v)]) ∧ ∀ base : Heap, K.In base → base.Ns mainGlobals mg → FnOk P w K mg base CX0 lv_law f fd ["script"] (spLaw K) := by
  have D_reference : Df K mg d_reference := by obtain ⟨fd, F⟩ := c.t.d.def_ 0 (d := d_reference) rfl; exact ⟨_, fd, F, He.glo_ok X G (c.t.d.fact 0 (f := .glo "reference") rfl)⟩
  obtain ⟨fd_CodeError_init, F_CodeError_init⟩ := c.t.d.def_ 1 (d := d_CodeError_init) rfl
  obtain ⟨fd_Reader_init, F_Reader_init⟩ := c.t.d.def_ 2 (d := d_Reader_init) rfl
  obtain ⟨fd_Reader_next_octet, F_Reader_next_octet⟩ := c.t.d.def_ 3 (d := d_Reader_next_octet) rfl
  obtain ⟨fd_Reader_next_number, F_Reader_next_number⟩ := c.t.d.def_ 4 (d := d_Reader_next_number) rfl
  obtain ⟨fd_Reader_next_word, F_Reader_next_word⟩ := c.t.d.def_ 5 (d := d_Reader_next_word) rfl
  obtain ⟨fd_Reader_next_plain, F_Reader_next_plain⟩ := c.t.d.def_ 6 (d := d_Reader_next_plain) rfl
  obtain ⟨fd_Reader_finish, F_Reader_finish⟩ := c.t.d.def_ 7 (d := d_Reader_finish) rfl
  obtain ⟨fd_Reader_check_order, F_Reader_check_order⟩ := c.t.d.def_ 8 (d := d_Reader_check_order) rfl
  have D_number_octets : Df K mg d_number_octets := by obtain ⟨fd, F⟩ := c.t.d.def_ 9 (d := d_number_octets) rfl; exact ⟨_, fd, F, He.glo_ok X G (c.t.d.fact 1 (f := .glo "number_octets") rfl)⟩
  have D_word_octets : Df K mg d_word_octets := by obtain ⟨fd, F⟩ := c.t.d.def_ 10 (d := d_word_octets) rfl; exact ⟨_, fd, F, He.glo_ok X G (c.t.d.fact 2 (f := .glo "word_octets") rfl)⟩
  have D_plain_octets : Df K mg d_plain_octets := by obtain ⟨fd, F⟩ := c.t.d.def_ 11 (d := d_plain_octets) rfl; exact ⟨_, fd, F, He.glo_ok X G (c.t.d.fact 3 (f := .glo "plain_octets") rfl)⟩
  have D_check_of : Df K mg d_check_of := by obtain ⟨fd, F⟩ := c.t.d.def_ 12 (d := d_check_of) rfl; exact ⟨_, fd, F, He.glo_ok X G (c.t.d.fact 4 (f := .glo "check_of") rfl)⟩
  have D_message_octets : Df K mg d_message_octets := by obtain ⟨fd, F⟩ := c.t.d.def_ 13 (d := d_message_octets) rfl; exact ⟨_, fd, F, He.glo_ok X G (c.t.d.fact 5 (f := .glo "message_octets") rfl)⟩
  have D_read_message : Df K mg d_read_message := by obtain ⟨fd, F⟩ := c.t.d.def_ 14 (d := d_read_message) rfl; exact ⟨_, fd, F, He.glo_ok X G (c.t.d.fact 6 (f := .glo "read_message") rfl)⟩
  have D_change_octets : Df K mg d_change_octets := by obtain ⟨fd, F⟩ := c.t.d.def_ 15 (d := d_change_octets) rfl; exact ⟨_, fd, F, He.glo_ok X G (c.t.d.fact 7 (f := .glo "_change_octets") rfl)⟩
  have D_name_octets : Df K mg d_name_octets := by obtain ⟨fd, F⟩ := c.t.d.def_ 16 (d := d_name_octets) rfl; exact ⟨_, fd, F, He.glo_ok X G (c.t.d.fact 8 (f := .glo "_name_octets") rfl)⟩
  have D_value_octets : Df K mg d_value_octets := by obtain ⟨fd, F⟩ := c.t.d.def_ 17 (d := d_value_octets) rfl; exact ⟨_, fd, F, He.glo_ok X G (c.t.d.fact 9 (f := .glo "_value_octets") rfl)⟩
  have D_read_change : Df K mg d_read_change := by obtain ⟨fd, F⟩ := c.t.d.def_ 18 (d := d_read_change) rfl; exact ⟨_, fd, F, He.glo_ok X G (c.t.d.fact 10 (f := .glo "_read_change") rfl)⟩
  have D_read_name : Df K mg d_read_name := by obtain ⟨fd, F⟩ := c.t.d.def_ 19 (d := d_read_name) rfl; exact ⟨_, fd, F, He.glo_ok X G (c.t.d.fact 11 (f := .glo "_read_name") rfl)⟩
  have D_read_value : Df K mg d_read_value := by obtain ⟨fd, F⟩ := c.t.d.def_ 20 (d := d_read_value) rfl; exact ⟨_, fd, F, He.glo_ok X G (c.t.d.fact 12 (f := .glo "_read_value") rfl)⟩
  have D_law_cell : Df K mg d_law_cell := by obtain ⟨fd, F⟩ := c.t.d.def_ 21 (d := d_law_cell) rfl; exact ⟨_, fd, F, He.glo_ok X G (c.t.d.fact 13 (f := .glo "_law_cell") rfl)⟩
  have D_law_digits : Df K mg d_law_digits := by obtain ⟨fd, F⟩ := c.t.d.def_ 22 (d := d_law_digits) rfl; exact ⟨_, fd, F, He.glo_ok X G (c.t.d.fact 14 (f := .glo "_law_digits") rfl)⟩
  have D_law_draw : Df K mg d_law_draw := by obtain ⟨fd, F⟩ := c.t.d.def_ 23 (d := d_law_draw) rfl; exact ⟨_, fd, F, He.glo_ok X G (c.t.d.fact 15 (f := .glo "_law_draw") rfl)⟩
  have D_law_name : Df K mg d_law_name := by obtain ⟨fd, F⟩ := c.t.d.def_ 24 (d := d_law_name) rfl; exact ⟨_, fd, F, He.glo_ok X G (c.t.d.fact 16 (f := .glo "_law_name") rfl)⟩
  have D_law_field : Df K mg d_law_field := by obtain ⟨fd, F⟩ := c.t.d.def_ 25 (d := d_law_field) rfl; exact ⟨_, fd, F, He.glo_ok X G (c.t.d.fact 17 (f := .glo "_law_field") rfl)⟩
  have D_law_worth : Df K mg d_law_worth := by obtain ⟨fd, F⟩ := c.t.d.def_ 26 (d := d_law_worth) rfl; exact ⟨_, fd, F, He.glo_ok X G (c.t.d.fact 18 (f := .glo "_law_worth") rfl)⟩
  have D_law_changes : Df K mg d_law_changes := by obtain ⟨fd, F⟩ := c.t.d.def_ 27 (d := d_law_changes) rfl; exact ⟨_, fd, F, He.glo_ok X G (c.t.d.fact 19 (f := .glo "_law_changes") rfl)⟩
  have D_law_mixed : Df K mg d_law_mixed := by obtain ⟨fd, F⟩ := c.t.d.def_ 28 (d := d_law_mixed) rfl; exact ⟨_, fd, F, He.glo_ok X G (c.t.d.fact 20 (f := .glo "_law_mixed") rfl)⟩
  have D_law_cells : Df K mg d_law_cells := by obtain ⟨fd, F⟩ := c.t.d.def_ 29 (d := d_law_cells) rfl; exact ⟨_, fd, F, He.glo_ok X G (c.t.d.fact 21 (f := .glo "_law_cells") rfl)⟩
  have D_law_fields : Df K mg d_law_fields := by obtain ⟨fd, F⟩ := c.t.d.def_ 30 (d := d_law_fields) rfl; exact ⟨_, fd, F, He.glo_ok X G (c.t.d.fact 22 (f := .glo "_law_fields") rfl)⟩
  have D_law_digits_of : Df K mg d_law_digits_of := by obtain ⟨fd, F⟩ := c.t.d.def_ 31 (d := d_law_digits_of) rfl; exact ⟨_, fd, F, He.glo_ok X G (c.t.d.fact 23 (f := .glo "_law_digits_of") rfl)⟩
  have D_law_letters : Df K mg d_law_letters := by obtain ⟨fd, F⟩ := c.t.d.def_ 32 (d := d_law_letters) rfl; exact ⟨_, fd, F, He.glo_ok X G (c.t.d.fact 24 (f := .glo "_law_letters") rfl)⟩
  have D_law_graph_code : Df K mg d_law_graph_code := by obtain ⟨fd, F⟩ := c.t.d.def_ 33 (d := d_law_graph_code) rfl; exact ⟨_, fd, F, He.glo_ok X G (c.t.d.fact 25 (f := .glo "_law_graph_code") rfl)⟩
  have D_law_message_code : Df K mg d_law_message_code := by obtain ⟨fd, F⟩ := c.t.d.def_ 34 (d := d_law_message_code) rfl; exact ⟨_, fd, F, He.glo_ok X G (c.t.d.fact 26 (f := .glo "_law_message_code") rfl)⟩
  have D_law_sums : Df K mg d_law_sums := by obtain ⟨fd, F⟩ := c.t.d.def_ 35 (d := d_law_sums) rfl; exact ⟨_, fd, F, He.glo_ok X G (c.t.d.fact 27 (f := .glo "_law_sums") rfl)⟩
  have D_law : Df K mg d_law := by obtain ⟨fd, F⟩ := c.t.d.def_ 36 (d := d_law) rfl; exact ⟨_, fd, F, He.glo_ok X G (c.t.d.fact 28 (f := .glo "law") rfl)⟩
  have B : Blt mg := ⟨He.free_ok X G (c.t.d.fact 29 (f := .free "len") rfl), He.free_ok X G (c.t.d.fact 30 (f := .free "int") rfl), He.free_ok X G (c.t.d.fact 31 (f := .free "range") rfl), He.free_ok X G (c.t.d.fact 32 (f := .free "isinstance") rfl), He.free_ok X G (c.t.d.fact 33 (f := .free "sorted") rfl), He.free_ok X G (c.t.d.fact 34 (f := .free "list") rfl), He.free_ok X G (c.t.d.fact 35 (f := .free "tuple") rfl), He.free_ok X G (c.t.d.fact 36 (f := .free "dict") rfl), He.free_ok X G (c.t.d.fact 37 (f := .free "str") rfl), He.free_ok X G (c.t.d.fact 38 (f := .free "bool") rfl), He.free_ok X G (c.t.d.fact 39 (f := .free "max") rfl), He.free_ok X G (c.t.d.fact 40 (f := .free "min") rfl), He.free_ok X G (c.t.d.fact 41 (f := .free "all") rfl), He.free_ok X G (c.t.d.fact 42 (f := .free "any") rfl), He.free_ok X G (c.t.d.fact 43 (f := .free "sum") rfl), He.free_ok X G (c.t.d.fact 44 (f := .free "ord") rfl), He.free_ok X G (c.t.d.fact 45 (f := .free "enumerate") rfl)⟩
  have I_GREATEST_PEER := He.int_ok X G (c.t.d.fact 46 (f := .int "GREATEST_PEER" (7)) rfl)
  have I_GREATEST_COUNT := He.int_ok X G (c.t.d.fact 47 (f := .int "GREATEST_COUNT" (4294967295)) rfl)
  have I_LONGEST_FIELD := He.int_ok X G (c.t.d.fact 48 (f := .int "LONGEST_FIELD" (8)) rfl)
  have I_LONGEST_TEXT := He.int_ok X G (c.t.d.fact 49 (f := .int "LONGEST_TEXT" (20)) rfl)
  have I_LEAST_INTEGER := He.int_ok X G (c.t.d.fact 50 (f := .int "LEAST_INTEGER" (-1000000)) rfl)
  have I_GREATEST_INTEGER := He.int_ok X G (c.t.d.fact 51 (f := .int "GREATEST_INTEGER" (1000000)) rfl)
  have I_GREATEST_CLOCK := He.int_ok X G (c.t.d.fact 52 (f := .int "GREATEST_CLOCK" (4294967295)) rfl)
  have I_NOTHING := He.int_ok X G (c.t.d.fact 53 (f := .int "NOTHING" (0)) rfl)
  have I_INTEGER := He.int_ok X G (c.t.d.fact 54 (f := .int "INTEGER" (1)) rfl)
  have I_TEXT := He.int_ok X G (c.t.d.fact 55 (f := .int "TEXT" (2)) rfl)
  have I_OBJECT := He.int_ok X G (c.t.d.fact 56 (f := .int "OBJECT" (3)) rfl)
  have I_LETTERS := He.str_ok X G (c.t.d.fact 57 (f := .str "LETTERS" "abcdefghijklmnopqrstuvwxyz") rfl)
  have I_FIRST_CODE := He.int_ok X G (c.t.d.fact 58 (f := .int "FIRST_CODE" (97)) rfl)
  have I_LAST_CODE := He.int_ok X G (c.t.d.fact 59 (f := .int "LAST_CODE" (122)) rfl)
  have I_GREATEST_NUMBER := He.int_ok X G (c.t.d.fact 60 (f := .int "GREATEST_NUMBER" (4294967295)) rfl)
  have I_MOST_CHANGES := He.int_ok X G (c.t.d.fact 61 (f := .int "MOST_CHANGES" (65535)) rfl)
  have G_GraphtwinsError := He.glo_ok X G (c.t.d.fact 62 (f := .glo "GraphtwinsError") rfl)
  have G_CodeError := He.glo_ok X G (c.t.d.fact 63 (f := .glo "CodeError") rfl)
  have G_Reader := He.glo_ok X G (c.t.d.fact 64 (f := .glo "Reader") rfl)
  have CLS_Reader := He.cls_ok (c.t.d.fact 65 (f := .cls "Reader") rfl)
  have NOAT_Reader_octets := He.noat_ok (c.t.d.fact 66 (f := .noat "Reader" "octets") rfl)
  have NOAT_Reader_place := He.noat_ok (c.t.d.fact 67 (f := .noat "Reader" "place") rfl)
  have MKR_Reader := He.mkr_ok (c.t.d.fact 68 (f := .mkr "Reader") rfl)
  have METH_Reader_next_octet := He.meth_ok (c.t.d.fact 69 (f := .meth "Reader" "next_octet") rfl)
  have METH_Reader_next_number := He.meth_ok (c.t.d.fact 70 (f := .meth "Reader" "next_number") rfl)
  have METH_Reader_next_word := He.meth_ok (c.t.d.fact 71 (f := .meth "Reader" "next_word") rfl)
  have METH_Reader_next_plain := He.meth_ok (c.t.d.fact 72 (f := .meth "Reader" "next_plain") rfl)
  have METH_Reader_finish := He.meth_ok (c.t.d.fact 73 (f := .meth "Reader" "finish") rfl)
  have METH_Reader__check_order := He.meth_ok (c.t.d.fact 74 (f := .meth "Reader" "_check_order") rfl)
  have EX := c.more
  obtain ⟨fd, F⟩ := c.t.d.def_ 36 (d := d_law) rfl
  obtain ⟨_, _, _, gl⟩ := D_law
  have e : f = He.ga K "law" := by
    have h1 := hfa.symm.trans (He.glo_ok X G (c.t.d.fact 28 (f := .glo "law") rfl))
    injection h1 with h1
    injection h1
  subst e
  have N : ConW mg := ⟨I_GREATEST_PEER, I_GREATEST_COUNT, I_LONGEST_FIELD, I_LONGEST_TEXT, I_LEAST_INTEGER, I_GREATEST_INTEGER, I_GREATEST_CLOCK, I_NOTHING, I_INTEGER, I_TEXT, I_OBJECT, I_FIRST_CODE, I_LAST_CODE, I_GREATEST_NUMBER, I_MOST_CHANGES, I_LETTERS⟩
  have DM1 : Dfm K (He.ga K "Reader") d_Reader_next_octet := ⟨_, fd_Reader_next_octet, F_Reader_next_octet, METH_Reader_next_octet⟩
  have DM2 : Dfm K (He.ga K "Reader") d_Reader_next_number := ⟨_, fd_Reader_next_number, F_Reader_next_number, METH_Reader_next_number⟩
  have DM3 : Dfm K (He.ga K "Reader") d_Reader_next_word := ⟨_, fd_Reader_next_word, F_Reader_next_word, METH_Reader_next_word⟩
  have DM4 : Dfm K (He.ga K "Reader") d_Reader_next_plain := ⟨_, fd_Reader_next_plain, F_Reader_next_plain, METH_Reader_next_plain⟩
  have DM5 : Dfm K (He.ga K "Reader") d_Reader_finish := ⟨_, fd_Reader_finish, F_Reader_finish, METH_Reader_finish⟩
  have DM6 : Dfm K (He.ga K "Reader") d_Reader_check_order := ⟨_, fd_Reader_check_order, F_Reader_check_order, METH_Reader__check_order⟩
  have DI : Dfi K mg (He.ga K "Reader") "Reader" d_Reader_init := ⟨_, fd_Reader_init, F_Reader_init, MKR_Reader, G_Reader⟩
  have R : RdC K (He.ga K "Reader") := ⟨CLS_Reader, NOAT_Reader_octets, NOAT_Reader_place⟩
  refine ⟨fd, fun s v => F.bindsA (ps := ["script"]) (fun _ _ _ _ _ _ us hl => match us, hl with | [_], _ => rfl) s [v] rfl, fun base _ _ => ?_⟩
  have C1 := cal_cell (P := P) (w := w) (base := base) D_law_cell B
  have C2 := cal_digits D_law_digits B C1
  have C3 := cal_draw (P := P) (w := w) (base := base) D_law_draw B
  have C4 := cal_name D_law_name C3
  have C5 := cal_field D_law_field C3
  have C6 := cal_worth D_law_worth C3 C4
  have C7 := cal_law_changes D_law_changes B C3 C4 C5 C6
  have C8 := cal_law_mixed D_law_mixed B C3
  have E1 := cal_number_octets (P := P) (w := w) (base := base) D_number_octets B
  have E2 := cal_word_octets D_word_octets B E1
  have E3 := cal_plain_octets D_plain_octets B N E1 E2
  have E4 := cal_name_octets D_name_octets E1
  have E5 := cal_value_octets D_value_octets B N E4 E3
  have E6 := cal_change_octets D_change_octets E1 E4 E2 E5
  have E7 := cal_check_of (P := P) (w := w) (base := base) D_check_of
  have E8 := cal_message_octets D_message_octets B E1 E6 E7
  have L1 := cal_law_digits_of (P := P) (w := w) (base := base) D_law_digits_of B
  have L2 := cal_law_letters (P := P) (w := w) (base := base) D_law_letters B
  have L3 := cal_law_sums (P := P) (w := w) (base := base) D_law_sums B
  have L4 := cal_law_message_code D_law_message_code B L1 L2 L3
  have M0 := mki_Reader_init (P := P) (w := w) (base := base) DI R
  have M1 := mth_Reader_next_octet (P := P) (w := w) (mg := mg) (base := base) DM1 B R
  have M2 := mth_Reader_next_number DM2 B CLS_Reader M1
  have M6 := mth_Reader_check_order (P := P) (w := w) (mg := mg) (base := base) DM6 B
  have M3 := mth_Reader_next_word DM3 B N CLS_Reader M1 M6
  have M4 := mth_Reader_next_plain DM4 N CLS_Reader M2 M3
  have M5 := mth_Reader_finish (P := P) (w := w) (mg := mg) (base := base) DM5 B R
  have CR := cal_reference (P := P) (w := w) (base := base) D_reference
  have R1 := cal_read_name D_read_name N CLS_Reader M1 M2
  have R2 := cal_read_value D_read_value N CLS_Reader M1 M4 R1 CR
  have R3 := cal_read_change D_read_change N CLS_Reader M1 M2 M3 R1 R2
  have R4 := cal_read_message D_read_message B N R M0 M1 M2 M5 R3 E7
  exact ok_law F B C2 C3 C7 C8 E8 L4 R4 E7 L3
end GT
open PySem PySem.W PySem.Calls PyProof.Rows
set_option maxRecDepth 100000 in
set_option maxHeartbeats 0 in
theorem PySem.Challenge.cw_graphtwins_k09_octets_of_messages_holds : PySem.Challenge.rw_graphtwins_k09_octets_of_messages.Holds := by
  w_on; o_law
  refine HandSHeadRun.head_any (r := OpenLaw.row PySem.Challenge.rw_graphtwins_k09_octets_of_messages) (q := view (OpenLaw.row PySem.Challenge.rw_graphtwins_k09_octets_of_messages).prog [53]) (H := GT.hk) (ob := GT.ob) (M := 3000) (loose := GT.looseN) (d := HandSHeadRun.topDef (OpenLaw.row PySem.Challenge.rw_graphtwins_k09_octets_of_messages).prog 53) (kwd := []) GT.ob_eq
    (by kernel_rfl) (fun s => by kernel_rfl) GT.run (by kernel_rfl) (by kernel_rfl) (by kernel_rfl) (by rfl) (by first | assumption | decide +kernel) (by decide +kernel) ⟨rfl, rfl, rfl, rfl, rfl, by decide +kernel⟩ ?hw ?hc
  case hw => w_witness2
  case hc =>
    refine L2.walk_ofE (l := PySem.Challenge.rw_graphtwins_k09_octets_of_messages) (n := 63) (k := GT.lv_law) (x := "script") (CX := L2.CX0) rfl (by decide) (by kernel_rfl) ⟨rfl, by decide, by decide⟩ ?F (fun _ _ _ _ z => z)
    intro w mg fa h Y G hmg0
    obtain ⟨K, KX, c⟩ := Y
    have hmg : mg ("law" : PySem.Str) = some (.ref fa) := by
      have e : (HandSHeadRun.topDef (OpenLaw.row PySem.Challenge.rw_graphtwins_k09_octets_of_messages).prog 53).name = ("law" : PySem.Str) := by kernel_rfl
      rw [← e]
      exact hmg0
    obtain ⟨fd, hb, hF⟩ := GT.facts (P := (PySem.Challenge.rw_graphtwins_k09_octets_of_messages).prog) (w := w) KX G hmg c
    exact ⟨K, fd, GT.spLaw K, KX, hb, fun H a ns hl _ hS => ⟨a, ns, rfl, hS, fun _ => rfl⟩, hF⟩


