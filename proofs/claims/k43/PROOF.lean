import PyProof.Rows.All
import Wide.All
import OpenK.AllK
import Wide.FinOn
import HandS.ForMost
import HandS.Exc
import HandS.IsInst
import HandS.Style
import HandS.Flow
import HandS.Defaults
import HandS.Head0
import HandS.Head1
import HandS.Head2
import HandS.HeadEnd
import HandS.HeadHook1
import HandS.HeadHook2
import HandS.HeadHook3
import HandS.HeadHook4
import HandS.Codes
import HandS.SortKw
import HandS.ExcInit
import HandS.FStr
import HandS.Walk
import KE.KDictKeyed
import KE.KeyNested
import KE.SortData
import KE.SortKeyHeap
import KE.KDictWalk
import KE.DataCmp
import KE.DataMinMax
import HandS.Lambda
import HandS.EndTab
import HandS.HeadWalk
import HandS.DictComp
import HandS.DictEq
import HandS.TupLen
import HandS.Replace
import KE.KDictCopyH
import KE.KDictSum
import HandS.SetFor
import HandS.Strs
import HandS.Conv
import HandS.Text
import HandS.FStr
import HandS.ExcField
import HandS.ExcIs
import HandS.ExcOwn
import HandS.WordsExc
import HandS.TryOnly
import PySem.Challenge.RW_graphtwins_k43_channels
set_option Elab.async false
set_option linter.all false
set_option maxRecDepth 100000
set_option maxHeartbeats 4000000
/-! ## Part A: heaps that grow, readings step by step (nothing of one law) -/
namespace GT
open PySem PySem.Spec PyProof.Rows L2
/-! ### what a step of a program may change: the objects in M; tuples never -/
structure Stp (M : List Addr) (H H' : Hp) : Prop where
  keep : ∀ c o, H c = some o → c ∉ M → H' c = some o
  tups : ∀ c xs, H c = some (.tup xs) → H' c = some (.tup xs)
  tbls : ∀ c ps, H' c = some (.tbl ps) → ∃ qs, H c = some (.tbl qs)
theorem Stp.refl {M : List Addr} (H : Hp) : Stp M H H := ⟨fun _ _ h _ => h, fun _ _ h => h, fun _ ps h => ⟨ps, h⟩⟩
theorem Stp.trans {M : List Addr} {H H1 H2 : Hp} (a : Stp M H H1) (b : Stp M H1 H2) : Stp M H H2 :=
  ⟨fun c o h n => b.keep c o (a.keep c o h n) n, fun c xs h => b.tups c xs (a.tups c xs h), fun c ps h => let ⟨qs, e⟩ := b.tbls c ps h; a.tbls c qs e⟩
theorem Stp.mono {M M' : List Addr} {H H1 : Hp} (a : Stp M H H1) (h : ∀ c ∈ M, c ∈ M') : Stp M' H H1 :=
  ⟨fun c o e n => a.keep c o e fun z => n (h c z), a.tups, a.tbls⟩
/-- a new object -/
theorem Stp.new {M : List Addr} {H : Hp} {p : Addr} {o : HO} (n : H p = none) (nb : ∀ ps, o ≠ .tbl ps := by exact fun _ z => nomatch z) : Stp M H (upd H p o) :=
  ⟨fun c u h _ => by rw [upd_ne (ne_of_none h n)]; exact h, fun c xs h => by rw [upd_ne (ne_of_none h n)]; exact h, fun c ps h => by
    by_cases e : c = p
    · rw [e, upd_same] at h; exact absurd (Option.some.inj h) (nb ps)
    · rw [upd_ne e] at h; exact ⟨ps, h⟩⟩
theorem Stp.add {M : List Addr} {H H1 : Hp} {p : Addr} {o : HO} (a : Stp M H H1) (n : H1 p = none) (nb : ∀ ps, o ≠ .tbl ps := by exact fun _ z => nomatch z) : Stp M H (upd H1 p o) := a.trans (.new n nb)
/-- an object of M is written -/
theorem Stp.wr {M : List Addr} {H : Hp} {p : Addr} {o u : HO} (hm : p ∈ M) (hu : H p = some u) (nt : ∀ xs, u ≠ .tup xs) (nb : ∀ ps, o ≠ .tbl ps := by exact fun _ z => nomatch z) : Stp M H (upd H p o) :=
  ⟨fun c v h n => by rw [upd_ne (fun z => n (by rw [z]; exact hm))]; exact h,
   fun c xs h => by rw [upd_ne (fun z => nt xs (by rw [z, hu] at h; exact Option.some.inj h))]; exact h, fun c ps h => by
    by_cases e : c = p
    · rw [e, upd_same] at h; exact absurd (Option.some.inj h) (nb ps)
    · rw [upd_ne e] at h; exact ⟨ps, h⟩⟩
theorem Stp.write {M : List Addr} {H H1 : Hp} {p : Addr} {o u : HO} (a : Stp M H H1) (hm : p ∈ M) (hu : H1 p = some u) (nt : ∀ xs, u ≠ .tup xs) (nb : ∀ ps, o ≠ .tbl ps := by exact fun _ z => nomatch z) : Stp M H (upd H1 p o) := a.trans (.wr hm hu nt nb)
/-- an object that was not yet there at H is written -/
theorem Stp.mut {M : List Addr} {H H1 : Hp} {p : Addr} {o : HO} (a : Stp M H H1) (n : H p = none) (nb : ∀ ps, o ≠ .tbl ps := by exact fun _ z => nomatch z) : Stp M H (upd H1 p o) :=
  ⟨fun c v h m => by rw [upd_ne (ne_of_none h n)]; exact a.keep c v h m, fun c xs h => by rw [upd_ne (ne_of_none h n)]; exact a.tups c xs h, fun c ps h => by
    by_cases e : c = p
    · rw [e, upd_same] at h; exact absurd (Option.some.inj h) (nb ps)
    · rw [upd_ne e] at h; exact a.tbls c ps h⟩
/-- what is free behind was free before -/
theorem Stp.free {M : List Addr} {H H1 : Hp} (a : Stp M H H1) {p : Addr} (n : H1 p = none) (hM : p ∉ M) : H p = none := by
  cases q : H p with
  | none => rfl
  | some o => rw [a.keep p o q hM] at n; cases n
theorem Stp.nil {H H1 : Hp} (a : Stp [] H H1) : Same H H1 := fun c o h => a.keep c o h (by simp)
theorem Stp.seq {M : List Addr} {H H1 : Hp} (a : Stp M H H1) {K : PySem.W.Frag} {p : Addr} {xs : List V} (h : SqL K H p xs) (n : p ∉ M) : SqL K H1 p xs := by
  rcases h with (h | ⟨o, h⟩) | h
  · exact .inl (.inl (a.keep _ _ h n))
  · exact .inl (.inr ⟨o, a.keep _ _ h n⟩)
  · exact .inr h
/-! ### readings, one step each -/
section
variable {σ : L2.St} {H : Hp} {Q : VK} {QT : Bool → Hp → Prop} {QA : List V → Hp → Prop} {D : Ends} {v x y : V} {te ta tb tc : TE} {tt tu : TT} {t u : TS} {K : PySem.W.Frag}
theorem i_var {i : Nat} (h : σ[i]? = some (some v)) (q : Q v H) : tVar i σ H Q := ⟨v, h, q⟩
theorem i_C (q : Q v H) : tC v σ H Q := q
theorem i_Yes (q : QT true H) : tYes σ H QT := q
theorem i_Op {r : R2} (q : ta σ H fun x H1 => tb σ H1 fun y H2 => r x y H2 Q) : tOp r ta tb σ H Q := q
theorem i_Un {r : V → Hp → VK → Prop} (q : ta σ H fun x H1 => r x H1 Q) : tUn r ta σ H Q := q
theorem i_I0 {g : Int → Int → V} {i j : Int} (q : Q (g i j) H) : rI0 g (.int i) (.int j) H Q := ⟨i, j, rfl, rfl, q⟩
theorem i_I {C : Int → Int → Prop} {g : Int → Int → V} {i j : Int} (c : C i j) (q : Q (g i j) H) : rI C g (.int i) (.int j) H Q := ⟨i, j, rfl, rfl, c, q⟩
theorem i_U {g : Int → V} {i : Int} (q : Q (g i) H) : rU g (.int i) H Q := ⟨i, rfl, q⟩
theorem i_Eq (s : scal x y = true) (q : Q (.bl (decide (x = y))) H) : rEq x y H Q := ⟨s, q⟩
theorem i_Ne (s : scal x y = true) (q : Q (.bl (!decide (x = y))) H) : rNe x y H Q := ⟨s, q⟩
theorem i_Test (q : te σ H fun x H' => ∃ k, x = .bl k ∧ QT k H') : tTest te σ H QT := q
theorem i_B (q : te σ H fun x H' => ∃ k, x = .bl k ∧ QT k H') : tB te σ H QT := q
theorem i_bl {k : Bool} (q : QT k H) : ∃ c, V.bl k = V.bl c ∧ QT c H := ⟨k, rfl, q⟩
theorem i_And (q : tt σ H fun c H1 => if c = true then tu σ H1 QT else QT false H1) : tAnd tt tu σ H QT := q
theorem i_Or (q : tt σ H fun c H1 => if c = true then QT true H1 else tu σ H1 QT) : tOr tt tu σ H QT := q
theorem i_Not (q : tt σ H fun c H1 => QT (!c) H1) : tNot tt σ H QT := q
theorem i_Nil (q : QA [] H) : tNil σ H QA := q
theorem i_Cons {tr : TA} (q : ta σ H fun x H1 => tr σ H1 fun xs H2 => QA (x :: xs) H2) : tCons ta tr σ H QA := q
theorem i_Seq (q : t { D with nx := u D } σ H) : tSeq t u D σ H := q
theorem i_Asg {g : TG} (q : te σ H fun x H1 => g x σ H1 D.nx) : tAsg te g D σ H := q
theorem i_Name {i : Nat} {Qs : L2.St → Hp → Prop} (q : Qs (σ.set i (some v)) H) : gName i v σ H Qs := q
theorem i_Ret (q : te σ H D.rt) : tRet te D σ H := q
theorem i_IfS (q : tt σ H fun b H1 => if b = true then t D σ H1 else u D σ H1) : tIfS tt t u D σ H := q
theorem i_Drop (q : te σ H fun _ H1 => D.nx σ H1) : tDrop te D σ H := q
theorem i_Next (q : D.nx σ H) : tNext D σ H := q
theorem i_If (q : tt σ H fun c H1 => if c = true then ta σ H1 Q else tb σ H1 Q) : tIf tt ta tb σ H Q := q
theorem i_Call {sp : Sp} {dvs : List V} {E : XK} {tr : TA} (q : tr σ H fun vs H1 => sp (vs ++ dvs) H1 Q E) : tCall sp dvs E tr σ H Q := q
theorem i_CB {r : List V → Hp → VK → Prop} {tr : TA} (q : tr σ H fun vs H1 => r vs H1 Q) : tCB r tr σ H Q := q
theorem i_ite {b : Bool} {A B : Prop} (h1 : b = true → A) (h2 : b = false → B) : if b = true then A else B := by
  cases b
  · exact h2 rfl
  · exact h1 rfl
theorem i_iteD {c : Prop} [Decidable c] {A B : Prop} (h1 : c → A) (h2 : ¬ c → B) : if decide c = true then A else B := by
  by_cases h : c
  · rw [if_pos (decide_eq_true h)]; exact h1 h
  · rw [if_neg (fun z => h (of_decide_eq_true z))]; exact h2 h
theorem i_iteN {c : Prop} [Decidable c] {A B : Prop} (h1 : ¬ c → A) (h2 : c → B) : if (!decide c) = true then A else B := by
  by_cases h : c
  · rw [if_neg (by simp [h])]; exact h2 h
  · rw [if_pos (by simp [h])]; exact h1 h
theorem i_IxL {p : Addr} {xs : List V} {i : Int} (s : SqL K H p xs) (e : atI xs i = some v) (q : Q v H) : rIxL K (.ref p) (.int i) H Q := ⟨p, xs, i, v, rfl, rfl, s, e, q⟩
theorem i_IxT {p : Addr} {xs : List V} {i : Int} (s : SqT K H p xs) (e : atI xs i = some v) (q : Q v H) : rIxT K (.ref p) (.int i) H Q := ⟨p, xs, i, v, rfl, rfl, s, e, q⟩
theorem i_IxS {z : Str} {i : Int} {c : Nat} (s : z.length ≤ sizeLine) (e : atI z.cps.toList i = some c) (q : Q (.str ⟨#[c]⟩) H) : rIxS (.str z) (.int i) H Q := ⟨z, i, c, rfl, rfl, s, e, q⟩
theorem i_gTup {n : Nat} {tg : TGs} {Qs : L2.St → Hp → Prop} {a : Addr} {xs : List V} (s : SqT K H a xs) (e : xs.length = n) (q : tg xs σ H Qs) : gTup K n tg (.ref a) σ H Qs := ⟨a, xs, rfl, s, e, q⟩
theorem i_gNil {Qs : L2.St → Hp → Prop} (q : Qs σ H) : gNil [] σ H Qs := ⟨rfl, q⟩
theorem i_gCons {g : TG} {tg : TGs} {Qs : L2.St → Hp → Prop} {r : List V} (q : g v σ H fun σ' H' => tg r σ' H' Qs) : gCons g tg (v :: r) σ H Qs := ⟨v, r, rfl, q⟩
theorem i_Tup {tr : TA} (h : tr σ H fun xs H1 => xs.length ≤ sizeLine ∧ ∀ p, H1 p = none → Q (.ref p) (upd H1 p (.tup xs))) : tTup tr σ H Q := h
theorem i_Lst {tr : TA} (h : tr σ H fun xs H1 => xs.length ≤ sizeLine ∧ ∀ p, H1 p = none → Q (.ref p) (upd H1 p (.lst xs))) : tLst tr σ H Q := h
/-- a new tuple, a new list: the heap behind told by what is known of it -/
theorem i_NewT {M : List Addr} {H0 : Hp} {xs : List V} (s : Stp M H0 H) (l : xs.length ≤ sizeLine) (q : ∀ p H1, H p = none → H1 p = some (.tup xs) → Stp [] H H1 → Stp M H0 H1 → Q (.ref p) H1) :
    xs.length ≤ sizeLine ∧ ∀ p, H p = none → Q (.ref p) (upd H p (.tup xs)) := ⟨l, fun p n => q p _ n upd_same (.new n) (s.add n)⟩
theorem i_NewL {M : List Addr} {H0 : Hp} {xs : List V} (s : Stp M H0 H) (l : xs.length ≤ sizeLine) (q : ∀ p H1, H p = none → H1 p = some (.lst xs) → Stp [] H H1 → Stp M H0 H1 → Q (.ref p) H1) :
    xs.length ≤ sizeLine ∧ ∀ p, H p = none → Q (.ref p) (upd H p (.lst xs)) := ⟨l, fun p n => q p _ n upd_same (.new n) (s.add n)⟩
theorem i_Sl {r : V → Option Int → Option Int → Hp → VK → Prop} {tl th : TO} (q : te σ H fun x H1 => tl σ H1 fun l H2 => th σ H2 fun u H3 => r x l u H3 Q) : tSl r te tl th σ H Q := q
theorem i_NoPart {QO : Option Int → Hp → Prop} (q : QO none H) : tNoPart σ H QO := q
theorem i_Part {QO : Option Int → Hp → Prop} (q : te σ H fun x H1 => ∃ i, x = .int i ∧ QO (some i) H1) : tPart te σ H QO := q
theorem i_intV {k : Int} {A : Int → Prop} (q : A k) : ∃ c, V.int k = V.int c ∧ A c := ⟨k, rfl, q⟩
theorem i_SlS {z : Str} {lo hi : Option Int} (s : z.length ≤ sizeLine) (q : Q (.str (cutS z lo hi)) H) : rSlS (.str z) lo hi H Q := ⟨z, rfl, s, q⟩
theorem i_SlL {a : Addr} {xs : List V} {lo hi : Option Int} (s : SqL K H a xs) (q : ∀ p, H p = none → Q (.ref p) (upd H p (.lst (cutV xs lo hi)))) : rSlL K (.ref a) lo hi H Q := ⟨a, xs, rfl, s, q⟩
theorem i_Par {i j : Nat} {tr : TA} (q : tr σ H fun vs H1 => ∃ v w, vs = [v, w] ∧ D.nx ((σ.set i (some v)).set j (some w)) H1) : tPar i j tr D σ H := q
theorem i_Aug {i : Nat} {ti : TIp} (h : σ[i]? = some (some x)) (q : te σ H fun y H1 => ti x y H1 fun z H2 => D.nx (σ.set i (some z)) H2) : tAug i te ti D σ H := ⟨x, h, q⟩
theorem i_Chain {r r' : R2} (q : ta σ H fun x H1 => tb σ H1 fun y H2 => r x y H2 fun z H3 => ∃ k, z = .bl k ∧ (if k = true then tc σ H3 fun w' H4 => r' y w' H4 Q else Q (.bl false) H3)) : tChain r r' ta tb tc σ H Q := q
theorem i_AndV (q : ta σ H fun x H1 => ∃ c, x = .bl c ∧ if c = true then tb σ H1 Q else Q (.bl false) H1) : tAndV ta tb σ H Q := q
theorem i_OrV (q : ta σ H fun x H1 => ∃ c, x = .bl c ∧ if c = true then Q (.bl true) H1 else tb σ H1 Q) : tOrV ta tb σ H Q := q
theorem i_NotV (q : ta σ H fun x H1 => ∃ c, x = .bl c ∧ Q (.bl (!c)) H1) : tNotV ta σ H Q := q
theorem i_blV {k : Bool} {A : Bool → Prop} (q : A k) : ∃ c, V.bl k = V.bl c ∧ A c := ⟨k, rfl, q⟩
theorem qbl {a b : Bool} (q : Q (.bl a) H) (e : a = b) : Q (.bl b) H := by rw [← e]; exact q
theorem qv (q : Q x H) (e : x = y) : Q y H := by rw [← e]; exact q
theorem i_BM {T : String} {r : V → List V → Hp → VK → Prop} {tr : TA} (q : te σ H fun x H1 => tyV K T x H1 ∧ tr σ H1 fun xs H2 => r x xs H2 Q) : tBM K T r te tr σ H Q := q
theorem i_BM0 {T : String} {r : V → List V → Hp → VK → Prop} (q : te σ H fun x H1 => tyV K T x H1 ∧ r x [] H1 Q) : tBM0 K T r te σ H Q := q
end
end GT
namespace GT
open PySem PySem.Spec PyProof.Rows L2
/-! ### defs and their calls -/
/-- a def of the text stands behind the top under its name -/
def Df (K : PySem.W.Frag) (mg : Str → Option Value) (d : He.DefD) : Prop :=
  ∃ (f : Addr) (fd : FuncData), FunD K d.name d.qual d.params d.body d.scope [] [] f fd ∧ mg d.name = some (.ref f)
/-- the name x is a def that keeps sp and raises nothing -/
def Cal (P : Program) (w : World) (K : PySem.W.Frag) (mg : Str → Option Value) (base : Heap) (k : Nat) (x : Str) (ps : List Str) (sp : Sp) : Prop :=
  ∃ (f : Addr) (fd : FuncData), FnOk P w K mg base CX0 k f fd ps sp ∧ mg x = some (.ref f) ∧ PySem.W.keepIn K (.ref f) = true ∧ Binds K fd ps []
/-- the built-ins that are used are still the built-ins -/
structure Blt (mg : Str → Option Value) : Prop where
  len : mg "len" = none
  int : mg "int" = none
  range : mg "range" = none
  isinstance : mg "isinstance" = none
  sorted : mg "sorted" = none
  list : mg "list" = none
  tuple : mg "tuple" = none
  dict : mg "dict" = none
  str : mg "str" = none
  bool : mg "bool" = none
  max : mg "max" = none
  min : mg "min" = none
  all : mg "all" = none
  any : mg "any" = none
  sum : mg "sum" = none
  ord : mg "ord" = none
  enumerate : mg "enumerate" = none
section
variable {X : Cx} {e : Expr} {es : List Expr} {t : TA} {x : Str} {p pos : Pos} {ps : List Str} {sp : Sp} {k : Nat}
theorem pc_call (C : Cal X.prog X.w X.K X.mg X.base k x ps sp) (hr : Room k X.A) (hg : Gl X x) (ha : PA X (e :: es) t)
    (hdb : (x == ("__debug__" : Str)) = false := by decide) (he : starEach (e :: es) X.env = (false, eval e X.env) :: starEach es X.env := by rfl) (hpl : (backTo pos (starEach es X.env)).any (·.1) = false := by rfl) :
    PE X (.Call (.Name x p) (e :: es) [] pos) (tCall sp [] E0 t) := by
  obtain ⟨f, fd, F, hm, hk, hb⟩ := C
  exact pe_call F hr hg hm hk hb .nil pass0 ha hdb he hpl
end
end GT
namespace GT
open PySem PySem.Spec PyProof.Rows L2
section
variable {X : Cx} {x : Str} {pos : Pos}
theorem pe_gi {i : Int} (hg : Gl X x) (hm : ∃ t, X.mg x = some (.int i t)) (hd : (x == ("__debug__" : Str)) = false := by decide) : PE X (.Name x pos) (tC (.int i)) := by
  obtain ⟨t, hm⟩ := hm
  exact pe_glob hg hm ⟨t, rfl⟩ hd
theorem pe_gs {z : Str} (hg : Gl X x) (hm : ∃ t, X.mg x = some (.str z t)) (hd : (x == ("__debug__" : Str)) = false := by decide) : PE X (.Name x pos) (tC (.str z)) := by
  obtain ⟨t, hm⟩ := hm
  exact pe_glob hg hm ⟨t, rfl⟩ hd
theorem pe_gt {a : Addr} (hg : Gl X x) (hm : X.mg x = some (.ref a)) (hd : (x == ("__debug__" : Str)) = false := by decide) : PE X (.Name x pos) (tC (.ref a)) := pe_glob hg hm rfl hd
end
end GT
namespace GT
open PySem PySem.Spec PyProof.Rows L2
/-! ### parts that only reckon: their value at once -/
def Vl (te : TE) (σ : L2.St) (H : Hp) (v : V) : Prop := ∀ Q : VK, Q v H → te σ H Q
def Tl (tt : TT) (σ : L2.St) (H : Hp) (b : Bool) : Prop := ∀ Q : Bool → Hp → Prop, Q b H → tt σ H Q
section
variable {σ : L2.St} {H : Hp} {Q : VK} {QT : Bool → Hp → Prop} {v x y : V} {te ta tb tc : TE} {tt tu : TT} {a b : Bool} {i j k : Int}
theorem vl_var {n : Nat} (h : σ[n]? = some (some v)) : Vl (tVar n) σ H v := fun _ q => ⟨v, h, q⟩
theorem vl_c : Vl (tC v) σ H v := fun _ q => q
theorem vl_I0 {g : Int → Int → V} (ha : Vl ta σ H (.int i)) (hb : Vl tb σ H (.int j)) : Vl (tOp (rI0 g) ta tb) σ H (g i j) := fun _ q => ha _ (hb _ ⟨i, j, rfl, rfl, q⟩)
theorem vl_I {C : Int → Int → Prop} {g : Int → Int → V} (ha : Vl ta σ H (.int i)) (hb : Vl tb σ H (.int j)) (c : C i j) : Vl (tOp (rI C g) ta tb) σ H (g i j) := fun _ q => ha _ (hb _ ⟨i, j, rfl, rfl, c, q⟩)
theorem vl_U {g : Int → V} (ha : Vl ta σ H (.int i)) : Vl (tUn (rU g) ta) σ H (g i) := fun _ q => ha _ ⟨i, rfl, q⟩
theorem vl_eq (ha : Vl ta σ H x) (hb : Vl tb σ H y) (s : scal x y = true) : Vl (tOp rEq ta tb) σ H (.bl (decide (x = y))) := fun _ q => ha _ (hb _ ⟨s, q⟩)
theorem vl_ne (ha : Vl ta σ H x) (hb : Vl tb σ H y) (s : scal x y = true) : Vl (tOp rNe ta tb) σ H (.bl (!decide (x = y))) := fun _ q => ha _ (hb _ ⟨s, q⟩)
theorem vl_and (ha : Vl ta σ H (.bl a)) (hb : Vl tb σ H (.bl b)) : Vl (tAndV ta tb) σ H (.bl (a && b)) := fun _ q => ha _ ⟨a, rfl, by
  cases a
  · exact q
  · exact hb _ q⟩
theorem vl_or (ha : Vl ta σ H (.bl a)) (hb : Vl tb σ H (.bl b)) : Vl (tOrV ta tb) σ H (.bl (a || b)) := fun _ q => ha _ ⟨a, rfl, by
  cases a
  · exact hb _ q
  · exact q⟩
theorem vl_not (ha : Vl ta σ H (.bl a)) : Vl (tNotV ta) σ H (.bl (!a)) := fun _ q => ha _ ⟨a, rfl, q⟩
theorem vl_chain {p p' : Int → Int → Bool} (ha : Vl ta σ H (.int i)) (hb : Vl tb σ H (.int j)) (hc : Vl tc σ H (.int k)) :
    Vl (tChain (rI0 fun i j => .bl (p i j)) (rI0 fun i j => .bl (p' i j)) ta tb tc) σ H (.bl (p i j && p' j k)) := fun Q q => ha _ (hb _ ⟨i, j, rfl, rfl, _, rfl, by
  show if p i j = true then _ else _
  cases e : p i j
  · rw [e] at q; exact q
  · rw [e] at q; exact hc _ ⟨j, k, rfl, rfl, q⟩⟩)
theorem vl_ifx (ht : Tl tt σ H a) (ha : Vl ta σ H x) (hb : Vl tb σ H y) : Vl (tIf tt ta tb) σ H (if a = true then x else y) := fun Q q => ht _ (by
  cases a
  · exact hb _ q
  · exact ha _ q)
theorem tl_test (h : Vl te σ H (.bl b)) : Tl (tTest te) σ H b := fun _ q => h _ ⟨b, rfl, q⟩
theorem tl_B (h : Vl te σ H (.bl b)) : Tl (tB te) σ H b := fun _ q => h _ ⟨b, rfl, q⟩
theorem tl_and (h1 : Tl tt σ H a) (h2 : Tl tu σ H b) : Tl (tAnd tt tu) σ H (a && b) := fun _ q => h1 _ (by
  cases a
  · exact q
  · exact h2 _ q)
theorem tl_or (h1 : Tl tt σ H a) (h2 : Tl tu σ H b) : Tl (tOr tt tu) σ H (a || b) := fun _ q => h1 _ (by
  cases a
  · exact h2 _ q
  · exact q)
theorem tl_not (h1 : Tl tt σ H a) : Tl (tNot tt) σ H (!a) := fun _ q => h1 _ q
/-- a reading whose parts only reckon -/
theorem p_AndV (h : Vl (tAndV ta tb) σ H v) (q : Q v H) : tAndV ta tb σ H Q := h Q q
theorem p_OrV (h : Vl (tOrV ta tb) σ H v) (q : Q v H) : tOrV ta tb σ H Q := h Q q
theorem p_Chain {r r' : R2} (h : Vl (tChain r r' ta tb tc) σ H v) (q : Q v H) : tChain r r' ta tb tc σ H Q := h Q q
theorem p_If (h : Vl (tIf tt ta tb) σ H v) (q : Q v H) : tIf tt ta tb σ H Q := h Q q
theorem p_And (h : Tl (tAnd tt tu) σ H b) (q : QT b H) : tAnd tt tu σ H QT := h QT q
theorem p_Or (h : Tl (tOr tt tu) σ H b) (q : QT b H) : tOr tt tu σ H QT := h QT q
/-- behind a first part that does more -/
theorem j_and {c : Bool} {A : Prop} (h : Vl tb σ H (.bl b)) (e : Q (.bl false) H → A) (q : Q (.bl (c && b)) H) : if c = true then tb σ H Q else A := by
  cases c
  · exact e q
  · exact h _ q
theorem j_or {c : Bool} {A : Prop} (h : Vl tb σ H (.bl b)) (e : Q (.bl true) H → A) (q : Q (.bl (c || b)) H) : if c = true then A else tb σ H Q := by
  cases c
  · exact h _ q
  · exact e q
end
end GT

/-! ## data: None, bools, whole numbers, texts, tuples and lists of such; how they stand in a heap; == of them -/
namespace GT
open PySem PySem.Spec PyProof.Rows L2
inductive Dt where
  | non
  | bl (b : Bool)
  | num (i : Int)
  | txt (x : Str)
  | tup (ds : List Dt)
  | lst (ds : List Dt)
namespace Dt
mutual
/-- == of Python -/
def beq : Dt → Dt → Bool
  | .non, .non => true
  | .bl a, .bl b => a == b
  | .bl a, .num j => (if a then 1 else 0) == j
  | .num i, .bl b => i == (if b then 1 else 0)
  | .num a, .num b => decide (a = b)
  | .txt a, .txt b => decide (a = b)
  | .tup a, .tup b => beqAll a b
  | .lst a, .lst b => beqAll a b
  | .non, .bl _ | .non, .num _ | .non, .txt _ | .non, .tup _ | .non, .lst _ => false
  | .bl _, .non | .bl _, .txt _ | .bl _, .tup _ | .bl _, .lst _ => false
  | .num _, .non | .num _, .txt _ | .num _, .tup _ | .num _, .lst _ => false
  | .txt _, .non | .txt _, .bl _ | .txt _, .num _ | .txt _, .tup _ | .txt _, .lst _ => false
  | .tup _, .non | .tup _, .bl _ | .tup _, .num _ | .tup _, .txt _ | .tup _, .lst _ => false
  | .lst _, .non | .lst _, .bl _ | .lst _, .num _ | .lst _, .txt _ | .lst _, .tup _ => false
def beqAll : List Dt → List Dt → Bool
  | [], [] => true
  | a :: as, b :: bs => beq a b && beqAll as bs
  | [], _ :: _ => false
  | _ :: _, [] => false
end
mutual
theorem beq_self : ∀ a : Dt, beq a a = true
  | .non => rfl
  | .bl a => by simp [beq]
  | .num a => by simp [beq]
  | .txt a => by simp [beq]
  | .tup a => by rw [beq]; exact beqAll_self a
  | .lst a => by rw [beq]; exact beqAll_self a
theorem beqAll_self : ∀ a : List Dt, beqAll a a = true
  | [] => rfl
  | a :: as => by rw [beqAll, beq_self a, beqAll_self as]; rfl
end
mutual
def depth : Dt → Nat
  | .non => 0
  | .bl _ => 0
  | .num _ => 0
  | .txt _ => 0
  | .tup ks => depthAll ks + 1
  | .lst ks => depthAll ks + 1
def depthAll : List Dt → Nat
  | [] => 0
  | k :: ks => max (depth k) (depthAll ks)
end
mutual
/-- no list and no bool within -/
def flat : Dt → Bool
  | .non => true
  | .bl _ => false
  | .num _ => true
  | .txt _ => true
  | .tup ks => flatAll ks
  | .lst _ => false
def flatAll : List Dt → Bool
  | [] => true
  | k :: ks => flat k && flatAll ks
end
mutual
/-- as a key of a dict -/
def key : Dt → NestedKey
  | .non => .none
  | .bl b => .num (if b then 1 else 0)
  | .num i => .num i
  | .txt x => .text x
  | .tup ks => .tup (keys ks)
  | .lst _ => .none
def keys : List Dt → List NestedKey
  | [] => []
  | k :: ks => key k :: keys ks
end
mutual
/-- without bools: == is equality -/
def pure : Dt → Bool
  | .bl _ => false
  | .tup ks => pureAll ks
  | .lst ks => pureAll ks
  | _ => true
def pureAll : List Dt → Bool
  | [] => true
  | k :: ks => pure k && pureAll ks
end
mutual
theorem eq_of_beq : ∀ a b : Dt, pure a = true → pure b = true → beq a b = true → a = b
  | .non, .non, _, _, _ => rfl
  | .num a, .num b, _, _, h => by simp only [beq, decide_eq_true_eq] at h; rw [h]
  | .txt a, .txt b, _, _, h => by simp only [beq, decide_eq_true_eq] at h; rw [h]
  | .tup a, .tup b, pa, pb, h => by rw [beq] at h; rw [pure] at pa pb; rw [eq_of_beqAll a b pa pb h]
  | .lst a, .lst b, pa, pb, h => by rw [beq] at h; rw [pure] at pa pb; rw [eq_of_beqAll a b pa pb h]
  | .bl _, _, p, _, _ => by simp [pure] at p
  | _, .bl _, _, p, _ => by simp [pure] at p
  | .non, .num _, _, _, h | .non, .txt _, _, _, h | .non, .tup _, _, _, h | .non, .lst _, _, _, h => by simp [beq] at h
  | .num _, .non, _, _, h | .num _, .txt _, _, _, h | .num _, .tup _, _, _, h | .num _, .lst _, _, _, h => by simp [beq] at h
  | .txt _, .non, _, _, h | .txt _, .num _, _, _, h | .txt _, .tup _, _, _, h | .txt _, .lst _, _, _, h => by simp [beq] at h
  | .tup _, .non, _, _, h | .tup _, .num _, _, _, h | .tup _, .txt _, _, _, h | .tup _, .lst _, _, _, h => by simp [beq] at h
  | .lst _, .non, _, _, h | .lst _, .num _, _, _, h | .lst _, .txt _, _, _, h | .lst _, .tup _, _, _, h => by simp [beq] at h
theorem eq_of_beqAll : ∀ a b : List Dt, pureAll a = true → pureAll b = true → beqAll a b = true → a = b
  | [], [], _, _, _ => rfl
  | a :: as, b :: bs, pa, pb, h => by
    rw [beqAll, Bool.and_eq_true] at h
    rw [pureAll, Bool.and_eq_true] at pa pb
    rw [eq_of_beq a b pa.1 pb.1 h.1, eq_of_beqAll as bs pa.2 pb.2 h.2]
  | [], _ :: _, _, _, h => by simp [beqAll] at h
  | _ :: _, [], _, _, h => by simp [beqAll] at h
end
theorem beq_iff {a b : Dt} (pa : pure a = true) (pb : pure b = true) : beq a b = true ↔ a = b := ⟨eq_of_beq a b pa pb, fun e => by rw [e]; exact beq_self b⟩
end Dt
abbrev Dt.eqAt2 (xs ys : List Dt) (j : Nat) : Bool := Dt.beq (xs.getD j .non) (ys.getD j .non)
theorem Dt.beqAll_eq : ∀ xs ys : List Dt, ((List.range (min xs.length ys.length)).all (Dt.eqAt2 xs ys) && xs.length == ys.length) = Dt.beqAll xs ys
  | [], [] => rfl
  | [], _ :: _ => by simp [Dt.beqAll]
  | _ :: _, [] => by simp [Dt.beqAll]
  | x :: xs, y :: ys => by
    have ih := Dt.beqAll_eq xs ys
    have e1 : min (x :: xs).length (y :: ys).length = min xs.length ys.length + 1 := by simp only [List.length_cons]; omega
    have e2 : ((x :: xs).length == (y :: ys).length) = (xs.length == ys.length) := by simp
    have e3 : (List.range (min xs.length ys.length + 1)).all (Dt.eqAt2 (x :: xs) (y :: ys)) = (Dt.beq x y && (List.range (min xs.length ys.length)).all (Dt.eqAt2 xs ys)) := by
      rw [List.range_succ_eq_map, List.all_cons, List.all_map]
      first | rfl | simp [Dt.eqAt2, Function.comp_def]
    rw [e1, e2, e3, Dt.beqAll, ← ih, Bool.and_assoc]
theorem Dt.beqAll_other : ∀ xs ys : List Dt, xs.length ≠ ys.length → Dt.beqAll xs ys = false := fun xs ys h => by
  rw [← Dt.beqAll_eq, show (xs.length == ys.length) = false from beq_eq_false_iff_ne.mpr h, Bool.and_false]
theorem Dt.beqAll_same (xs ys : List Dt) (h : xs.length = ys.length) : (List.range xs.length).all (Dt.eqAt2 xs ys) = Dt.beqAll xs ys := by
  rw [← Dt.beqAll_eq, ← h, Nat.min_self]
  simp
/-! ### in a heap of the model -/
mutual
inductive DtIs (h : Heap) : Dt → Value → Prop
  | non : DtIs h .non .none
  | bl (b) : DtIs h (.bl b) (.bool b)
  | num (i t) : DtIs h (.num i) (.int i t)
  | txt (x t) : DtIs h (.txt x) (.str x t)
  | tup {a vs ks} : h.IsTuple a vs → DtAll h ks vs.toList → DtIs h (.tup ks) (.ref a)
  | lst {a vs ks} : h.IsList a vs → DtAll h ks vs.toList → DtIs h (.lst ks) (.ref a)
inductive DtAll (h : Heap) : List Dt → List Value → Prop
  | nil : DtAll h [] []
  | cons {k v ks vs} : DtIs h k v → DtAll h ks vs → DtAll h (k :: ks) (v :: vs)
end
theorem DtAll.length {h : Heap} : ∀ (ks : List Dt) (vs : List Value), DtAll h ks vs → vs.length = ks.length
  | [], _, r => by cases r; rfl
  | _ :: ks, _, r => by
    cases r with
    | cons _ r' => simp [DtAll.length ks _ r']
theorem ne_list_tuple {h : Heap} {a : Addr} {vs ws : Array Value} (h1 : h.IsList a vs) (h2 : h.IsTuple a ws) : False := by
  obtain ⟨o, e, c, _⟩ := h1
  obtain ⟨o', e', c', _⟩ := h2
  rw [e] at e'; cases e'
  rw [c] at c'
  injection c' with c'
  exact absurd c' (by decide)
mutual
theorem DtIs.inj {h : Heap} : ∀ (x y : Dt) (v : Value), DtIs h x v → DtIs h y v → x = y
  | .non, _, _, hx, hy => by cases hx; cases hy; rfl
  | .bl _, _, _, hx, hy => by cases hx; cases hy; rfl
  | .num i, _, _, hx, hy => by cases hx; cases hy; rfl
  | .txt x, _, _, hx, hy => by cases hx; cases hy; rfl
  | .tup ks, _, _, hx, hy => by
    cases hx with
    | tup h1 h4 =>
      cases hy with
      | tup k1 k4 =>
        obtain ⟨o, e, c, n, d⟩ := h1
        obtain ⟨o', e', c', n', d'⟩ := k1
        rw [e] at e'; cases e'
        rw [d] at d'; cases d'
        rw [DtAll.inj ks _ _ h4 k4]
      | lst k1 k4 => exact (ne_list_tuple k1 h1).elim
  | .lst ks, _, _, hx, hy => by
    cases hx with
    | lst h1 h4 =>
      cases hy with
      | lst k1 k4 =>
        obtain ⟨o, e, c, n, d⟩ := h1
        obtain ⟨o', e', c', n', d'⟩ := k1
        rw [e] at e'; cases e'
        rw [d] at d'; cases d'
        rw [DtAll.inj ks _ _ h4 k4]
      | tup k1 k4 => exact (ne_list_tuple h1 k1).elim
theorem DtAll.inj {h : Heap} : ∀ (xs ys : List Dt) (vs : List Value), DtAll h xs vs → DtAll h ys vs → xs = ys
  | [], _, _, hx, hy => by cases hx; cases hy; rfl
  | x :: xs, _, _, hx, hy => by
    cases hx with
    | cons h1 h2 =>
      cases hy with
      | cons k1 k2 => rw [DtIs.inj x _ _ h1 k1, DtAll.inj xs _ _ h2 k2]
end
section
open SeqAt
theorem dt_here {n a b : Nat} (h : n + min (a + 1) (b + 1) < cLine) : n < cLine := by omega
theorem dt_in {A : Around} {a b : Nat} (h : A.units + min (a + 1) (b + 1) < cLine) : A.in1.units + min a b < cLine := by rw [Around.in1_units]; omega
mutual
theorem eqAt_dt : ∀ (x y : Dt) (A : Around) (s : Shared) (a b : Value), DtIs s.heap x a → DtIs s.heap y b → A.units + 1 + min x.depth y.depth < cLine → EqAt A s a b (Dt.beq x y)
  | .non, _, A, s, _, _, ra, rb, hu => by
    cases ra
    cases rb with
    | non => exact EqAt.same _
    | bl y => exact EqAt.none_bool _
    | num y u => exact EqAt.none_int y u
    | txt y u => exact EqAt.none_str y u
    | tup k1 k4 => exact EqAt.none_tuple k1 (by omega)
    | lst k1 k4 => exact EqAt.none_list k1 (by omega)
  | .bl x, _, A, s, _, _, ra, rb, hu => by
    cases ra
    cases rb with
    | non => exact EqAt.bool_none x
    | bl y => exact (EqAt.bool_bool x y).cast rfl
    | num y u => exact (EqAt.bool_int x y u).cast rfl
    | txt y u => exact EqAt.bool_str x y u
    | tup k1 k4 => exact EqAt.bool_tuple x k1 (by omega)
    | lst k1 k4 => exact EqAt.bool_list x k1 (by omega)
  | .num i, _, A, s, _, _, ra, rb, hu => by
    cases ra with
    | num _ t =>
      cases rb with
      | non => exact EqAt.int_none i t
      | bl y => exact (EqAt.int_bool i t y).cast rfl
      | num y u => exact (EqAt.int_int i t y u).cast rfl
      | txt y u => exact EqAt.int_str i t y u
      | tup k1 k4 => exact EqAt.int_tuple i t k1 (by omega)
      | lst k1 k4 => exact EqAt.int_list i t k1 (by omega)
  | .txt x, _, A, s, _, _, ra, rb, hu => by
    cases ra with
    | txt _ t =>
      cases rb with
      | non => exact EqAt.str_none x t
      | bl y => exact EqAt.str_bool x t y
      | num y u => exact EqAt.str_int x t y u
      | txt y u => exact (EqAt.str_str x t y u).cast rfl
      | tup k1 k4 => exact EqAt.str_tuple x t k1 (by omega)
      | lst k1 k4 => exact EqAt.str_list x t k1 (by omega)
  | .tup xs, _, A, s, _, _, ra, rb, hu => by
    cases ra with
    | @tup l vs _ hl h4 =>
      cases rb with
      | non => exact EqAt.tuple_none hl (by omega)
      | bl y => exact EqAt.tuple_bool y hl (by omega)
      | num y u => exact EqAt.tuple_int y u hl (by omega)
      | txt y u => exact EqAt.tuple_str y u hl (by omega)
      | lst k1 k4 => exact EqAt.tuple_list hl k1 (by omega)
      | @tup l' vs' ys hl' k4 =>
        by_cases hll : l = l'
        · subst hll
          obtain ⟨o, e, c, n, d⟩ := hl
          obtain ⟨o', e', c', n', d'⟩ := hl'
          rw [e] at e'; cases e'
          rw [d] at d'; cases d'
          rw [← DtAll.inj xs ys _ h4 k4, Dt.beq, Dt.beqAll_self]
          exact EqAt.same _
        · have n1 : vs.size = xs.length := by simpa using DtAll.length _ _ h4
          have n2 : vs'.size = ys.length := by simpa using DtAll.length _ _ k4
          show EqAt A s (.ref l) (.ref l') (Dt.beqAll xs ys)
          rw [← Dt.beqAll_eq xs ys, ← n1, ← n2]
          refine EqAt.of_refs hll (RcAt.tuples hl hl' (by omega) fun j j1 j2 => ?_)
          have := eqAt_dts xs ys A.in1 s vs.toList vs'.toList h4 k4 (by simp only [Dt.depth] at hu; rw [Around.in1_units]; omega) j (by simpa using j1) (by simpa using j2)
          simpa using this
  | .lst xs, _, A, s, _, _, ra, rb, hu => by
    cases ra with
    | @lst l vs _ hl h4 =>
      cases rb with
      | non => exact EqAt.list_none hl (by omega)
      | bl y => exact EqAt.list_bool y hl (by omega)
      | num y u => exact EqAt.list_int y u hl (by omega)
      | txt y u => exact EqAt.list_str y u hl (by omega)
      | tup k1 k4 => exact EqAt.list_tuple hl k1 (by omega)
      | @lst l' vs' ys hl' k4 =>
        by_cases hll : l = l'
        · subst hll
          obtain ⟨o, e, c, n, d⟩ := hl
          obtain ⟨o', e', c', n', d'⟩ := hl'
          rw [e] at e'; cases e'
          rw [d] at d'; cases d'
          rw [← DtAll.inj xs ys _ h4 k4, Dt.beq, Dt.beqAll_self]
          exact EqAt.same _
        · have n1 : vs.size = xs.length := by simpa using DtAll.length _ _ h4
          have n2 : vs'.size = ys.length := by simpa using DtAll.length _ _ k4
          show EqAt A s (.ref l) (.ref l') (Dt.beqAll xs ys)
          by_cases hsz : vs.size = vs'.size
          · rw [← Dt.beqAll_same xs ys (by omega), ← n1]
            refine EqAt.of_refs hll (RcAt.lists hl hl' hsz (by omega) fun j j1 j2 => ?_)
            have := eqAt_dts xs ys A.in1 s vs.toList vs'.toList h4 k4 (by simp only [Dt.depth] at hu; rw [Around.in1_units]; omega) j (by simpa using j1) (by simpa using j2)
            simpa using this
          · rw [Dt.beqAll_other xs ys (by omega)]
            exact EqAt.of_refs hll (RcAt.lists_lengths hl hl' (by simpa using hsz) (by omega))
theorem eqAt_dts : ∀ (xs ys : List Dt) (A : Around) (s : Shared) (vs ws : List Value), DtAll s.heap xs vs → DtAll s.heap ys ws →
    A.units + 1 + min (Dt.depthAll xs) (Dt.depthAll ys) < cLine → ∀ j (h1 : j < vs.length) (h2 : j < ws.length), EqAt A s vs[j] ws[j] (Dt.eqAt2 xs ys j)
  | [], _, _, _, _, _, ra, _, _, j, h1, _ => by cases ra; exact absurd h1 (Nat.not_lt_zero _)
  | _ :: _, [], _, _, _, _, _, rb, _, j, _, h2 => by cases rb; exact absurd h2 (Nat.not_lt_zero _)
  | x :: xs, y :: ys, A, s, _, _, ra, rb, hu, j, h1, h2 => by
    cases ra with
    | cons r rs =>
      cases rb with
      | cons r' rs' =>
        simp only [Dt.depthAll] at hu
        cases j with
        | zero => exact eqAt_dt x y A s _ _ r r' (by omega)
        | succ j => exact eqAt_dts xs ys A s _ _ rs rs' (by omega) j (Nat.lt_of_succ_lt_succ h1) (Nat.lt_of_succ_lt_succ h2)
end
end
end GT

namespace GT
open PySem PySem.Spec PyProof.Rows L2
section
open SeqAt
theorem rcAt_dt {x y : Dt} {A : Around} {s : Shared} {a b : Value} (ra : DtIs s.heap x a) (rb : DtIs s.heap y b) (hu : A.units + 1 + min x.depth y.depth < cLine) : RcAt A s a b (Dt.beq x y) := by
  cases ra with
  | non =>
    cases rb with
    | non => exact RcAt.none_none
    | bl y => exact RcAt.none_bool y
    | num y u => exact RcAt.none_int y u
    | txt y u => exact RcAt.none_str y u
    | tup k1 k4 => exact RcAt.none_tuple k1 (by omega)
    | lst k1 k4 => exact RcAt.none_list k1 (by omega)
  | bl x =>
    cases rb with
    | non => exact RcAt.bool_none x
    | bl y => exact RcAt.bool_bool x y
    | num y u => exact RcAt.bool_int x y u
    | txt y u => exact RcAt.bool_str x y u
    | tup k1 k4 => exact RcAt.bool_tuple x k1 (by omega)
    | lst k1 k4 => exact RcAt.bool_list x k1 (by omega)
  | num x t =>
    cases rb with
    | non => exact RcAt.int_none x t
    | bl y => exact RcAt.int_bool x t y
    | num y u => exact RcAt.int_int x t y u
    | txt y u => exact RcAt.int_str x t y u
    | tup k1 k4 => exact RcAt.int_tuple x t k1 (by omega)
    | lst k1 k4 => exact RcAt.int_list x t k1 (by omega)
  | txt x t =>
    cases rb with
    | non => exact RcAt.str_none x t
    | bl y => exact RcAt.str_bool x t y
    | num y u => exact RcAt.str_int x t y u
    | txt y u => exact RcAt.str_str x t y u
    | tup k1 k4 => exact RcAt.str_tuple x t k1 (by omega)
    | lst k1 k4 => exact RcAt.str_list x t k1 (by omega)
  | @tup l vs xs hl h4 =>
    cases rb with
    | non => exact RcAt.tuple_none hl (by omega)
    | bl y => exact RcAt.tuple_bool y hl (by omega)
    | num y u => exact RcAt.tuple_int y u hl (by omega)
    | txt y u => exact RcAt.tuple_str y u hl (by omega)
    | lst k1 k4 => exact RcAt.tuple_list hl k1 (by omega)
    | @tup l' vs' ys hl' k4 =>
      have n1 : vs.size = xs.length := by simpa using DtAll.length _ _ h4
      have n2 : vs'.size = ys.length := by simpa using DtAll.length _ _ k4
      show RcAt A s (.ref l) (.ref l') (Dt.beqAll xs ys)
      rw [← Dt.beqAll_eq xs ys, ← n1, ← n2]
      refine RcAt.tuples hl hl' (by omega) fun j j1 j2 => ?_
      have := eqAt_dts xs ys A.in1 s vs.toList vs'.toList h4 k4 (by simp only [Dt.depth] at hu; rw [Around.in1_units]; omega) j (by simpa using j1) (by simpa using j2)
      simpa using this
  | @lst l vs xs hl h4 =>
    cases rb with
    | non => exact RcAt.list_none hl (by omega)
    | bl y => exact RcAt.list_bool y hl (by omega)
    | num y u => exact RcAt.list_int y u hl (by omega)
    | txt y u => exact RcAt.list_str y u hl (by omega)
    | tup k1 k4 => exact RcAt.list_tuple hl k1 (by omega)
    | @lst l' vs' ys hl' k4 =>
      have n1 : vs.size = xs.length := by simpa using DtAll.length _ _ h4
      have n2 : vs'.size = ys.length := by simpa using DtAll.length _ _ k4
      show RcAt A s (.ref l) (.ref l') (Dt.beqAll xs ys)
      by_cases hsz : vs.size = vs'.size
      · rw [← Dt.beqAll_same xs ys (by omega), ← n1]
        refine RcAt.lists hl hl' hsz (by omega) fun j j1 j2 => ?_
        have := eqAt_dts xs ys A.in1 s vs.toList vs'.toList h4 k4 (by simp only [Dt.depth] at hu; rw [Around.in1_units]; omega) j (by simpa using j1) (by simpa using j2)
        simpa using this
      · rw [Dt.beqAll_other xs ys (by omega)]
        exact RcAt.lists_lengths hl hl' (by simpa using hsz) (by omega)
theorem rcNeAt_dt {x y : Dt} {A : Around} {s : Shared} {a b : Value} (ra : DtIs s.heap x a) (rb : DtIs s.heap y b) (hu : A.units + 1 + min x.depth y.depth < cLine) : RcNeAt A s a b (!Dt.beq x y) := by
  cases ra with
  | non =>
    cases rb with
    | non => exact RcNeAt.none_none
    | bl y => exact RcNeAt.none_bool y
    | num y u => exact RcNeAt.none_int y u
    | txt y u => exact RcNeAt.none_str y u
    | tup k1 k4 => exact RcNeAt.none_tuple k1 (by omega)
    | lst k1 k4 => exact RcNeAt.none_list k1 (by omega)
  | bl x =>
    cases rb with
    | non => exact RcNeAt.bool_none x
    | bl y => exact RcNeAt.bool_bool x y
    | num y u => exact RcNeAt.bool_int x y u
    | txt y u => exact RcNeAt.bool_str x y u
    | tup k1 k4 => exact RcNeAt.bool_tuple x k1 (by omega)
    | lst k1 k4 => exact RcNeAt.bool_list x k1 (by omega)
  | num x t =>
    cases rb with
    | non => exact RcNeAt.int_none x t
    | bl y => exact RcNeAt.int_bool x t y
    | num y u => exact RcNeAt.int_int x t y u
    | txt y u => exact RcNeAt.int_str x t y u
    | tup k1 k4 => exact RcNeAt.int_tuple x t k1 (by omega)
    | lst k1 k4 => exact RcNeAt.int_list x t k1 (by omega)
  | txt x t =>
    cases rb with
    | non => exact RcNeAt.str_none x t
    | bl y => exact RcNeAt.str_bool x t y
    | num y u => exact RcNeAt.str_int x t y u
    | txt y u => exact RcNeAt.str_str x t y u
    | tup k1 k4 => exact RcNeAt.str_tuple x t k1 (by omega)
    | lst k1 k4 => exact RcNeAt.str_list x t k1 (by omega)
  | @tup l vs xs hl h4 =>
    cases rb with
    | non => exact RcNeAt.tuple_none hl (by omega)
    | bl y => exact RcNeAt.tuple_bool y hl (by omega)
    | num y u => exact RcNeAt.tuple_int y u hl (by omega)
    | txt y u => exact RcNeAt.tuple_str y u hl (by omega)
    | lst k1 k4 => exact RcNeAt.tuple_list hl k1 (by omega)
    | @tup l' vs' ys hl' k4 =>
      have n1 : vs.size = xs.length := by simpa using DtAll.length _ _ h4
      have n2 : vs'.size = ys.length := by simpa using DtAll.length _ _ k4
      show RcNeAt A s (.ref l) (.ref l') (!Dt.beqAll xs ys)
      rw [← Dt.beqAll_eq xs ys, ← n1, ← n2]
      refine RcNeAt.tuples hl hl' (by omega) fun j j1 j2 => ?_
      have := eqAt_dts xs ys A.in1 s vs.toList vs'.toList h4 k4 (by simp only [Dt.depth] at hu; rw [Around.in1_units]; omega) j (by simpa using j1) (by simpa using j2)
      simpa using this
  | @lst l vs xs hl h4 =>
    cases rb with
    | non => exact RcNeAt.list_none hl (by omega)
    | bl y => exact RcNeAt.list_bool y hl (by omega)
    | num y u => exact RcNeAt.list_int y u hl (by omega)
    | txt y u => exact RcNeAt.list_str y u hl (by omega)
    | tup k1 k4 => exact RcNeAt.list_tuple hl k1 (by omega)
    | @lst l' vs' ys hl' k4 =>
      have n1 : vs.size = xs.length := by simpa using DtAll.length _ _ h4
      have n2 : vs'.size = ys.length := by simpa using DtAll.length _ _ k4
      show RcNeAt A s (.ref l) (.ref l') (!Dt.beqAll xs ys)
      by_cases hsz : vs.size = vs'.size
      · rw [← Dt.beqAll_same xs ys (by omega), ← n1]
        refine RcNeAt.lists hl hl' hsz (by omega) fun j j1 j2 => ?_
        have := eqAt_dts xs ys A.in1 s vs.toList vs'.toList h4 k4 (by simp only [Dt.depth] at hu; rw [Around.in1_units]; omega) j (by simpa using j1) (by simpa using j2)
        simpa using this
      · rw [Dt.beqAll_other xs ys (by omega)]
        exact RcNeAt.lists_lengths hl hl' (by simpa using hsz) (by omega)
end
/-! ### in the abstract heap -/
/-- a tuple that never changes: tracked, or of the written part -/
def TupAt (K : PySem.W.Frag) (H : Hp) (a : Addr) (xs : List V) : Prop :=
  H a = some (.tup xs) ∨ ∃ (o : Obj) (its : Array Value) (n : Nat), K.lookup a = some o ∧ o.cls = .type "tuple" ∧ o.data = .seq its n ∧ its.size ≤ sizeLine ∧ Vals xs its.toList
mutual
inductive DtAt (K : PySem.W.Frag) (H : Hp) : V → Dt → Prop
  | non : DtAt K H .non .non
  | bl (b : Bool) : DtAt K H (.bl b) (.bl b)
  | num (i : Int) : DtAt K H (.int i) (.num i)
  | txt (x : Str) : DtAt K H (.str x) (.txt x)
  | tup {a : Addr} {xs : List V} {ds : List Dt} : TupAt K H a xs → DtsAt K H xs ds → DtAt K H (.ref a) (.tup ds)
  | lst {a : Addr} {xs : List V} {ds : List Dt} : SqL K H a xs → DtsAt K H xs ds → DtAt K H (.ref a) (.lst ds)
inductive DtsAt (K : PySem.W.Frag) (H : Hp) : List V → List Dt → Prop
  | nil : DtsAt K H [] []
  | cons {v : V} {vs : List V} {d : Dt} {ds : List Dt} : DtAt K H v d → DtsAt K H vs ds → DtsAt K H (v :: vs) (d :: ds)
end
section
variable {K : PySem.W.Frag} {H H1 : Hp} {M : List Addr}
theorem TupAt.stp {a : Addr} {xs : List V} (h : TupAt K H a xs) (s : Stp M H H1) : TupAt K H1 a xs := by
  rcases h with h | h
  · exact .inl (s.tups _ _ h)
  · exact .inr h
theorem TupAt.sqt {a : Addr} {xs : List V} (h : TupAt K H a xs) : SqT K H a xs := by
  rcases h with h | h
  · exact .inl (.inl h)
  · exact .inr h
mutual
/-- data without lists stay whatever is changed -/
theorem DtAt.stp (s : Stp M H H1) : ∀ (d : Dt) (v : V), d.flat = true → DtAt K H v d → DtAt K H1 v d
  | .non, _, _, h => by cases h; exact .non
  | .bl _, _, f, h => by simp [Dt.flat] at f
  | .num _, _, _, h => by cases h; exact .num _
  | .txt _, _, _, h => by cases h; exact .txt _
  | .tup ds, _, f, h => by
    cases h with
    | tup h1 h2 => exact .tup (h1.stp s) (DtsAt.stp s ds _ (by simpa [Dt.flat] using f) h2)
  | .lst _, _, f, _ => by simp [Dt.flat] at f
theorem DtsAt.stp (s : Stp M H H1) : ∀ (ds : List Dt) (vs : List V), Dt.flatAll ds = true → DtsAt K H vs ds → DtsAt K H1 vs ds
  | [], _, _, h => by cases h; exact .nil
  | d :: ds, _, f, h => by
    cases h with
    | cons h1 h2 =>
      simp only [Dt.flatAll, Bool.and_eq_true] at f
      exact .cons (DtAt.stp s d _ f.1 h1) (DtsAt.stp s ds _ f.2 h2)
end
theorem DtsAt.length : ∀ {vs : List V} {ds : List Dt}, DtsAt K H vs ds → vs.length = ds.length
  | _, _, .nil => rfl
  | _, _, .cons _ t => by simp [DtsAt.length t]
theorem DtsAt.get : ∀ {vs : List V} {ds : List Dt} {i : Nat} {d : Dt}, DtsAt K H vs ds → ds[i]? = some d → ∃ v, vs[i]? = some v ∧ DtAt K H v d
  | _, _, _, _, .nil, e => by simp at e
  | _, _, 0, _, .cons r _, e => by simp at e; subst e; exact ⟨_, rfl, r⟩
  | _, _, i + 1, d, .cons _ t, e => by
    obtain ⟨v, h1, h2⟩ := DtsAt.get (i := i) (d := d) t (by simpa using e)
    exact ⟨v, by simpa using h1, h2⟩
theorem DtsAt.getV : ∀ {vs : List V} {ds : List Dt} {i : Nat} {v : V}, DtsAt K H vs ds → vs[i]? = some v → ∃ d, ds[i]? = some d ∧ DtAt K H v d
  | _, _, _, _, .nil, e => by simp at e
  | _, _, 0, _, .cons r _, e => by simp at e; subst e; exact ⟨_, rfl, r⟩
  | _, _, i + 1, v, .cons _ t, e => by
    obtain ⟨d, h1, h2⟩ := DtsAt.getV (i := i) (v := v) t (by simpa using e)
    exact ⟨d, by simpa using h1, h2⟩
theorem DtsAt.append : ∀ {vs ws : List V} {ds es : List Dt}, DtsAt K H vs ds → DtsAt K H ws es → DtsAt K H (vs ++ ws) (ds ++ es)
  | _, _, _, _, .nil, s => s
  | _, _, _, _, .cons r t, s => .cons r (DtsAt.append t s)
theorem DtsAt.snoc {vs : List V} {ds : List Dt} {v : V} {d : Dt} (r : DtsAt K H vs ds) (h : DtAt K H v d) : DtsAt K H (vs ++ [v]) (ds ++ [d]) := r.append (.cons h .nil)
end
section
variable {X : Cx} {pins : List (Addr × Obj)} {σ : L2.St} {H : Hp} {s : Shared}
mutual
theorem DtAt.is (I : Inv X pins σ H s) : ∀ (d : Dt) (v : V) (u : Value), DtAt X.K H v d → RelV v u → DtIs s.heap d u
  | .non, _, _, h, r => by cases h; cases r; exact .non
  | .bl b, _, _, h, r => by cases h; cases r; exact .bl b
  | .num i, _, _, h, r => by cases h; obtain ⟨t, rfl⟩ := r; exact .num i t
  | .txt x, _, _, h, r => by cases h; obtain ⟨t, rfl⟩ := r; exact .txt x t
  | .tup ds, _, _, h, r => by
    cases h with
    | tup h1 h2 =>
      cases r
      obtain ⟨its, rv, ht, _⟩ := I.tuple h1.sqt
      exact .tup ht (by simpa using DtsAt.is I ds _ its h2 rv)
  | .lst ds, _, _, h, r => by
    cases h with
    | lst h1 h2 =>
      cases r
      obtain ⟨its, rv, ht, _⟩ := I.list h1
      exact .lst ht.isList (by simpa using DtsAt.is I ds _ its h2 rv)
theorem DtsAt.is (I : Inv X pins σ H s) : ∀ (ds : List Dt) (vs : List V) (us : List Value), DtsAt X.K H vs ds → Vals vs us → DtAll s.heap ds us
  | [], _, _, h, r => by cases h; cases r; exact .nil
  | d :: ds, _, _, h, r => by
    cases h with
    | cons h1 h2 =>
      cases r with
      | cons r1 r2 => exact .cons (DtAt.is I d _ _ h1 r1) (DtsAt.is I ds _ _ h2 r2)
end
end
section
variable {X : Cx}
def rEqT (K : PySem.W.Frag) : R2 := fun x y H Q => ∃ d e, DtAt K H x d ∧ DtAt K H y e ∧ d.depth ≤ 60 ∧ e.depth ≤ 60 ∧ Q (.bl (Dt.beq d e)) H
def rNeT (K : PySem.W.Frag) : R2 := fun x y H Q => ∃ d e, DtAt K H x d ∧ DtAt K H y e ∧ d.depth ≤ 60 ∧ e.depth ≤ 60 ∧ Q (.bl (!Dt.beq d e)) H
theorem op_eqT (hu : X.A.units + 64 < cLine) : OpR X (compareOp .Eq) (rEqT X.K) := by
  intro pins s σ H x y v u Q I rx ry h
  obtain ⟨d, e, hd, he, sd, se, q⟩ := h
  exact rcAt_dt (DtAt.is I d x v hd rx) (DtAt.is I e y u he ry) (by omega) _ _ _ _ ⟨.bl _, H, I, rfl, q⟩
theorem op_neT (hu : X.A.units + 64 < cLine) : OpR X (compareOp .NotEq) (rNeT X.K) := by
  intro pins s σ H x y v u Q I rx ry h
  obtain ⟨d, e, hd, he, sd, se, q⟩ := h
  exact rcNeAt_dt (DtAt.is I d x v hd rx) (DtAt.is I e y u he ry) (by omega) _ _ _ _ ⟨.bl _, H, I, rfl, q⟩
open Classical in
/-- a value's datum -/
noncomputable def datOf (h : Heap) (v : Value) : Dt := if e : ∃ d, DtIs h d v then e.choose else .non
theorem datOf_eq {h : Heap} {v : Value} {d : Dt} (r : DtIs h d v) : datOf h v = d := by
  unfold datOf
  have e : ∃ d, DtIs h d v := ⟨d, r⟩
  rw [dif_pos e]
  exact DtIs.inj _ _ v e.choose_spec r
theorem DtAll.mem {h : Heap} : ∀ {ds : List Dt} {vs : List Value} {v : Value}, DtAll h ds vs → v ∈ vs → ∃ d ∈ ds, DtIs h d v
  | _, _, _, .nil, e => nomatch e
  | _, _, _, .cons r t, e => by
    rcases List.mem_cons.mp e with e | e
    · subst e; exact ⟨_, List.mem_cons_self, r⟩
    · obtain ⟨d, h1, h2⟩ := DtAll.mem t e
      exact ⟨d, List.mem_cons_of_mem _ h1, h2⟩
theorem Dt.depth_mem : ∀ {ds : List Dt} {d : Dt}, d ∈ ds → d.depth ≤ Dt.depthAll ds
  | _ :: _, _, e => by
    rcases List.mem_cons.mp e with e | e
    · subst e; simp only [Dt.depthAll]; omega
    · have := Dt.depth_mem e; simp only [Dt.depthAll]; omega
def rInT (K : PySem.W.Frag) : R2 := fun x y H Q => ∃ d ds, DtAt K H x d ∧ DtAt K H y (.lst ds) ∧ d.depth ≤ 60 ∧ Dt.depthAll ds ≤ 60 ∧ Q (.bl (ds.any fun z => Dt.beq z d)) H
def rNotInT (K : PySem.W.Frag) : R2 := fun x y H Q => ∃ d ds, DtAt K H x d ∧ DtAt K H y (.lst ds) ∧ d.depth ≤ 60 ∧ Dt.depthAll ds ≤ 60 ∧ Q (.bl (!ds.any fun z => Dt.beq z d)) H
theorem any_items {h : Heap} {e : Dt} {ds : List Dt} {vs : Array Value} (r : DtAll h ds vs.toList) : (vs.any fun v => Dt.beq (datOf h v) e) = ds.any fun d => Dt.beq d e := by
  rw [← Array.any_toList]
  generalize hl : vs.toList = l at r
  clear hl
  induction l generalizing ds with
  | nil => cases r; rfl
  | cons v l ih =>
    cases r with
    | cons r1 r2 => rw [List.any_cons, List.any_cons, datOf_eq r1, ih r2]
theorem op_inT (hu : X.A.units + 64 < cLine) : OpR X (compareOp .In) (rInT X.K) := by
  intro pins s σ H x y v u Q I rx ry h
  obtain ⟨d, ds, hd, he, sd, se, q⟩ := h
  have r1 := DtAt.is I d x v hd rx
  have r2 := DtAt.is I (.lst ds) y u he ry
  cases r2 with
  | @lst a vs _ h1 h4 =>
    refine SeqAt.in_listAt (fun w => Dt.beq (datOf s.heap w) d) h1 (fun w hw => ?_) ?_
    · obtain ⟨c, hc, rc⟩ := DtAll.mem h4 (Array.mem_def.mp hw)
      rw [datOf_eq rc]
      have hc2 := Dt.depth_mem hc
      exact eqAt_dt c d X.A.in1 s _ _ rc r1 (by rw [Around.in1_units]; omega)
    · rw [any_items h4]
      exact ⟨.bl _, H, I, rfl, q⟩
theorem op_notInT (hu : X.A.units + 64 < cLine) : OpR X (compareOp .NotIn) (rNotInT X.K) := by
  intro pins s σ H x y v u Q I rx ry h
  obtain ⟨d, ds, hd, he, sd, se, q⟩ := h
  have r1 := DtAt.is I d x v hd rx
  have r2 := DtAt.is I (.lst ds) y u he ry
  cases r2 with
  | @lst a vs _ h1 h4 =>
    refine SeqAt.notIn_listAt (fun w => Dt.beq (datOf s.heap w) d) h1 (fun w hw => ?_) ?_
    · obtain ⟨c, hc, rc⟩ := DtAll.mem h4 (Array.mem_def.mp hw)
      rw [datOf_eq rc]
      have hc2 := Dt.depth_mem hc
      exact eqAt_dt c d X.A.in1 s _ _ rc r1 (by rw [Around.in1_units]; omega)
    · rw [any_items h4]
      exact ⟨.bl _, H, I, rfl, q⟩
end
end GT
namespace GT
open PySem PySem.Spec PyProof.Rows L2
/-! ### isinstance of data -/
def Dt.ty : Dt → String
  | .non => "NoneType"
  | .bl _ => "bool"
  | .num _ => "int"
  | .txt _ => "str"
  | .tup _ => "tuple"
  | .lst _ => "list"
theorem tyx_dt {K : PySem.W.Frag} {H : Hp} {v : V} {d : Dt} (h : DtAt K H v d) : TyX K H v (.type d.ty) := by
  cases h with
  | non => exact .base .non
  | bl b => exact .base (.bl b)
  | num i => exact .base (.int i)
  | txt x => exact .base (.str x)
  | tup h1 h2 =>
    rcases h1 with h1 | ⟨o, its, n, e, c, _⟩
    · exact .base (.tup h1)
    · exact .kTuple e c
  | lst h1 h2 =>
    rcases h1 with (h1 | ⟨o, h1⟩) | ⟨o, its, n, e, c, _⟩
    · exact .base (.lst h1)
    · exact .base (.frz h1)
    · exact .kList e c
theorem i_Isi {K : PySem.W.Frag} {H : Hp} {Q : VK} {v : V} {n : String} {d : Dt} (T : String) (b : Bool) (h : DtAt K H v d) (q : Q (.bl b) H) (hT : d.ty = T := by rfl) (e : kitB T n = some b := by decide +kernel) : rIsi K [v, .ty n] H Q :=
  ⟨v, .ty n, _, _, b, rfl, .ty n, tyx_dt h, kit_ty (by rw [hT]; exact e), q⟩
theorem i_EqT {K : PySem.W.Frag} {H : Hp} {Q : VK} {x y : V} {d e : Dt} (hd : DtAt K H x d) (he : DtAt K H y e) (q : Q (.bl (Dt.beq d e)) H) (h1 : d.depth ≤ 60 := by first | decide | (simp [Dt.depth, Dt.depthAll]; done) | omega) (h2 : e.depth ≤ 60 := by first | decide | (simp [Dt.depth, Dt.depthAll]; done) | omega) : rEqT K x y H Q := ⟨d, e, hd, he, h1, h2, q⟩
theorem i_NeT {K : PySem.W.Frag} {H : Hp} {Q : VK} {x y : V} {d e : Dt} (hd : DtAt K H x d) (he : DtAt K H y e) (q : Q (.bl (!Dt.beq d e)) H) (h1 : d.depth ≤ 60 := by first | decide | (simp [Dt.depth, Dt.depthAll]; done) | omega) (h2 : e.depth ≤ 60 := by first | decide | (simp [Dt.depth, Dt.depthAll]; done) | omega) : rNeT K x y H Q := ⟨d, e, hd, he, h1, h2, q⟩
end GT

/-! ## dicts whose keys are tuples, nested ones too -/
namespace GT
open PySem PySem.Spec PyProof.Rows L2
/-! ### data without lists as keys -/
mutual
theorem Dt.depth_key : ∀ d : Dt, d.flat = true → (Dt.key d).depth = d.depth
  | .non, _ => rfl
  | .bl _, f => by simp [Dt.flat] at f
  | .num _, _ => rfl
  | .txt _, _ => rfl
  | .tup ds, f => by
    simp only [Dt.flat] at f
    simp only [Dt.key, NestedKey.depth, Dt.depth, Dt.depth_keys ds f]
  | .lst _, f => by simp [Dt.flat] at f
theorem Dt.depth_keys : ∀ ds : List Dt, Dt.flatAll ds = true → NestedKey.depthAll (Dt.keys ds) = Dt.depthAll ds
  | [], _ => rfl
  | d :: ds, f => by
    simp only [Dt.flatAll, Bool.and_eq_true] at f
    simp only [Dt.keys, NestedKey.depthAll, Dt.depthAll, Dt.depth_key d f.1, Dt.depth_keys ds f.2]
end
mutual
theorem DtIs.nested {h : Heap} : ∀ (d : Dt) (v : Value), d.flat = true → DtIs h d v → NestedIs h d.key v
  | .non, _, _, r => by cases r; exact .none
  | .bl _, _, f, _ => by simp [Dt.flat] at f
  | .num _, _, _, r => by cases r; exact .int _ _
  | .txt _, _, _, r => by cases r; exact .text _ _
  | .tup ds, _, f, r => by
    cases r with
    | tup h1 h2 =>
      obtain ⟨o, e, c, n, dd⟩ := h1
      exact .tup e c dd (DtAll.nested ds _ (by simpa [Dt.flat] using f) h2)
  | .lst _, _, f, _ => by simp [Dt.flat] at f
theorem DtAll.nested {h : Heap} : ∀ (ds : List Dt) (vs : List Value), Dt.flatAll ds = true → DtAll h ds vs → NestedAll h (Dt.keys ds) vs
  | [], _, _, r => by cases r; exact .nil
  | d :: ds, _, f, r => by
    cases r with
    | cons r1 r2 =>
      simp only [Dt.flatAll, Bool.and_eq_true] at f
      exact .cons (DtIs.nested d _ f.1 r1) (DtAll.nested ds _ f.2 r2)
end
mutual
theorem Dt.key_inj : ∀ a b : Dt, a.flat = true → b.flat = true → a.key = b.key → a = b
  | .non, .non, _, _, _ => rfl
  | .num a, .num b, _, _, h => by simp only [Dt.key, NestedKey.num.injEq] at h; rw [h]
  | .txt a, .txt b, _, _, h => by simp only [Dt.key, NestedKey.text.injEq] at h; rw [h]
  | .tup a, .tup b, fa, fb, h => by
    simp only [Dt.key, NestedKey.tup.injEq] at h
    rw [Dt.keys_inj a b (by simpa [Dt.flat] using fa) (by simpa [Dt.flat] using fb) h]
  | .bl _, _, f, _, _ | .lst _, _, f, _, _ => by simp [Dt.flat] at f
  | _, .bl _, _, f, _ | _, .lst _, _, f, _ => by simp [Dt.flat] at f
  | .non, .num _, _, _, h | .non, .txt _, _, _, h | .non, .tup _, _, _, h => by simp [Dt.key] at h
  | .num _, .non, _, _, h | .num _, .txt _, _, _, h | .num _, .tup _, _, _, h => by simp [Dt.key] at h
  | .txt _, .non, _, _, h | .txt _, .num _, _, _, h | .txt _, .tup _, _, _, h => by simp [Dt.key] at h
  | .tup _, .non, _, _, h | .tup _, .num _, _, _, h | .tup _, .txt _, _, _, h => by simp [Dt.key] at h
theorem Dt.keys_inj : ∀ a b : List Dt, Dt.flatAll a = true → Dt.flatAll b = true → Dt.keys a = Dt.keys b → a = b
  | [], [], _, _, _ => rfl
  | a :: as, b :: bs, fa, fb, h => by
    simp only [Dt.keys, List.cons.injEq] at h
    simp only [Dt.flatAll, Bool.and_eq_true] at fa fb
    rw [Dt.key_inj a b fa.1 fb.1 h.1, Dt.keys_inj as bs fa.2 fb.2 h.2]
  | [], _ :: _, _, _, h => by simp [Dt.keys] at h
  | _ :: _, [], _, _, h => by simp [Dt.keys] at h
end
/-- the value y is the key k -/
def KyAt (K : PySem.W.Frag) (H : Hp) (y : V) (k : NestedKey) : Prop := ∃ d : Dt, d.flat = true ∧ d.key = k ∧ d.depth ≤ 8 ∧ DtAt K H y d
theorem KyAt.of {K : PySem.W.Frag} {H : Hp} {y : V} {d : Dt} (h : DtAt K H y d) (f : d.flat = true := by rfl) (n : d.depth ≤ 8 := by first | decide | (simp [Dt.depth, Dt.depthAll]; done)) : KyAt K H y d.key := ⟨d, f, rfl, n, h⟩
theorem KyAt.stp {K : PySem.W.Frag} {M : List Addr} {H H1 : Hp} {y : V} {k : NestedKey} (h : KyAt K H y k) (s : Stp M H H1) : KyAt K H1 y k :=
  let ⟨d, f, e, n, x⟩ := h; ⟨d, f, e, n, DtAt.stp s d y f x⟩
theorem KyAt.is {X : Cx} {pins : List (Addr × Obj)} {σ : L2.St} {H : Hp} {s : Shared} {a : Addr} {k : NestedKey} (I : Inv X pins σ H s) (h : KyAt X.K H (.ref a) k) : (nestedKind X.prog X.w).is s.heap k a := by
  obtain ⟨d, f, e, n, x⟩ := h
  have r := DtIs.nested d _ f (DtAt.is I d _ _ x (show RelV (.ref a) (.ref a) from rfl))
  rw [e] at r
  exact ⟨r, by rw [← e, Dt.depth_key d f]; exact n⟩
/-! ### the object -/
section
variable (P : Program) (w : World)
abbrev NdRel : List (NestedKey × Addr × V) → List (NestedKey × Addr × Value) → Prop := Paired fun p q => p.1 = q.1 ∧ p.2.1 = q.2.1 ∧ RelV p.2.2 q.2.2
def NdRaw (d : Addr) (xs : List (NestedKey × Addr × V)) (h : Heap) : Prop :=
  xs.length ≤ sizeLine ∧ (d == sysModules) = false ∧ ∃ ys : List (NestedKey × Addr × Value), NdRel xs ys ∧
    ∃ o es ep, h.get? d = some o ∧ o.ExactDict ∧ o.data = .dict es ep ∧ es.toList = ys.map (entryOfKey (nestedKind P w)) ∧ (ys.map (·.1)).Nodup
/-- a dict, its entries in order: key, the key's tuple, value -/
def ndO (d : Addr) (xs : List (NestedKey × Addr × V)) : HO := .ext (NdRaw P w d xs)
end
section
variable {P : Program} {w : World} {d : Addr} {xs : List (NestedKey × Addr × V)} {H : Hp} {h : Heap}
theorem ndO_ok (x : NdRaw P w d xs h) : ObjOk P w H h d (ndO P w d xs) := by
  refine ⟨x, ?_, fun h1 h2 y k => ?_⟩
  · obtain ⟨_, _, ys, _, o, es, ep, e, _⟩ := x
    exact ⟨o, e⟩
  · obtain ⟨z, hd, ys, r, o, es, ep, e, q⟩ := y
    exact ⟨z, hd, ys, r, o, es, ep, k o e, q⟩
theorem ndO_of {o : HO} (x : ObjOk P w H h d (ndO P w d xs)) : NdRaw P w d xs h := x.1
end
/-! ### entries by their keys -/
abbrev NKV := NestedKey × V
def plainX (xs : List (NestedKey × Addr × V)) : List NKV := xs.map fun x => (x.1, x.2.2)
theorem plainX_len (xs : List (NestedKey × Addr × V)) : (plainX xs).length = xs.length := by simp [plainX]
def putX (xs : List (NestedKey × Addr × V)) (k : NestedKey) (a : Addr) (v : V) : List (NestedKey × Addr × V) :=
  if (xs.any fun x => decide (x.1 = k)) = true then xs.map (fun x => if x.1 = k then (x.1, x.2.1, v) else x) else xs ++ [(k, a, v)]
theorem plainX_put (xs : List (NestedKey × Addr × V)) (k : NestedKey) (a : Addr) (v : V) : plainX (putX xs k a v) = putK (plainX xs) k v := by
  unfold putX putK plainX
  have e : ((xs.map fun x => ((x.1, x.2.2) : NKV)).any fun kv => decide (kv.1 = k)) = xs.any fun x => decide (x.1 = k) := by
    rw [List.any_map]; rfl
  rw [e]
  split
  · rw [List.map_map, List.map_map]
    refine List.map_congr_left fun x _ => ?_
    by_cases h : x.1 = k <;> simp [h]
  · simp
theorem putX_mem {xs : List (NestedKey × Addr × V)} {k : NestedKey} {a : Addr} {v : V} {x : NestedKey × Addr × V} (h : x ∈ putX xs k a v) : (x.1 = k ∧ x.2.1 = a) ∨ ∃ y ∈ xs, y.1 = x.1 ∧ y.2.1 = x.2.1 := by
  unfold putX at h
  split at h
  · obtain ⟨y, hy, e⟩ := List.mem_map.mp h
    refine .inr ⟨y, hy, ?_⟩
    by_cases q : y.1 = k
    · rw [if_pos q] at e; rw [← e]; exact ⟨rfl, rfl⟩
    · rw [if_neg q] at e; rw [← e]; exact ⟨rfl, rfl⟩
  · rcases List.mem_append.mp h with h | h
    · exact .inr ⟨x, h, rfl, rfl⟩
    · rw [List.mem_singleton] at h
      rw [h]; exact .inl ⟨rfl, rfl⟩
theorem NdRel.val {xs : List (NestedKey × Addr × V)} {ys : List (NestedKey × Addr × Value)} (r : NdRel xs ys) (k : NestedKey) : RelO (valV (plainX xs) k) ((atKey ys k).map (·.2)) := by
  induction r with
  | nil => exact True.intro
  | @cons p q ps qs h t ih =>
    obtain ⟨h1, _, h2⟩ := h
    by_cases e : p.1 = k
    · have e' : q.1 = k := h1.symm.trans e
      have b : atKey (q :: qs) k = some q.2 := by simp [atKey, List.find?_cons, e']
      have c : valV (plainX (p :: ps)) k = some p.2.2 := valV_pos (p := (p.1, p.2.2)) e
      rw [c, b]; exact h2
    · have e' : ¬ q.1 = k := fun z => e (h1.trans z)
      have b : atKey (q :: qs) k = atKey qs k := by simp [atKey, List.find?_cons, e']
      have c : valV (plainX (p :: ps)) k = valV (plainX ps) k := valV_neg (p := (p.1, p.2.2)) e
      rw [c, b]; exact ih
theorem NdRel.any {xs : List (NestedKey × Addr × V)} {ys : List (NestedKey × Addr × Value)} (r : NdRel xs ys) (k : NestedKey) : (xs.any fun x => decide (x.1 = k)) = (atKey ys k).isSome := by
  have h := (r.val k).isSome_eq
  rw [Option.isSome_map] at h
  rw [← h, ← valV_any]
  show _ = (plainX xs).any _
  unfold plainX
  rw [List.any_map]; rfl
theorem NdRel.repl {xs : List (NestedKey × Addr × V)} {ys : List (NestedKey × Addr × Value)} (r : NdRel xs ys) (k : NestedKey) {v : V} {u : Value} (rv : RelV v u) : NdRel (xs.map fun x => if x.1 = k then (x.1, x.2.1, v) else x) (ys.map (putAt k u)) := by
  induction r with
  | nil => exact .nil
  | @cons p q ps qs h t ih =>
    rw [List.map_cons, List.map_cons]
    refine .cons ?_ ih
    obtain ⟨h1, h2, h3⟩ := h
    unfold putAt
    by_cases e : p.1 = k
    · rw [if_pos e, if_pos (h1.symm.trans e)]; exact ⟨h1, h2, rv⟩
    · rw [if_neg e, if_neg (fun z => e (h1.trans z))]; exact ⟨h1, h2, h3⟩
theorem NdRel.put {xs : List (NestedKey × Addr × V)} {ys : List (NestedKey × Addr × Value)} (r : NdRel xs ys) (k : NestedKey) {a : Addr} {v : V} {u : Value} (rv : RelV v u) : NdRel (putX xs k a v) (storedH ys k a u) := by
  unfold putX storedH
  rw [r.any k]
  by_cases q : (atKey ys k).isSome = true
  · rw [if_pos q, if_pos q]; exact r.repl k rv
  · rw [if_neg q, if_neg q]; exact Paired.snoc r ⟨rfl, rfl, rv⟩
theorem putX_len (xs : List (NestedKey × Addr × V)) (k : NestedKey) (a : Addr) (v : V) : (putX xs k a v).length ≤ xs.length + 1 := by
  have h := length_putK (plainX xs) k v
  rw [← plainX_put xs k a v, plainX_len, plainX_len] at h
  exact h
/-! ### what is known of a dict -/
/-- the entries xs have their keys' tuples where they say -/
def KeysAt (K : PySem.W.Frag) (H : Hp) (xs : List (NestedKey × Addr × V)) : Prop := ∀ x ∈ xs, KyAt K H (.ref x.2.1) x.1
theorem KeysAt.stp {K : PySem.W.Frag} {M : List Addr} {H H1 : Hp} {xs : List (NestedKey × Addr × V)} (h : KeysAt K H xs) (s : Stp M H H1) : KeysAt K H1 xs := fun x hx => (h x hx).stp s
theorem KeysAt.put {K : PySem.W.Frag} {H : Hp} {xs : List (NestedKey × Addr × V)} {k : NestedKey} {a : Addr} {v : V} (h : KeysAt K H xs) (ha : KyAt K H (.ref a) k) : KeysAt K H (putX xs k a v) := fun x hx => by
  rcases putX_mem hx with ⟨e1, e2⟩ | ⟨y, hy, e1, e2⟩
  · rw [e1, e2]; exact ha
  · rw [← e1, ← e2]; exact h y hy
/-- a dict that is ours: may be read and written -/
def ND (P : Program) (w : World) (K : PySem.W.Frag) (H : Hp) (d : Addr) (kvs : List NKV) : Prop := ∃ xs, H d = some (ndO P w d xs) ∧ KeysAt K H xs ∧ plainX xs = kvs
/-- .. while it is walked -/
def NDF (P : Program) (w : World) (K : PySem.W.Frag) (H : Hp) (d : Addr) (o : Obj) (kvs : List NKV) : Prop := ∃ xs, H d = some (.frz o (ndO P w d xs)) ∧ KeysAt K H xs ∧ plainX xs = kvs
/-- .. either -/
def NDR (P : Program) (w : World) (K : PySem.W.Frag) (H : Hp) (d : Addr) (kvs : List NKV) : Prop := ∃ xs, Rd H d (ndO P w d xs) ∧ KeysAt K H xs ∧ plainX xs = kvs
section
variable {P : Program} {w : World} {K : PySem.W.Frag} {H H1 : Hp} {M : List Addr} {d : Addr} {kvs : List NKV} {o : Obj}
theorem ND.r (h : ND P w K H d kvs) : NDR P w K H d kvs := let ⟨xs, e, q⟩ := h; ⟨xs, .inl e, q⟩
theorem NDF.r (h : NDF P w K H d o kvs) : NDR P w K H d kvs := let ⟨xs, e, q⟩ := h; ⟨xs, .inr ⟨o, e⟩, q⟩
theorem ND.stp (h : ND P w K H d kvs) (s : Stp M H H1) (n : d ∉ M) : ND P w K H1 d kvs := let ⟨xs, e, k, q⟩ := h; ⟨xs, s.keep _ _ e n, k.stp s, q⟩
theorem NDF.stp (h : NDF P w K H d o kvs) (s : Stp M H H1) (n : d ∉ M) : NDF P w K H1 d o kvs := let ⟨xs, e, k, q⟩ := h; ⟨xs, s.keep _ _ e n, k.stp s, q⟩
theorem ND.there (h : ND P w K H d kvs) : ∃ u, H d = some u ∧ ∀ xs, u ≠ .tup xs := let ⟨xs, e, _⟩ := h; ⟨_, e, fun _ z => nomatch z⟩
end
section
variable {X : Cx} {pins : List (Addr × Obj)} {σ : L2.St} {H : Hp} {s : Shared} {d a : Addr} {k : NestedKey} {kvs : List NKV} {v : V} {u : Value} {A : Around} {E : Value → Shared → Prop} {xs : List (NestedKey × Addr × V)}
theorem nd_raw (I : Inv X pins σ H s) (e : Rd H d (ndO X.prog X.w d xs)) (hk : KeysAt X.K H xs) : xs.length ≤ sizeLine ∧ (d == sysModules) = false ∧ ∃ ys, NdRel xs ys ∧ s.heap.DictOfH (nestedKind X.prog X.w) d ys := by
  obtain ⟨z, hd, ys, r, o, es, ep, h1, h2, h3, h4, h5⟩ := (ndO_of (o := ndO X.prog X.w d xs) (e.ok I.hok))
  refine ⟨z, hd, ys, r, o, es, ep, h1, h2, h3, h4, ?_, h5⟩
  have all : ∀ {l : List (NestedKey × Addr × V)} {m : List (NestedKey × Addr × Value)}, NdRel l m → KeysAt X.K H l → ∀ x ∈ m, (nestedKind X.prog X.w).is s.heap x.1 x.2.1 := by
    intro l m q
    induction q with
    | nil => intro _ x hx; exact nomatch hx
    | @cons p q ps qs hq t ih =>
      intro ha x hx
      rcases List.mem_cons.mp hx with e | hx
      · subst e
        rw [← hq.1, ← hq.2.1]
        exact (ha p List.mem_cons_self).is I
      · exact ih (fun y hy => ha y (List.mem_cons_of_mem _ hy)) x hx
  exact all r hk
theorem nd_room (hu : A.units + 9 < cLine) : (nestedKind X.prog X.w).room A.in1 := by
  show A.in1.units + 8 < cLine
  rw [Around.in1_units]; omega
theorem nd_getItem {Q : Value → Shared → Prop} (hu : A.units + 9 < cLine) (I : Inv X pins σ H s) (g : NDR X.prog X.w X.K H d kvs) (hk : KyAt X.K H (.ref a) k) (hv : valV kvs k = some v) (h : ∀ w' s', Inv X pins σ H s' → RelV v w' → Q w' s') :
    wpAny (model X.prog X.w) A (getItem (.ref d) (.ref a)) Q E s := by
  obtain ⟨xs, e, ks, rfl⟩ := g
  obtain ⟨z, hd, ys, rel, dd⟩ := nd_raw I e ks
  obtain ⟨w', hw, rw'⟩ := RelO.some_of (v := v) (o := (atKey ys k).map (·.2)) (by rw [← hv]; exact rel.val k)
  obtain ⟨p, hp, hp2⟩ := Option.map_eq_some_iff.mp hw
  refine wpAny_getItem_heap (nd_room hu) (hk.is I) dd hp ?_
  rw [hp2]
  exact h w' _ (I.tok _) rw'
theorem nd_in {Q : Value → Shared → Prop} (hu : A.units + 9 < cLine) (I : Inv X pins σ H s) (g : NDR X.prog X.w X.K H d kvs) (hk : KyAt X.K H (.ref a) k) (h : ∀ s', Inv X pins σ H s' → Q (.bool (valV kvs k).isSome) s') :
    wpAny (model X.prog X.w) A (compareOp .In (.ref a) (.ref d)) Q E s := by
  obtain ⟨xs, e, ks, rfl⟩ := g
  obtain ⟨z, hd, ys, rel, dd⟩ := nd_raw I e ks
  refine wpAny_in_heap (nd_room hu) (hk.is I) hd dd ?_
  have q := (rel.val k).isSome_eq
  rw [Option.isSome_map] at q
  rw [← q]
  exact h _ (I.tok _)
theorem nd_notIn {Q : Value → Shared → Prop} (hu : A.units + 9 < cLine) (I : Inv X pins σ H s) (g : NDR X.prog X.w X.K H d kvs) (hk : KyAt X.K H (.ref a) k) (h : ∀ s', Inv X pins σ H s' → Q (.bool (!(valV kvs k).isSome)) s') :
    wpAny (model X.prog X.w) A (compareOp .NotIn (.ref a) (.ref d)) Q E s := by
  obtain ⟨xs, e, ks, rfl⟩ := g
  obtain ⟨z, hd, ys, rel, dd⟩ := nd_raw I e ks
  refine wpAny_notIn_heap (nd_room hu) (hk.is I) hd dd ?_
  have q := (rel.val k).isSome_eq
  rw [Option.isSome_map] at q
  rw [← q]
  exact h _ (I.tok _)
theorem nd_setItem {Q : Unit → Shared → Prop} (hu : A.units + 9 < cLine) (I : Inv X pins σ H s) (e : H d = some (ndO X.prog X.w d xs)) (ks : KeysAt X.K H xs) (hk : KyAt X.K H (.ref a) k) (hl : xs.length < sizeLine) (rv : RelV v u)
    (h : ∀ s', Inv X pins σ (upd H d (ndO X.prog X.w d (putX xs k a v))) s' → Q () s') : wpAny (model X.prog X.w) A (setItem (.ref d) (.ref a) u) Q E s := by
  obtain ⟨z, hd, ys, rel, dd⟩ := nd_raw I (.inl e) ks
  have hz : ys.length ≤ sizeLine := by rw [← Paired.length rel]; exact z
  have hl2 : (putX xs k a v).length ≤ sizeLine := by have := putX_len xs k a v; omega
  refine wpAny_setItem_heap (hsz := hz) (nd_room hu) (hk.is I) dd fun h' dd' hs => h _ ?_
  obtain ⟨q, es, ep, hq, h2, h3, h4, _, h5⟩ := dd'
  refine d_write I (by rw [e]; exact True.intro) hs ⟨q, hq⟩ (ndO_ok ⟨hl2, hd, _, rel.put k rv, q, es, ep, hq, h2, h3, h4, h5⟩)
end
/-! ### readings and rules -/
def tNGet (P : Program) (w : World) (K : PySem.W.Frag) (td ty : TE) : TE := fun σ H Q => td σ H fun x H1 => ty σ H1 fun y H2 => ∃ d a kvs k v, x = .ref d ∧ y = .ref a ∧ NDR P w K H2 d kvs ∧ KyAt K H2 (.ref a) k ∧ valV kvs k = some v ∧ Q v H2
def tNIn (P : Program) (w : World) (K : PySem.W.Frag) (ty td : TE) : TE := fun σ H Q => ty σ H fun y H1 => td σ H1 fun x H2 => ∃ d a kvs k, x = .ref d ∧ y = .ref a ∧ NDR P w K H2 d kvs ∧ KyAt K H2 (.ref a) k ∧ Q (.bl (valV kvs k).isSome) H2
def tNNotIn (P : Program) (w : World) (K : PySem.W.Frag) (ty td : TE) : TE := fun σ H Q => ty σ H fun y H1 => td σ H1 fun x H2 => ∃ d a kvs k, x = .ref d ∧ y = .ref a ∧ NDR P w K H2 d kvs ∧ KyAt K H2 (.ref a) k ∧ Q (.bl (!(valV kvs k).isSome)) H2
/-- d[y] = v: the dict behind has putK; the heap behind told by what is known of it -/
def sNPut (P : Program) (w : World) (K : PySem.W.Frag) (td ty tv : TE) : TS := fun D σ H => tv σ H fun v H1 => td σ H1 fun x H2 => ty σ H2 fun y H3 => ∃ d a kvs k, x = .ref d ∧ y = .ref a ∧ ND P w K H3 d kvs ∧ KyAt K H3 (.ref a) k ∧ kvs.length < sizeLine ∧
  ∀ H4, ND P w K H4 d (putK kvs k v) → Stp [d] H3 H4 → (∀ (H0 : Hp) M, Stp M H0 H3 → H0 d = none → Stp M H0 H4) → D.nx σ H4
def tNNew (P : Program) (w : World) (K : PySem.W.Frag) : TE := fun _ H Q => ∀ p H1, H p = none → ND P w K H1 p [] → Stp [] H H1 → Q (.ref p) H1
section
variable {X : Cx} {o i e value : Expr} {pos pos' tpos : Pos} {td ty tv : TE}
theorem nd_typeIs {pins : List (Addr × Obj)} {σ : L2.St} {H : Hp} {s : Shared} {d : Addr} {kvs : List NKV} (I : Inv X pins σ H s) (g : NDR X.prog X.w X.K H d kvs) : s.TypeIs (.ref d) "dict" := by
  obtain ⟨xs, e, ks, rfl⟩ := g
  obtain ⟨z, hd, ys, rel, dd⟩ := nd_raw I e ks
  exact dd.typeIs
theorem hu9 {A : Around} {k : Nat} (hr : Room k A) : A.units + 9 < cLine := by have := hr.un; omega
theorem pe_nget {k : Nat} (hr : Room k X.A) (ho : PE X o td) (hi : PE X i ty) (hs : NoSl i) : PE X (.Subscript o i pos) (tNGet X.prog X.w X.K td ty) := by
  refine ⟨fun pins s σ H Q I h => ?_⟩
  refine subD_of PySem.F.slot_dict_getitem.lookup hs (thn (ho.run pins s σ H _ I h) fun u s1 ⟨x, H1, I1, rx, q1⟩ => thn (hi.run pins s1 σ H1 _ I1 q1) fun iv s2 ⟨y, H2, I2, ry, d, a, kvs, k, v, ex, ey, g, hk, hv, q2⟩ => ?_)
  subst ex ey
  obtain rfl : u = Value.ref d := rx
  obtain rfl : iv = Value.ref a := ry
  exact ⟨nd_typeIs I2 g, nd_getItem (hu9 hr) I2 g hk hv fun w' s3 I3 rw' => ⟨v, H2, I3, rw', q2⟩⟩
theorem pc_nin {k : Nat} (hr : Room k X.A) (hi : PE X i ty) (ho : PE X o td) : PC X .In i o (tNIn X.prog X.w X.K ty td) := by
  refine ⟨fun pins s σ H Q I h => ?_⟩
  refine thn (hi.run pins s σ H _ I h) fun iv s1 ⟨y, H1, I1, ry, q1⟩ => thn (ho.run pins s1 σ H1 _ I1 q1) fun u s2 ⟨x, H2, I2, rx, d, a, kvs, k, ex, ey, g, hk, q2⟩ => ?_
  subst ex ey
  obtain rfl : u = Value.ref d := rx
  obtain rfl : iv = Value.ref a := ry
  exact nd_in (hu9 hr) I2 g hk fun s3 I3 => ⟨.bl _, H2, I3, rfl, q2⟩
theorem pc_nnotin {k : Nat} (hr : Room k X.A) (hi : PE X i ty) (ho : PE X o td) : PC X .NotIn i o (tNNotIn X.prog X.w X.K ty td) := by
  refine ⟨fun pins s σ H Q I h => ?_⟩
  refine thn (hi.run pins s σ H _ I h) fun iv s1 ⟨y, H1, I1, ry, q1⟩ => thn (ho.run pins s1 σ H1 _ I1 q1) fun u s2 ⟨x, H2, I2, rx, d, a, kvs, k, ex, ey, g, hk, q2⟩ => ?_
  subst ex ey
  obtain rfl : u = Value.ref d := rx
  obtain rfl : iv = Value.ref a := ry
  exact nd_notIn (hu9 hr) I2 g hk fun s3 I3 => ⟨.bl _, H2, I3, rfl, q2⟩
theorem ps_nput {k : Nat} (hr : Room k X.A) (ho : PE X o td) (hi : PE X i ty) (hv : PE X value tv) (hs : swapsWith value (some (.Subscript o i pos')) pos.line X.env = pure false) :
    PS X (.Assign [.Subscript o i pos'] value pos) (sNPut X.prog X.w X.K td ty tv) := by
  refine ⟨fun pins s σ H D I h => ?_⟩
  refine wpAny_Assign_Subscript (thn (hv.run pins s σ H _ I h) fun r s1 ⟨v, H1, I1, rv, q1⟩ => thn (ho.run pins s1 σ H1 _ I1 q1) fun u s2 ⟨x, H2, I2, rx, q2⟩ => thn (hi.run pins s2 σ H2 _ I2 q2) fun iv s3 ⟨y, H3, I3, ry, d, a, kvs, k, ex, ey, g, hk, hl, q3⟩ => ?_) hs
  subst ex ey
  obtain rfl : u = Value.ref d := rx
  obtain rfl : iv = Value.ref a := ry
  obtain ⟨xs, e, ks, rfl⟩ := g
  rw [plainX_len] at hl
  have st : Stp [d] H3 (upd H3 d (ndO X.prog X.w d (putX xs k a v))) := .wr (by simp) e fun _ z => nomatch z
  refine nd_setItem (hu9 hr) I3 e ks hk hl rv fun s4 I4 => ⟨σ, _, I4, q3 _ ⟨_, upd_same, (ks.put hk).stp st, plainX_put xs k a v⟩ st fun H0 M s0 n => s0.mut n⟩
theorem pe_dnewN : PE X (.Dict [] [] pos) (tNNew X.prog X.w X.K) := ⟨fun pins s σ H Q I h => by
  have hn := I.hok.fresh (Nat.le_refl s.heap.objs.size)
  refine wpAny_Dict_empty ⟨.ref s.heap.objs.size, _, I.laid (a := s.heap.objs.size) (o := ndO X.prog X.w s.heap.objs.size []) (t' := s.toks) (fun _ _ q => Heap.get?_push_of_some _ q) (Nat.le_refl _) (ndO_ok ?_), rfl, h _ _ hn ⟨[], upd_same, fun _ z => (nomatch z), rfl⟩ (.new hn)⟩
  exact ⟨Nat.zero_le _, beq_eq_false_iff_ne.mpr (Ne.symm (Nat.ne_of_lt I.big)), [], .nil, _, #[], 0, Heap.get?_push_size _ rfl, ⟨rfl, rfl, rfl⟩, rfl, rfl, List.nodup_nil⟩⟩
end
end GT

/-! ## walks of such dicts -/
namespace GT
open PySem PySem.Spec PyProof.Rows L2
section
variable {X : Cx} {pins : List (Addr × Obj)} {σ : L2.St} {H : Hp} {s : Shared} {d : Addr} {o : Obj}
theorem nd_frz {xs : List (NestedKey × Addr × V)} (I : Inv X pins σ H s) (h : H d = some (.frz o (ndO X.prog X.w d xs))) :
    (d == sysModules) = false ∧ s.heap.get? d = some o ∧ o.ExactDict ∧ ∃ (es : Array DictEntry) (ep : Nat), o.data = .dict es ep ∧ es.size = xs.length ∧
      ∀ (i : Nat) (x : NestedKey × Addr × V), xs[i]? = some x → ∃ en : DictEntry, es[i]? = some en ∧ en.key = .ref x.2.1 ∧ RelV x.2.2 en.val := by
  obtain ⟨hd, z⟩ := I.hok d _ h
  obtain ⟨z, hs, ys, pr, o', es, ep, ho, hx, hdt, he, _⟩ := ndO_of (o := ndO X.prog X.w d xs) z
  rw [hd] at ho
  cases ho
  refine ⟨hs, hd, hx, es, ep, hdt, ?_, fun i x e => ?_⟩
  · have l1 : es.size = ys.length := size_of_entries he
    have l2 : xs.length = ys.length := Paired.length pr
    omega
  · obtain ⟨b, hb, e1, e2, e3⟩ := paired_get pr e
    have q := entry_at he i
    rw [hb] at q
    exact ⟨_, q, congrArg Value.ref e2.symm, e3⟩
end
/-- the entries of the locked dict at d: the keys' tuples | new pairs -/
def ItN (P : Program) (w : World) (d : Addr) (o : Obj) (xs : List (NestedKey × Addr × V)) : It :=
  ⟨fun i H => H d = some (.frz o (ndO P w d xs)) ∧ i < xs.length, fun i H x H' => H' = H ∧ ∃ e, xs[i]? = some e ∧ x = .ref e.2.1, fun i H => H d = some (.frz o (ndO P w d xs)) ∧ xs.length ≤ i⟩
def ItNi (P : Program) (w : World) (d : Addr) (o : Obj) (xs : List (NestedKey × Addr × V)) : It :=
  ⟨fun i H => H d = some (.frz o (ndO P w d xs)) ∧ i < xs.length, fun i H x H' => ∃ T e, xs[i]? = some e ∧ x = .ref T ∧ H T = none ∧ H' = upd H T (.tup [.ref e.2.1, e.2.2]), fun i H => H d = some (.frz o (ndO P w d xs)) ∧ xs.length ≤ i⟩
section
variable {P : Program} {w : World} {K : PySem.W.Frag} {tg : Expr} {d : Addr} {o : Obj} {es : Array DictEntry} {ep : Nat} {xs : List (NestedKey × Addr × V)}
theorem turn_n (it : Addr) (hod : o.data = .dict es ep) : Turn P w K tg (ItN P w d o xs) [it] it (fun i h => h.IsKeyIter it d i xs.length ep) where
  mem := by simp
  obj := fun i h st b hb => by
    have e : b = it := by simpa using hb
    subst e
    obtain ⟨oi, e, c, dd⟩ := st
    exact ⟨oi, e, fun v z => by rw [dd] at z; cases z⟩
  keep := fun i h h' st k => st.at fun oi e => k it (by simp) oi e
  item := by
    intro X hP hw hK hc i pins s σ H E I hf st hg
    subst hP hw hK
    obtain ⟨hd, hi⟩ := hg
    obtain ⟨f0, f1, f2, f3, f4, f5⟩ := hf it (by simp)
    obtain ⟨hs, hgd, hx, es', ep', hdt, hsz, ent⟩ := nd_frz I hd
    obtain ⟨rfl, rfl⟩ := dict_ep hod hdt
    obtain ⟨e, he⟩ : ∃ e, xs[i]? = some e := ⟨xs[i], List.getElem?_eq_getElem hi⟩
    obtain ⟨en, hen, hkey, _⟩ := ent i e he
    refine next_key_item st hgd hdt hsz hen fun h' st' sb => ?_
    have I1 : Inv X pins σ H { s with heap := h' } := I.turned (t' := s.toks) (fun b ob hb e => (sb.2 b hb).trans e) f0 f1 f3 f4 f5
    obtain ⟨oi, e1, c, dd⟩ := id st'
    exact ⟨en.key, rfl, go_of (s := { s with heap := h' }) e1 c dd (by decide) ⟨.ref e.2.1, H, I1, hkey, ⟨rfl, e, he, rfl⟩, st', fun b hb => (hf b hb).1⟩⟩
  done := by
    intro X hP hw hK hc i pins s σ H E I hf st hg
    subst hP hw hK
    obtain ⟨hd, hi⟩ := hg
    obtain ⟨f0, f1, f2, f3, f4, f5⟩ := hf it (by simp)
    obtain ⟨hs, hgd, hx, es', ep', hdt, hsz, ent⟩ := nd_frz I hd
    obtain ⟨rfl, rfl⟩ := dict_ep hod hdt
    exact next_key_end (I.ok.hd hc) st hgd hdt hsz hi fun h' eb => ⟨rfl, I.turned (t' := s.toks) (fun b ob hb e => eb b ob hb e) f0 f1 f3 f4 f5⟩
  self := fun A i s Q E st h => by
    refine wpAny_pyIter_slot st.typeIs F.slot_dict_keyiterator_iter (wpAny_call_entry F.slot_dict_keyiterator_iter st.typeIs F.entry_dict_keyiterator_iter ?_ (F.args_dict_keyiterator_iter_1 _))
    show wpAny _ _ (ret (.ref it)) _ _ s
    exact wpAny_pure ⟨_, rfl, "dict_keyiterator", _, st.typeIs, F.slot_dict_keyiterator_next.lookup, h⟩
theorem turn_ni {elts : List Expr} {kk : Nat} {tpos : Pos} (it : Addr) (hod : o.data = .dict es ep) :
    Turn P w K (.Tuple elts kk tpos) (ItNi P w d o xs) [it] it (fun i h => ∃ ok ov, IsItemIter h it d i xs.length ep ok ov) where
  mem := by simp
  obj := fun i h st b hb => by
    have e : b = it := by simpa using hb
    subst e
    obtain ⟨ok, ov, e⟩ := st
    exact ⟨_, e, fun v z => nomatch z⟩
  keep := fun i h h' st k => let ⟨ok, ov, e⟩ := st; ⟨ok, ov, k it (by simp) _ e⟩
  item := by
    intro X hP hw hK hc i pins s σ H E I hf st hg
    subst hP hw hK
    obtain ⟨hd, hi⟩ := hg
    obtain ⟨hs, hgd, hx, es', ep', hdt, hsz, ent⟩ := nd_frz I hd
    obtain ⟨rfl, rfl⟩ := dict_ep hod hdt
    obtain ⟨e, hxe⟩ : ∃ e, xs[i]? = some e := ⟨xs[i], List.getElem?_eq_getElem hi⟩
    obtain ⟨en, hen, hkey, hval⟩ := ent i e hxe
    obtain ⟨ok, ov, he⟩ := st
    rw [← hsz] at he
    have hlt : it < s.heap.objs.size := Heap.lt_size he
    obtain ⟨hie, hen2⟩ := Array.getElem?_eq_some_iff.mp hen
    refine wpAny_pyNext_items_item_raw he ⟨o, hgd, hx, hdt⟩ hie fun h' ho hT hz hk => ?_
    refine ⟨_, rfl, wpAny_letOwnedTupleGo_items (s := { s with heap := h' }) ho fun h'' he' sb => ?_⟩
    rw [hen2, hkey] at hT
    have hT2 : h''.get? s.heap.objs.size = some { cls := .type "tuple", data := .seq #[.ref e.2.1, en.val] } := (sb.2 _ (Nat.ne_of_gt hlt)).trans hT
    have new : ObjOk X.prog X.w (upd H s.heap.objs.size (.tup [.ref e.2.1, e.2.2])) h'' s.heap.objs.size (.tup [.ref e.2.1, e.2.2]) :=
      ⟨by show 2 ≤ sizeLine; decide, [.ref e.2.1, en.val], .cons rfl (.cons hval .nil), ⟨_, hT2, rfl, _, rfl⟩⟩
    have I1 : Inv X pins σ (upd H s.heap.objs.size (.tup [.ref e.2.1, e.2.2])) { s with heap := h'' } :=
      I.turnedNew (t' := s.toks) (ch := [it]) (fun b ob hb e => (sb.2 b (by simpa using hb)).trans (hk b ob (by simpa using hb) e)) hf (Nat.le_refl _) new
    refine ⟨.ref s.heap.objs.size, _, I1, rfl, ⟨_, e, hxe, rfl, I.hok.fresh (Nat.le_refl _), rfl⟩, ⟨(es'[i]).key, (es'[i]).val, ?_⟩, fun b hb => ?_⟩
    · rw [← hsz]; exact he'
    · have e : b = it := by simpa using hb
      rw [e, upd_ne (Nat.ne_of_lt hlt)]
      exact (hf it (by simp)).1
  done := by
    intro X hP hw hK hc i pins s σ H E I hf st hg
    subst hP hw hK
    obtain ⟨hd, hi⟩ := hg
    obtain ⟨f0, f1, f2, f3, f4, f5⟩ := hf it (by simp)
    obtain ⟨hs, hgd, hx, es', ep', hdt, hsz, ent⟩ := nd_frz I hd
    obtain ⟨rfl, rfl⟩ := dict_ep hod hdt
    obtain ⟨ok, ov, he⟩ := st
    rw [← hsz] at he
    exact wpAny_pyNext_items_end_raw (I.ok.hd hc) he ⟨o, hgd, hx, hdt⟩ (by omega) fun h' eb => ⟨rfl, I.turned (t' := s.toks) (fun b ob hb e => eb b ob hb e) f0 f1 f3 f4 f5⟩
  self := fun A i s Q E st h => let ⟨_, _, e⟩ := st; PySem.W.kcp_self e h
end
def iN (P : Program) (w : World) (td : TE) : TI := fun σ H R => td σ H fun x H1 => ∃ d o xs, x = .ref d ∧ H1 d = some (.frz o (ndO P w d xs)) ∧ R (ItN P w d o xs) H1
def iNi (P : Program) (w : World) (td : TE) : TI := fun σ H R => td σ H fun x H1 => ∃ d o xs, x = .ref d ∧ H1 d = some (.frz o (ndO P w d xs)) ∧ R (ItNi P w d o xs) H1
section
variable {X : Cx} {tg e : Expr} {td : TE} {apos cpos : Pos}
theorem pi_n (he : PE X e td) : PI X tg e (iN X.prog X.w td) := by
  refine ⟨fun pins s σ H R I h => ?_⟩
  refine thn (he.run pins s σ H _ I h) fun u s1 ⟨x, H1, I1, rx, d, o, xs, ex, hd, q⟩ => ?_
  subst ex
  obtain rfl : u = Value.ref d := rx
  obtain ⟨hs, hgd, hx, es, ep, hdt, hsz, ent⟩ := nd_frz I1 hd
  refine iter_keys hs hgd hx hdt (pi_one (tk := s1.toks) I1 _ (turn_n _ hdt) ⟨_, Heap.get?_push_size _ rfl, rfl, ?_⟩ q)
  rw [hsz] <;> rfl
theorem pi_ni {elts : List Expr} {kk : Nat} {tpos : Pos} (he : PE X e td) (hbase : attributeBase e "items" X.env (eval e X.env) = eval e X.env := by rfl) (hline : (apos.endLine == cpos.line) = true := by rfl) :
    PI X (.Tuple elts kk tpos) (.Call (.Attribute e "items" apos) [] [] cpos) (iNi X.prog X.w td) := by
  refine ⟨fun pins s σ H R I h => ?_⟩
  refine wpAny_Call_method (T := "dict") (id := "dict.items") hbase rfl hline F.plainAttrs_dict F.slot_dict_items F.type_dict_items (thn (he.run pins s σ H _ I h) fun u s1 ⟨x, H1, I1, rx, d, o, xs, ex, hd, q⟩ => ?_)
  subst ex
  obtain rfl : u = Value.ref d := rx
  obtain ⟨hs, hgd, hx, es, ep, hdt, hsz, ent⟩ := nd_frz I1 hd
  have dr : s1.heap.DictRaw d es ep := ⟨o, hgd, hx, hdt⟩
  refine ⟨dr.typeIs, fun b q => by cases q; exact ⟨o, hgd, hx.2.1⟩, ?_⟩
  have I2 : Inv X pins σ H1 { s1 with heap := s1.heap.push { cls := .type "dict_items", data := .fields #[.ref d] } } := I1.kept (t' := s1.toks) fun b ob q => Heap.get?_push_of_some _ q
  have fin : wpAny (model X.prog X.w) X.A (pyIter (.ref s1.heap.objs.size)) (PIE X pins σ (.Tuple elts kk tpos) R) X.xe { s1 with heap := s1.heap.push { cls := .type "dict_items", data := .fields #[.ref d] } } := by
    refine wpAny_pyIter_items_raw (d := d) (es := es) (ep := ep) ⟨_, Heap.get?_push_size _ rfl, rfl, rfl⟩ (dr.at fun ob q => Heap.get?_push_of_some _ q) (pi_one (tk := s1.toks) I2 _ (turn_ni _ hdt) ⟨.none, .none, ?_⟩ q)
    rw [← hsz]
    exact Heap.get?_push_size _ rfl
  show wpAny _ _ (callWith cpos (.builtin "dict.items") [.ref d] [] []) _ X.xe s1
  exact method_meetsIn F.slot_dict_items F.entry_dict_items rfl (PySem.evalArgs_none ⟨rfl, dr.typeIs, F.args_dict_items_1 _, _, meets_dict_items_raw d hs, ⟨es, ep, dr⟩, fin⟩)
end
end GT

/-! ## loops over such dicts, locked; data in order -/
namespace GT
open PySem PySem.Spec PyProof.Rows L2
section
variable {P : Program} {w : World} {d : Addr} {o : Obj} {xs : List (NestedKey × Addr × V)}
theorem for_n {g : TG} {tb : TS} {D : Ends} {σ : L2.St} {H : Hp} (Pv : Nat → L2.St → Hp → Prop) (h0 : Pv 0 σ H) (hl : ∀ i σ H, i ≤ xs.length → Pv i σ H → H d = some (.frz o (ndO P w d xs)))
    (hs : ∀ i x σ H, xs[i]? = some x → Pv i σ H → g (.ref x.2.1) σ H fun σ2 H2 => tb { D with nx := Pv (i + 1), ct := Pv (i + 1), bk := D.nx } σ2 H2) (hd : ∀ σ H, Pv xs.length σ H → D.nx σ H) :
    ∃ W : Nat → Nat → L2.St → Hp → Prop, (∃ m, W 0 m σ H) ∧ ∀ i m σ H, W i m σ H →
      ((ItN P w d o xs).stop i H ∧ D.nx σ H) ∨ ((ItN P w d o xs).go i H ∧ ∃ N : L2.St → Hp → Prop, (∀ σ' H', N σ' H' → ∃ m', m' < m ∧ W (i + 1) m' σ' H') ∧ ∀ x H', (ItN P w d o xs).yld i H x H' → g x σ H' fun σ2 H2 => tb { D with nx := N, ct := N, bk := D.nx } σ2 H2) := by
  refine ⟨fun i m σ H => m = xs.length - i ∧ i ≤ xs.length ∧ Pv i σ H, ⟨xs.length, by simp, Nat.zero_le _, h0⟩, ?_⟩
  rintro i m σ H ⟨rfl, hi, p⟩
  have q := hl i σ H hi p
  by_cases hlt : i < xs.length
  · refine .inr ⟨⟨q, hlt⟩, Pv (i + 1), fun σ' H' p' => ⟨xs.length - (i + 1), by omega, rfl, hlt, p'⟩, fun x H' y => ?_⟩
    obtain ⟨e, z, hz, rfl⟩ := y
    subst e
    exact hs i z σ _ hz p
  · have e : i = xs.length := by omega
    subst e
    exact .inl ⟨⟨q, Nat.le_refl _⟩, hd σ H p⟩
theorem for_ni {g : TG} {tb : TS} {D : Ends} {σ : L2.St} {H : Hp} (Pv : Nat → L2.St → Hp → Prop) (h0 : Pv 0 σ H) (hl : ∀ i σ H, i ≤ xs.length → Pv i σ H → H d = some (.frz o (ndO P w d xs)))
    (hs : ∀ i x σ H T, xs[i]? = some x → Pv i σ H → H T = none → g (.ref T) σ (upd H T (.tup [.ref x.2.1, x.2.2])) fun σ2 H2 => tb { D with nx := Pv (i + 1), ct := Pv (i + 1), bk := D.nx } σ2 H2) (hd : ∀ σ H, Pv xs.length σ H → D.nx σ H) :
    ∃ W : Nat → Nat → L2.St → Hp → Prop, (∃ m, W 0 m σ H) ∧ ∀ i m σ H, W i m σ H →
      ((ItNi P w d o xs).stop i H ∧ D.nx σ H) ∨ ((ItNi P w d o xs).go i H ∧ ∃ N : L2.St → Hp → Prop, (∀ σ' H', N σ' H' → ∃ m', m' < m ∧ W (i + 1) m' σ' H') ∧ ∀ x H', (ItNi P w d o xs).yld i H x H' → g x σ H' fun σ2 H2 => tb { D with nx := N, ct := N, bk := D.nx } σ2 H2) := by
  refine ⟨fun i m σ H => m = xs.length - i ∧ i ≤ xs.length ∧ Pv i σ H, ⟨xs.length, by simp, Nat.zero_le _, h0⟩, ?_⟩
  rintro i m σ H ⟨rfl, hi, p⟩
  have q := hl i σ H hi p
  by_cases hlt : i < xs.length
  · refine .inr ⟨⟨q, hlt⟩, Pv (i + 1), fun σ' H' p' => ⟨xs.length - (i + 1), by omega, rfl, hlt, p'⟩, fun x H' y => ?_⟩
    obtain ⟨T, z, hz, rfl, n, rfl⟩ := y
    exact hs i z σ _ T hz p n
  · have e : i = xs.length := by omega
    subst e
    exact .inl ⟨⟨q, Nat.le_refl _⟩, hd σ H p⟩
theorem lc_n {g : TG} {tt : TT} {te : TE} {vs : List Nat} {σ : L2.St} {H1 : Hp} {D : Addr} {Qd : Hp → Prop} (Pv : Nat → Hp → Prop) (h0 : Pv 0 (upd H1 D (.lst []))) (hl : ∀ i H, i ≤ xs.length → Pv i H → H d = some (.frz o (ndO P w d xs)))
    (hs : ∀ i x H, xs[i]? = some x → Pv i H → g (.ref x.2.1) (wipe σ vs) H fun σ2 H2 => wipe σ2 vs = wipe σ vs ∧ tt σ2 H2 fun b H3 =>
      if b = true then te σ2 H3 fun y H4 => ∃ acc, H4 D = some (.lst acc) ∧ acc.length < sizeLine ∧ Pv (i + 1) (upd H4 D (.lst (acc ++ [y]))) else Pv (i + 1) H3) (hd : ∀ H, Pv xs.length H → Qd H) :
    ∃ W : Nat → Nat → Hp → Prop, (∃ m, W 0 m (upd H1 D (.lst []))) ∧ ∀ i m H, W i m H →
      ((ItN P w d o xs).stop i H ∧ Qd H) ∨ ((ItN P w d o xs).go i H ∧ ∃ Nx : Hp → Prop, (∀ H', Nx H' → ∃ m', m' < m ∧ W (i + 1) m' H') ∧ ∀ x H', (ItN P w d o xs).yld i H x H' → g x (wipe σ vs) H' fun σ2 H2 => wipe σ2 vs = wipe σ vs ∧ tt σ2 H2 fun b H3 =>
        if b = true then te σ2 H3 fun y H4 => ∃ acc, H4 D = some (.lst acc) ∧ acc.length < sizeLine ∧ Nx (upd H4 D (.lst (acc ++ [y]))) else Nx H3) := by
  refine ⟨fun i m H => m = xs.length - i ∧ i ≤ xs.length ∧ Pv i H, ⟨xs.length, by simp, Nat.zero_le _, h0⟩, ?_⟩
  rintro i m H ⟨rfl, hi, p⟩
  have q := hl i H hi p
  by_cases hlt : i < xs.length
  · refine .inr ⟨⟨q, hlt⟩, Pv (i + 1), fun H' p' => ⟨xs.length - (i + 1), by omega, rfl, hlt, p'⟩, fun x H' y => ?_⟩
    obtain ⟨e, z, hz, rfl⟩ := y
    subst e
    exact hs i z _ hz p
  · have e : i = xs.length := by omega
    subst e
    exact .inl ⟨⟨q, Nat.le_refl _⟩, hd H p⟩
theorem lc_ni {g : TG} {tt : TT} {te : TE} {vs : List Nat} {σ : L2.St} {H1 : Hp} {D : Addr} {Qd : Hp → Prop} (Pv : Nat → Hp → Prop) (h0 : Pv 0 (upd H1 D (.lst []))) (hl : ∀ i H, i ≤ xs.length → Pv i H → H d = some (.frz o (ndO P w d xs)))
    (hs : ∀ i x H T, xs[i]? = some x → Pv i H → H T = none → g (.ref T) (wipe σ vs) (upd H T (.tup [.ref x.2.1, x.2.2])) fun σ2 H2 => wipe σ2 vs = wipe σ vs ∧ tt σ2 H2 fun b H3 =>
      if b = true then te σ2 H3 fun y H4 => ∃ acc, H4 D = some (.lst acc) ∧ acc.length < sizeLine ∧ Pv (i + 1) (upd H4 D (.lst (acc ++ [y]))) else Pv (i + 1) H3) (hd : ∀ H, Pv xs.length H → Qd H) :
    ∃ W : Nat → Nat → Hp → Prop, (∃ m, W 0 m (upd H1 D (.lst []))) ∧ ∀ i m H, W i m H →
      ((ItNi P w d o xs).stop i H ∧ Qd H) ∨ ((ItNi P w d o xs).go i H ∧ ∃ Nx : Hp → Prop, (∀ H', Nx H' → ∃ m', m' < m ∧ W (i + 1) m' H') ∧ ∀ x H', (ItNi P w d o xs).yld i H x H' → g x (wipe σ vs) H' fun σ2 H2 => wipe σ2 vs = wipe σ vs ∧ tt σ2 H2 fun b H3 =>
        if b = true then te σ2 H3 fun y H4 => ∃ acc, H4 D = some (.lst acc) ∧ acc.length < sizeLine ∧ Nx (upd H4 D (.lst (acc ++ [y]))) else Nx H3) := by
  refine ⟨fun i m H => m = xs.length - i ∧ i ≤ xs.length ∧ Pv i H, ⟨xs.length, by simp, Nat.zero_le _, h0⟩, ?_⟩
  rintro i m H ⟨rfl, hi, p⟩
  have q := hl i H hi p
  by_cases hlt : i < xs.length
  · refine .inr ⟨⟨q, hlt⟩, Pv (i + 1), fun H' p' => ⟨xs.length - (i + 1), by omega, rfl, hlt, p'⟩, fun x H' y => ?_⟩
    obtain ⟨T, z, hz, rfl, n, rfl⟩ := y
    exact hs i z _ T hz p n
  · have e : i = xs.length := by omega
    subst e
    exact .inl ⟨⟨q, Nat.le_refl _⟩, hd H p⟩
end
/-! ### locks -/
section
variable {P : Program} {w : World} {K : PySem.W.Frag} {H : Hp} {d : Addr} {kvs : List NKV} {σ : L2.St} {Q : VK} {D : Ends}
theorem lockE_nd {t : TE} (g : ND P w K H d kvs) (h : ∀ o xs, plainX xs = kvs → KeysAt K H xs → H d = some (ndO P w d xs) →
    t σ (upd H d (.frz o (ndO P w d xs))) fun v H' => H' d = some (.frz o (ndO P w d xs)) ∧ Q v (upd H' d (ndO P w d xs))) : tLockE t σ H Q := by
  obtain ⟨xs, e, k, hx⟩ := g
  exact ⟨d, _, e, True.intro, fun o => h o xs hx k e⟩
theorem lock_nd {t : TS} (g : ND P w K H d kvs) (h : ∀ o xs, plainX xs = kvs → KeysAt K H xs → H d = some (ndO P w d xs) →
    t ⟨fun σ' H' => H' d = some (.frz o (ndO P w d xs)) ∧ D.nx σ' (upd H' d (ndO P w d xs)), fun v H' => H' d = some (.frz o (ndO P w d xs)) ∧ D.rt v (upd H' d (ndO P w d xs)), fun σ' H' => H' d = some (.frz o (ndO P w d xs)) ∧ D.bk σ' (upd H' d (ndO P w d xs)), fun σ' H' => H' d = some (.frz o (ndO P w d xs)) ∧ D.ct σ' (upd H' d (ndO P w d xs))⟩ σ (upd H d (.frz o (ndO P w d xs)))) : tLock t D σ H := by
  obtain ⟨xs, e, k, hx⟩ := g
  exact ⟨d, _, e, True.intro, fun o => h o xs hx k e⟩
theorem Stp.lock {M : List Addr} {H : Hp} {d : Addr} {o : Obj} {u : HO} (e : H d = some u) (nt : ∀ xs, u ≠ .tup xs) : Stp (d :: M) H (upd H d (.frz o u)) := .wr (by simp) e nt
theorem Stp.unlock {M : List Addr} {H H' : Hp} {d : Addr} {u : HO} (s : Stp (d :: M) H H') (e : H d = some u) (nt : ∀ xs, u ≠ .tup xs) (nb : ∀ ps, u ≠ .tbl ps := by exact fun _ z => nomatch z) : Stp M H (upd H' d u) :=
  ⟨fun c v h n => by
    by_cases q : c = d
    · rw [q, upd_same]; rw [q, e] at h; exact h
    · rw [upd_ne q]; exact s.keep c v h (by simp [q, n]),
   fun c xs h => by
    by_cases q : c = d
    · rw [q, e] at h; exact absurd (Option.some.inj h) (nt xs)
    · rw [upd_ne q]; exact s.tups c xs h,
   fun c ps h => by
    by_cases q : c = d
    · rw [q, upd_same] at h; exact absurd (Option.some.inj h) (nb ps)
    · rw [upd_ne q] at h; exact s.tbls c ps h⟩
/-- what is behind the lock, seen from within -/
theorem Stp.off {H' : Hp} {d : Addr} {o : Obj} {u : HO} (e : H' d = some (.frz o u)) (nb : ∀ ps, u ≠ .tbl ps := by exact fun _ z => nomatch z) : Stp [d] H' (upd H' d u) := .wr (by simp) e (fun _ z => nomatch z) nb
theorem ndO_nt {d : Addr} {xs : List (NestedKey × Addr × V)} : ∀ ys, ndO P w d xs ≠ .tup ys := fun _ z => nomatch z
theorem ndf {H' : Hp} {d : Addr} {o : Obj} {xs : List (NestedKey × Addr × V)} (e : H' d = some (.frz o (ndO P w d xs))) (k : KeysAt K H' xs) : NDF P w K H' d o (plainX xs) := ⟨xs, e, k, rfl⟩
theorem nd_of {H' : Hp} {d : Addr} {xs : List (NestedKey × Addr × V)} (e : H' d = some (ndO P w d xs)) (k : KeysAt K H' xs) : ND P w K H' d (plainX xs) := ⟨xs, e, k, rfl⟩
theorem plainX_at {xs : List (NestedKey × Addr × V)} {i : Nat} {x : NestedKey × Addr × V} (h : xs[i]? = some x) : (plainX xs)[i]? = some (x.1, x.2.2) := by unfold plainX; rw [List.getElem?_map, h]; rfl
end
/-! ### putK -/
section
variable {κ : Type} [DecidableEq κ]
theorem putK_mem {kvs : List (κ × V)} {k : κ} {v : V} {p : κ × V} (h : p ∈ putK kvs k v) : p = (k, v) ∨ (p ∈ kvs ∧ p.1 ≠ k) := by
  unfold putK at h
  split at h
  · obtain ⟨y, hy, e⟩ := List.mem_map.mp h
    by_cases q : y.1 = k
    · simp only [q, if_true] at e; left; rw [← e]
    · simp only [q, if_false] at e; right; rw [← e]; exact ⟨hy, q⟩
  · rename_i hn
    rcases List.mem_append.mp h with h | h
    · refine .inr ⟨h, fun e => hn ?_⟩
      rw [List.any_eq_true]; exact ⟨p, h, by simp [e]⟩
    · rw [List.mem_singleton] at h; exact .inl h
theorem putK_keys (kvs : List (κ × V)) (k : κ) (v : V) : (putK kvs k v).map (·.1) = if (kvs.any fun kv => decide (kv.1 = k)) = true then kvs.map (·.1) else kvs.map (·.1) ++ [k] := by
  unfold putK
  split
  · rw [List.map_map]
    refine List.map_congr_left fun x _ => ?_
    by_cases h : x.1 = k <;> simp [h]
  · simp
theorem putK_nd {kvs : List (κ × V)} {k : κ} {v : V} (h : (kvs.map (·.1)).Nodup) : ((putK kvs k v).map (·.1)).Nodup := by
  rw [putK_keys]
  split
  · exact h
  · rename_i hn
    rw [List.nodup_append]
    refine ⟨h, List.pairwise_singleton .., ?_⟩
    intro a ha b hb e
    rw [List.mem_singleton] at hb
    subst hb; subst e
    obtain ⟨p, hp, e⟩ := List.mem_map.mp ha
    exact hn (by rw [List.any_eq_true]; exact ⟨p, hp, by simp [e]⟩)
theorem valV_mem {kvs : List (κ × V)} {k : κ} {v : V} (h : valV kvs k = some v) : (k, v) ∈ kvs := by
  unfold valV at h
  obtain ⟨p, hp, rfl⟩ := Option.map_eq_some_iff.mp h
  have h1 := List.mem_of_find?_eq_some hp
  have h2 := List.find?_some hp
  simp only [decide_eq_true_eq] at h2
  rw [← h2]; exact h1
theorem valV_of {kvs : List (κ × V)} {k : κ} {v : V} (n : (kvs.map (·.1)).Nodup) (h : (k, v) ∈ kvs) : valV kvs k = some v := by
  induction kvs with
  | nil => cases h
  | cons p r ih =>
    rw [List.map_cons, List.nodup_cons] at n
    rcases List.mem_cons.mp h with e | h
    · subst e; simp [valV, List.find?_cons]
    · have : p.1 ≠ k := fun e => n.1 (List.mem_map.mpr ⟨_, h, e.symm⟩)
      rw [show valV (p :: r) k = valV r k by simp [valV, List.find?_cons, this]]
      exact ih n.2 h
end
/-! ### data in order -/
mutual
def Dt.py : Dt → PyData
  | .non => .none
  | .bl b => .bool b
  | .num i => .int i
  | .txt x => .str x
  | .tup ds => .tuple (Dt.pys ds)
  | .lst ds => .list (Dt.pys ds)
def Dt.pys : List Dt → List PyData
  | [] => []
  | d :: ds => d.py :: Dt.pys ds
end
theorem Dt.pys_map : ∀ ds : List Dt, Dt.pys ds = ds.map Dt.py
  | [] => rfl
  | d :: ds => by rw [Dt.pys, Dt.pys_map ds]; rfl
mutual
theorem Dt.py_depth : ∀ d : Dt, d.py.depth = d.depth
  | .non => rfl
  | .bl _ => rfl
  | .num _ => rfl
  | .txt _ => rfl
  | .tup ds => by simp only [Dt.py, PyData.depth, Dt.depth, Dt.pys_depth ds]
  | .lst ds => by simp only [Dt.py, PyData.depth, Dt.depth, Dt.pys_depth ds]
theorem Dt.pys_depth : ∀ ds : List Dt, PyData.depthAll (Dt.pys ds) = Dt.depthAll ds
  | [] => rfl
  | d :: ds => by simp only [Dt.pys, PyData.depthAll, Dt.depthAll, Dt.py_depth d, Dt.pys_depth ds]
end
mutual
theorem DtIs.reads {h : Heap} : ∀ (d : Dt) (v : Value), d.flat = true → DtIs h d v → Reads h v d.py []
  | .non, _, _, r => by cases r; exact .none
  | .bl _, _, f, _ => by simp [Dt.flat] at f
  | .num _, _, _, r => by cases r; exact .int _ _
  | .txt _, _, _, r => by cases r; exact .str _ _
  | .tup ds, _, f, r => by
    cases r with
    | tup h1 h2 =>
      obtain ⟨o, e, c, n, dd⟩ := h1
      exact .tuple e c dd (DtAll.reads ds _ (by simpa [Dt.flat] using f) h2)
  | .lst _, _, f, _ => by simp [Dt.flat] at f
theorem DtAll.reads {h : Heap} : ∀ (ds : List Dt) (vs : List Value), Dt.flatAll ds = true → DtAll h ds vs → ReadsAll h vs (Dt.pys ds) []
  | [], _, _, r => by cases r; exact .nil
  | d :: ds, _, f, r => by
    cases r with
    | cons r1 r2 =>
      simp only [Dt.flatAll, Bool.and_eq_true] at f
      exact .cons (as := []) (bs := []) (DtIs.reads d _ f.1 r1) (DtAll.reads ds _ f.2 r2)
end
open PySem.W in
section
variable {X : Cx}
/-- two that can be ordered -/
structure Ordb (K : PySem.W.Frag) (H : Hp) (x y : V) (d e : Dt) : Prop where
  x : DtAt K H x d
  y : DtAt K H y e
  fx : d.flat = true
  fy : e.flat = true
  al : alike d.py e.py = true
  nn : d.py ≠ .none
  dp : d.depth ≤ 8
def rLtO (K : PySem.W.Frag) : R2 := fun x y H Q => ∃ d e, Ordb K H x y d e ∧ Q (.bl (dataLt d.py e.py)) H
def rGtO (K : PySem.W.Frag) : R2 := fun x y H Q => ∃ d e, Ordb K H x y d e ∧ Q (.bl (dataLt e.py d.py)) H
theorem op_ltO (hu : X.A.units + 64 < cLine) : OpR X (compareOp .Lt) (rLtO X.K) := by
  intro pins s σ H x y v u Q I rx ry h
  obtain ⟨d, e, ⟨hx, hy, fx, fy, al, nn, dp⟩, q⟩ := h
  have n1 := Dt.py_depth d
  refine lt_data (DtIs.reads d _ fx (DtAt.is I d x v hx rx)) (DtIs.reads e _ fy (DtAt.is I e y u hy ry)) al nn (by omega) ⟨.bl _, H, I, rfl, q⟩
theorem op_gtO (hu : X.A.units + 64 < cLine) : OpR X (compareOp .Gt) (rGtO X.K) := by
  intro pins s σ H x y v u Q I rx ry h
  obtain ⟨d, e, ⟨hx, hy, fx, fy, al, nn, dp⟩, q⟩ := h
  have n1 := Dt.py_depth d
  refine gt_data (DtIs.reads d _ fx (DtAt.is I d x v hx rx)) (DtIs.reads e _ fy (DtAt.is I e y u hy ry)) al nn (by omega) ⟨.bl _, H, I, rfl, q⟩
end
end GT
/-! ### the rules where the context is a comprehension's block: P, w, K told -/
namespace GT
open PySem PySem.Spec PyProof.Rows L2
section
variable {P : Program} {w : World} {K : PySem.W.Frag} {X : Cx} {o i e value : Expr} {pos pos' tpos : Pos} {td ty tv : TE}
theorem pe_ngetK {k : Nat} (eP : X.prog = P) (ew : X.w = w) (eK : X.K = K) (hr : Room k X.A) (ho : PE X o td) (hi : PE X i ty) (hs : NoSl i) : PE X (.Subscript o i pos) (tNGet P w K td ty) := by
  subst eP; subst ew; subst eK; exact pe_nget hr ho hi hs
theorem pc_ninK {k : Nat} (eP : X.prog = P) (ew : X.w = w) (eK : X.K = K) (hr : Room k X.A) (hi : PE X i ty) (ho : PE X o td) : PC X .In i o (tNIn P w K ty td) := by
  subst eP; subst ew; subst eK; exact pc_nin hr hi ho
theorem pc_nnotinK {k : Nat} (eP : X.prog = P) (ew : X.w = w) (eK : X.K = K) (hr : Room k X.A) (hi : PE X i ty) (ho : PE X o td) : PC X .NotIn i o (tNNotIn P w K ty td) := by
  subst eP; subst ew; subst eK; exact pc_nnotin hr hi ho
end
end GT
/-! ### steps of loops -/
namespace GT
open PySem PySem.Spec PyProof.Rows L2
section
variable {σ : L2.St} {H : Hp} {Q : VK} {D : Ends} {R : It → Hp → Prop} {ta : TA} {td te tk tv : TE} {wi : TI} {g : TG} {tb : TS} {tt : TT} {vs : List Nat} {K : PySem.W.Frag} {P : Program} {w : World}
theorem i_For (q : wi σ H fun J H1 => ∃ W : Nat → Nat → L2.St → Hp → Prop, (∃ m, W 0 m σ H1) ∧ ∀ i m σ H, W i m σ H →
  (J.stop i H ∧ D.nx σ H) ∨ (J.go i H ∧ ∃ N : L2.St → Hp → Prop, (∀ σ' H', N σ' H' → ∃ m', m' < m ∧ W (i + 1) m' σ' H') ∧ ∀ x H', J.yld i H x H' → g x σ H' fun σ2 H2 => tb { D with nx := N, ct := N, bk := D.nx } σ2 H2)) : tFor wi g tb D σ H := q
theorem i_Lc (q : wi σ H fun J H1 => ∀ D, H1 D = none → ∃ W : Nat → Nat → Hp → Prop, (∃ m, W 0 m (upd H1 D (.lst []))) ∧ ∀ i m H, W i m H →
  (J.stop i H ∧ Q (.ref D) H) ∨ (J.go i H ∧ ∃ Nx : Hp → Prop, (∀ H', Nx H' → ∃ m', m' < m ∧ W (i + 1) m' H') ∧ ∀ x H', J.yld i H x H' → g x (wipe σ vs) H' fun σ2 H2 => wipe σ2 vs = wipe σ vs ∧ tt σ2 H2 fun b H3 =>
    if b = true then te σ2 H3 fun y H4 => ∃ acc, H4 D = some (.lst acc) ∧ acc.length < sizeLine ∧ Nx (upd H4 D (.lst (acc ++ [y]))) else Nx H3)) : tLc wi g tt te vs σ H Q := q
theorem i_Rng1 (q : ta σ H fun vs H1 => ∃ j : Int, vs = [.int j] ∧ -(2 ^ 62) ≤ j ∧ j < 2 ^ 62 ∧ R (Itr 0 j.toNat) H1) : iRng1 ta σ H R := q
theorem i_Rng2 (q : ta σ H fun vs H1 => ∃ i j : Int, vs = [.int i, .int j] ∧ (-(2 ^ 62) ≤ i ∧ i < 2 ^ 62 ∧ -(2 ^ 62) ≤ j ∧ j < 2 ^ 62) ∧ R (Itr i (j - i).toNat) H1) : iRng2 ta σ H R := q
theorem i_List (q : td σ H fun x H1 => ∃ a, x = .ref a ∧ (∃ xs, SqL K H1 a xs) ∧ R (Itl K a) H1) : iList K td σ H R := q
theorem i_Nk (q : td σ H fun x H1 => ∃ d o xs, x = .ref d ∧ H1 d = some (.frz o (ndO P w d xs)) ∧ R (ItN P w d o xs) H1) : iN P w td σ H R := q
theorem i_Nki (q : td σ H fun x H1 => ∃ d o xs, x = .ref d ∧ H1 d = some (.frz o (ndO P w d xs)) ∧ R (ItNi P w d o xs) H1) : iNi P w td σ H R := q
theorem i_NGet (q : td σ H fun x H1 => te σ H1 fun y H2 => ∃ d a kvs k v, x = .ref d ∧ y = .ref a ∧ NDR P w K H2 d kvs ∧ KyAt K H2 (.ref a) k ∧ valV kvs k = some v ∧ Q v H2) : tNGet P w K td te σ H Q := q
theorem i_NIn (q : te σ H fun y H1 => td σ H1 fun x H2 => ∃ d a kvs k, x = .ref d ∧ y = .ref a ∧ NDR P w K H2 d kvs ∧ KyAt K H2 (.ref a) k ∧ Q (.bl (valV kvs k).isSome) H2) : tNIn P w K te td σ H Q := q
theorem i_NNotIn (q : te σ H fun y H1 => td σ H1 fun x H2 => ∃ d a kvs k, x = .ref d ∧ y = .ref a ∧ NDR P w K H2 d kvs ∧ KyAt K H2 (.ref a) k ∧ Q (.bl (!(valV kvs k).isSome)) H2) : tNNotIn P w K te td σ H Q := q
theorem i_NPut (q : tv σ H fun v H1 => td σ H1 fun x H2 => tk σ H2 fun y H3 => ∃ d a kvs k, x = .ref d ∧ y = .ref a ∧ ND P w K H3 d kvs ∧ KyAt K H3 (.ref a) k ∧ kvs.length < sizeLine ∧
  ∀ H4, ND P w K H4 d (putK kvs k v) → Stp [d] H3 H4 → (∀ (H0 : Hp) M, Stp M H0 H3 → H0 d = none → Stp M H0 H4) → D.nx σ H4) : sNPut P w K td tk tv D σ H := q
end
/-- what is new and is written: an item more -/
theorem Stp.into {M : List Addr} {H0 H1 H2 : Hp} {p : Addr} (s : Stp M H0 H1) (n : H0 p = none) (t : Stp (p :: M) H1 H2) : Stp M H0 H2 :=
  ⟨fun c o h m => t.keep c o (s.keep c o h m) (by
      simp only [List.mem_cons, not_or]
      exact ⟨fun e => (by rw [e, n] at h; cases h), m⟩), fun c xs h => t.tups c xs (s.tups c xs h), fun c ps h => let ⟨qs, e⟩ := t.tbls c ps h; s.tbls c qs e⟩
/-- .. and the other way: the steps before it was made do not count -/
theorem key_num2 (a b : Int) : (Dt.tup [.num a, .num b]).key = .tup [.num a, .num b] := rfl
end GT

/-! ## two such dicts compared -/
namespace GT
open PySem PySem.Spec PyProof.Rows PySem.Calls
section
variable {prog : Program} {w : World} {K : Type} [DecidableEq K] {knd : HeapKind prog w K} {A : Around} {E : Value → Shared → Prop} {s : Shared}
inductive HHits {K : Type} [DecidableEq K] (A : Around) (s : Shared) (kb : List (K × Addr × Value)) : List (K × Addr × Value) → Bool → Prop
  | nil : HHits A s kb [] true
  | miss {k : K} {q : Addr × Value} {r : List (K × Addr × Value)} : (∀ p, (k, p) ∉ kb) → HHits A s kb ((k, q) :: r) false
  | hit {k : K} {q : Addr × Value} {r : List (K × Addr × Value)} {e b : Bool} : (∃ p, (k, p) ∈ kb) → (∀ p, (k, p) ∈ kb → SeqAt.EqAt A s q.2 p.2 e) → HHits A s kb r b → HHits A s kb ((k, q) :: r) (e && b)
theorem HHits.inv {kb : List (K × Addr × Value)} {k : K} {q : Addr × Value} {r : List (K × Addr × Value)} {b : Bool} (h : HHits A s kb ((k, q) :: r) b) :
    ((∀ p, (k, p) ∉ kb) ∧ b = false) ∨ ∃ e b', (∃ p, (k, p) ∈ kb) ∧ (∀ p, (k, p) ∈ kb → SeqAt.EqAt A s q.2 p.2 e) ∧ HHits A s kb r b' ∧ b = (e && b') := by
  cases h with
  | miss hn => exact .inl ⟨hn, rfl⟩
  | hit hy he hr => exact .inr ⟨_, _, hy, he, hr, rfl⟩
theorem h_samePairs {nm : String} {a b : Addr} {ka kb : List (K × Addr × Value)} {r : Bool} {Q : Bool → Shared → Prop} (hu : knd.room A) (ha : (a == sysModules) = false) (hb : (b == sysModules) = false)
    (da : s.heap.DictOfH knd a ka) (db : s.heap.DictOfH knd b kb) (hits : ka.length = kb.length → HHits A s kb ka r) (h : Q (ka.length == kb.length && r) s) :
    wpAny (model prog w) A (Builtin.Dict.samePairs nm a b) Q E s := by
  obtain ⟨oa, es, ep, hoa, _, hda, hka, hia, _⟩ := da
  obtain ⟨ob, es', ep', hob, _, hdb, hkb, hib, hnb⟩ := db
  have hla : ka.length = es.size := (size_of_entries hka).symm
  have hlb : kb.length = es'.size := (size_of_entries hkb).symm
  rw [hla, hlb] at h
  unfold Builtin.Dict.samePairs Builtin.Dict.showsAll
  rw [if_neg (show ¬ (a == sysModules) = true by rw [ha]; exact Bool.false_ne_true), if_neg (show ¬ (b == sysModules) = true by rw [hb]; exact Bool.false_ne_true)]
  refine wpAny_bind (wpAny_pure (wpAny_bind (wpAny_pure ?_)))
  refine wpAny_bind (wpAny_dictEntries hoa hda ?_)
  dsimp only
  refine wpAny_bind (wpAny_dictEntries hob hdb ?_)
  by_cases hsz : es.size = es'.size
  case neg =>
    rw [if_pos (by simpa using hsz)]
    have hbf : (es.size == es'.size) = false := by simpa using hsz
    rw [hbf, Bool.false_and] at h
    exact wpAny_bind (wpAny_rule (wpAny_pure h))
  case pos =>
    have h' : Q r s := by simpa [hsz] using h
    have hits' := hits (by rw [hla, hlb]; exact hsz)
    rw [if_neg (by rw [hsz]; simp)]
    refine wpAny_bind (wpAny_dictEpoch hoa hda ?_)
    refine wpAny_bind ?_
    rw [Std.Legacy.Range.forIn_eq_forIn_range']
    simp only [Std.Legacy.Range.size, Nat.sub_zero, Nat.add_sub_cancel, Nat.div_one]
    refine wpAny_forIn_list _
      (fun rest q s' => s' = s ∧ q = (none, ()) ∧ ∃ i, rest = List.range' i (es.size - i) ∧ i ≤ es.size ∧ HHits A s kb (ka.drop i) r)
      _ ?_ ?_ _ _ ⟨rfl, rfl, 0, by simp, Nat.zero_le _, hits'⟩
    · rintro x rest q s' ⟨rfl, rfl, i, hr, hi, hpre⟩
      have hlt : i < es.size := by
        rcases Nat.lt_or_ge i es.size with h | h
        · exact h
        · rw [Nat.sub_eq_zero_of_le h] at hr; simp at hr
      obtain ⟨rfl, hrest⟩ : x = i ∧ rest = List.range' (i + 1) (es.size - (i + 1)) := by
        have e : es.size - i = (es.size - (i + 1)) + 1 := by omega
        rw [e, List.range'_succ] at hr
        injection hr with h1 h2
        exact ⟨h1, h2⟩
      refine wpAny_bind (wpAny_dictEntries hoa hda ?_)
      have hlt' : x < ka.length := by rw [hla]; exact hlt
      obtain ⟨k, ad, v, hkv⟩ : ∃ k ad v, ka[x] = (k, ad, v) := ⟨_, _, _, rfl⟩
      have hdrop : ka.drop x = (k, ad, v) :: ka.drop (x + 1) := by rw [← hkv]; exact List.drop_eq_getElem_cons hlt'
      have hent : es[x]? = some (entryOfKey knd (k, ad, v)) := by rw [entry_at hka x, List.getElem?_eq_getElem hlt', hkv]; rfl
      have hkey : knd.is s'.heap k ad := by
        have := hia (k, ad, v) (by rw [← hkv]; exact List.getElem_mem hlt')
        exact this
      rw [hent]
      rw [hdrop] at hpre
      show wpAny _ _ (holding [Value.ref ad, v] _ >>= _) _ _ _
      refine wpAny_bind (wpAny_holding (wpAny_bind (wpAny_dictFind_heap hu hkey hob hdb hkb hib hnb (fun hn => ?_) fun j p hj => ?_)))
      · rcases hpre.inv with ⟨_, er⟩ | ⟨_, _, ⟨p, hp⟩, _⟩
        · rw [er] at h'
          refine wpAny_pure ?_
          show wpAny _ _ (if (!false) = true then _ else _) _ _ _
          rw [if_pos (by decide)]
          exact wpAny_pure (wpAny_pure h')
        · obtain ⟨j, hj⟩ := List.getElem?_of_mem hp
          exact absurd hj (hn j p)
      · have hm : (k, p) ∈ kb := List.mem_of_getElem? hj
        refine wpAny_bind (wpAny_dictEntries hob hdb ?_)
        have hent' : es'[j]? = some (entryOfKey knd (k, p)) := by rw [entry_at hkb j, hj]; rfl
        rw [hent']
        rcases hpre.inv with ⟨hn, _⟩ | ⟨e, b', _, he, hrr, er⟩
        · exact absurd hm (hn p)
        · refine wpAny_holding (he p hm prog w _ _ ?_)
          cases e with
          | false =>
            rw [er, Bool.false_and] at h'
            show wpAny _ _ (if (!false) = true then _ else _) _ _ _
            rw [if_pos (by decide)]
            exact wpAny_pure (wpAny_pure h')
          | true =>
            rw [Bool.true_and] at er
            rw [← er] at hrr
            show wpAny _ _ (if (!true) = true then _ else _) _ _ _
            rw [if_neg (by decide)]
            refine wpAny_bind (wpAny_dictEpoch hoa hda ?_)
            rw [if_neg (by simp)]
            exact wpAny_pure ⟨rfl, rfl, x + 1, hrest, hlt, hrr⟩
    · rintro q s' ⟨rfl, rfl, i, hr, hi, hpre⟩
      have hin : i = es.size := by
        rcases Nat.lt_or_ge i es.size with h | h
        · have e : es.size - i = (es.size - (i + 1)) + 1 := by omega
          rw [e, List.range'_succ] at hr; exact nomatch hr
        · exact Nat.le_antisymm hi h
      refine wpAny_pure ?_
      rw [hin, ← hla, List.drop_length] at hpre
      cases hpre
      exact h'
theorem h_eq {a b : Addr} {ka kb : List (K × Addr × Value)} {r : Bool} {Q : Value → Shared → Prop} (hk : knd.room A.in1) (ha : (a == sysModules) = false) (hb : (b == sysModules) = false)
    (da : s.heap.DictOfH knd a ka) (db : s.heap.DictOfH knd b kb) (hu : A.units < cLine) (hits : ka.length = kb.length → HHits A.in1 s kb ka r) (h : Q (.bool (ka.length == kb.length && r)) s) :
    wpAny (model prog w) A (compareOp .Eq (.ref a) (.ref b)) Q E s := by
  refine wpAny_richCompare_same_room (op := .Eq) da.typeIs db.typeIs PySem.F.slot_dict_eq (wpAny_call_entry PySem.F.slot_dict_eq da.typeIs PySem.F.entry_dict_eq ?_ (PySem.F.args_dict_eq_2 _ _)) hu
  show wpAny _ _ (Builtin.Dict.dictSlotArgs "__eq__" ⟨[.ref a, .ref b], []⟩ >>= _) _ _ s
  refine wpAny_bind ?_
  unfold Builtin.Dict.dictSlotArgs
  refine wpAny_bind (wpAny_notOrdered_dict da.typeIs ?_)
  show wpAny _ _ (pure (Value.ref a, Value.ref b)) _ _ s
  refine wpAny_pure ?_
  refine wpAny_bind (wpAny_isInstance (T := "dict") db.typeIs PySem.F.sub_dict_dict ?_)
  simp only [Bool.not_true, Bool.false_eq_true, if_false]
  refine wpAny_bind (wpAny_pure (wpAny_bind (wpAny_pure ?_)))
  refine wpAny_bind (h_samePairs hk ha hb da db hits ?_)
  refine wpAny_pure ⟨_, rfl, ?_, ?_⟩
  · exact fun x => nomatch x
  · simpa using h
theorem h_ne {a b : Addr} {ka kb : List (K × Addr × Value)} {r : Bool} {Q : Value → Shared → Prop} (hk : knd.room A.in1) (ha : (a == sysModules) = false) (hb : (b == sysModules) = false)
    (da : s.heap.DictOfH knd a ka) (db : s.heap.DictOfH knd b kb) (hu : A.units < cLine) (hits : ka.length = kb.length → HHits A.in1 s kb ka r) (h : Q (.bool (!(ka.length == kb.length && r))) s) :
    wpAny (model prog w) A (compareOp .NotEq (.ref a) (.ref b)) Q E s := by
  refine wpAny_richCompare_same_room (op := .NotEq) da.typeIs db.typeIs PySem.F.slot_dict_ne (wpAny_call_entry PySem.F.slot_dict_ne da.typeIs PySem.F.entry_dict_ne ?_ (PySem.F.args_dict_ne_2 _ _)) hu
  show wpAny _ _ (Builtin.Dict.dictSlotArgs "__ne__" ⟨[.ref a, .ref b], []⟩ >>= _) _ _ s
  refine wpAny_bind ?_
  unfold Builtin.Dict.dictSlotArgs
  refine wpAny_bind (wpAny_notOrdered_dict da.typeIs ?_)
  show wpAny _ _ (pure (Value.ref a, Value.ref b)) _ _ s
  refine wpAny_pure ?_
  refine wpAny_bind (wpAny_isInstance (T := "dict") db.typeIs PySem.F.sub_dict_dict ?_)
  simp only [Bool.not_true, Bool.false_eq_true, if_false]
  refine wpAny_bind (wpAny_pure (wpAny_bind (wpAny_pure ?_)))
  refine wpAny_bind (h_samePairs hk ha hb da db hits ?_)
  refine wpAny_pure ⟨_, rfl, ?_, ?_⟩
  · exact fun x => nomatch x
  · simpa using h
end
end GT
namespace GT
open PySem PySem.Spec PyProof.Rows L2
/-! ### entries whose values are data -/
abbrev NKD := NestedKey × Dt
def valD (kd : List NKD) (k : NestedKey) : Option Dt := (kd.find? fun p => decide (p.1 = k)).map (·.2)
/-- == of two such dicts -/
def dEq (ka kb : List NKD) : Bool := ka.length == kb.length && ka.all fun p => match valD kb p.1 with
  | none => false
  | some d => Dt.beq p.2 d
/-- the values at kvs are the data of kd -/
def DD (K : PySem.W.Frag) (H : Hp) : List NKV → List NKD → Prop := Paired fun p q => p.1 = q.1 ∧ DtAt K H p.2 q.2 ∧ q.2.flat = true ∧ q.2.depth ≤ 8
section
variable {K : PySem.W.Frag} {H H1 : Hp} {M : List Addr} {kvs : List NKV} {kd : List NKD}
theorem DD.stp (h : DD K H kvs kd) (s : Stp M H H1) : DD K H1 kvs kd := by
  induction h with
  | nil => exact .nil
  | cons h _ ih => exact .cons ⟨h.1, DtAt.stp s _ _ h.2.2.1 h.2.1, h.2.2⟩ ih
theorem DD.keys (h : DD K H kvs kd) : kvs.map (·.1) = kd.map (·.1) := by
  induction h with
  | nil => rfl
  | cons h _ ih => rw [List.map_cons, List.map_cons, h.1, ih]
theorem DD.len (h : DD K H kvs kd) : kvs.length = kd.length := Paired.length h
theorem DD.val (h : DD K H kvs kd) (k : NestedKey) : (valV kvs k = none ∧ valD kd k = none) ∨ ∃ v d, valV kvs k = some v ∧ valD kd k = some d ∧ DtAt K H v d ∧ d.flat = true ∧ d.depth ≤ 8 := by
  induction h with
  | nil => exact .inl ⟨rfl, rfl⟩
  | @cons p q ps qs h t ih =>
    obtain ⟨h1, h2, h3, h4⟩ := h
    by_cases e : p.1 = k
    · have e' : q.1 = k := h1.symm.trans e
      exact .inr ⟨p.2, q.2, by simp [valV, List.find?_cons, e], by simp [valD, List.find?_cons, e'], h2, h3, h4⟩
    · have e' : ¬ q.1 = k := fun z => e (h1.trans z)
      rw [show valV (p :: ps) k = valV ps k by simp [valV, List.find?_cons, e], show valD (q :: qs) k = valD qs k by simp [valD, List.find?_cons, e']]
      exact ih
def putD (kd : List NKD) (k : NestedKey) (d : Dt) : List NKD :=
  if (kd.any fun p => decide (p.1 = k)) = true then kd.map (fun p => if p.1 = k then (p.1, d) else p) else kd ++ [(k, d)]
theorem DD.put (h : DD K H kvs kd) {k : NestedKey} {v : V} {d : Dt} (hv : DtAt K H v d) (f : d.flat = true) (n : d.depth ≤ 8) : DD K H (putK kvs k v) (putD kd k d) := by
  have e : (kvs.any fun p => decide (p.1 = k)) = kd.any fun p => decide (p.1 = k) := by
    clear hv f n
    induction h with
    | nil => rfl
    | cons h _ ih => rw [List.any_cons, List.any_cons, ih, h.1]
  unfold putK putD
  rw [e]
  split
  · rename_i hs
    clear e hs
    induction h with
    | nil => exact .nil
    | @cons p q ps qs h t ih =>
      rw [List.map_cons, List.map_cons]
      refine .cons ?_ ih
      by_cases c : p.1 = k
      · rw [if_pos c, if_pos (h.1.symm.trans c)]; exact ⟨h.1, hv, f, n⟩
      · rw [if_neg c, if_neg (fun z => c (h.1.trans z))]; exact h
  · exact Paired.snoc h ⟨rfl, hv, f, n⟩
theorem valD_put (kd : List NKD) (k j : NestedKey) (d : Dt) : valD (putD kd k d) j = if j = k then some d else valD kd j := by
  unfold putD
  split
  · rename_i ha
    rw [List.any_eq_true] at ha
    obtain ⟨p, hp, hk⟩ := ha
    simp only [decide_eq_true_eq] at hk
    induction kd with
    | nil => cases hp
    | cons q r ih =>
      by_cases e : q.1 = k
      · rw [List.map_cons, if_pos e]
        by_cases c : j = k
        · rw [if_pos c]; simp [valD, List.find?_cons, e, c]
        · rw [if_neg c]
          have n1 : ¬ q.1 = j := fun z => c (z.symm.trans e)
          rw [show valD ((q.1, d) :: r.map (fun p => if p.1 = k then (p.1, d) else p)) j = valD (r.map (fun p => if p.1 = k then (p.1, d) else p)) j by simp [valD, List.find?_cons, n1], show valD (q :: r) j = valD r j by simp [valD, List.find?_cons, n1]]
          clear ih hp hk
          induction r with
          | nil => rfl
          | cons x r ih2 =>
            rw [List.map_cons]
            by_cases ex : x.1 = k
            · rw [if_pos ex]
              have n2 : ¬ x.1 = j := fun z => c (z.symm.trans ex)
              simpa [valD, List.find?_cons, n2] using ih2
            · rw [if_neg ex]
              by_cases ej : x.1 = j
              · simp [valD, List.find?_cons, ej]
              · simpa [valD, List.find?_cons, ej] using ih2
      · rw [List.map_cons, if_neg e]
        rcases List.mem_cons.mp hp with z | hp
        · rw [z] at hk; exact absurd hk e
        · by_cases ej : q.1 = j
          · have c : ¬ j = k := fun z => e (ej.trans z)
            rw [if_neg c]; simp [valD, List.find?_cons, ej]
          · have := ih hp
            simpa [valD, List.find?_cons, ej] using this
  · rename_i ha
    have hn : ∀ p ∈ kd, ¬ p.1 = k := fun p hp e => ha (by rw [List.any_eq_true]; exact ⟨p, hp, by simp [e]⟩)
    clear ha
    induction kd with
    | nil =>
      by_cases c : j = k
      · rw [if_pos c]; simp [valD, c]
      · rw [if_neg c]
        have : ¬ k = j := fun z => c z.symm
        simp [valD, this]
    | cons q r ih =>
      have ih := ih fun p hp => hn p (List.mem_cons_of_mem _ hp)
      by_cases ej : q.1 = j
      · have c : ¬ j = k := fun z => hn q List.mem_cons_self (ej.trans z)
        rw [if_neg c]; simp [valD, List.find?_cons, ej]
      · simpa [valD, List.find?_cons, ej] using ih
end
theorem valD_mem {kd : List NKD} {k : NestedKey} {d : Dt} (h : valD kd k = some d) : (k, d) ∈ kd := by
  unfold valD at h
  obtain ⟨p, hp, rfl⟩ := Option.map_eq_some_iff.mp h
  have h2 := List.find?_some hp
  simp only [decide_eq_true_eq] at h2
  rw [← h2]; exact List.mem_of_find?_eq_some hp
theorem valD_of {kd : List NKD} {k : NestedKey} {d : Dt} (n : (kd.map (·.1)).Nodup) (h : (k, d) ∈ kd) : valD kd k = some d := by
  induction kd with
  | nil => cases h
  | cons p r ih =>
    rw [List.map_cons, List.nodup_cons] at n
    rcases List.mem_cons.mp h with e | h
    · subst e; simp [valD, List.find?_cons]
    · have : p.1 ≠ k := fun e => n.1 (List.mem_map.mpr ⟨_, h, e.symm⟩)
      rw [show valD (p :: r) k = valD r k by simp [valD, List.find?_cons, this]]
      exact ih n.2 h
theorem len_sub {κ : Type} [DecidableEq κ] : ∀ (a b : List κ), a.Nodup → a ⊆ b → a.length ≤ b.length
  | [], _, _, _ => Nat.zero_le _
  | x :: r, b, n, h => by
    rw [List.nodup_cons] at n
    have hx : x ∈ b := h List.mem_cons_self
    have ih := len_sub r (b.erase x) n.2 fun y hy => by
      have ne : y ≠ x := fun e => n.1 (e ▸ hy)
      exact (List.mem_erase_of_ne ne).mpr (h (List.mem_cons_of_mem _ hy))
    have l := List.length_erase_of_mem hx
    have p : 0 < b.length := List.length_pos_of_mem hx
    rw [List.length_cons]
    omega
/-- == tells whether each key has the same value -/
theorem dEq_iff {ka kb : List NKD} (na : (ka.map (·.1)).Nodup) (nb : (kb.map (·.1)).Nodup) (pa : ∀ p ∈ ka, p.2.pure = true) (pb : ∀ p ∈ kb, p.2.pure = true) : dEq ka kb = true ↔ ∀ k, valD ka k = valD kb k := by
  unfold dEq
  rw [Bool.and_eq_true, List.all_eq_true, beq_iff_eq]
  constructor
  · rintro ⟨hl, h⟩
    have sub : ∀ p ∈ ka, valD kb p.1 = some p.2 := fun p hp => by
      have := h p hp
      cases q : valD kb p.1 with
      | none => rw [q] at this; exact absurd this (by simp)
      | some d =>
        rw [q] at this
        rw [Dt.eq_of_beq _ _ (pa p hp) (pb _ (valD_mem q)) this]
    -- keys of ka are those of kb
    have s1 : (ka.map (·.1)) ⊆ (kb.map (·.1)) := fun k hk => by
      obtain ⟨p, hp, rfl⟩ := List.mem_map.mp hk
      exact List.mem_map.mpr ⟨_, valD_mem (sub p hp), rfl⟩
    intro k
    cases q : valD ka k with
    | some d => exact (sub _ (valD_mem q)).symm
    | none =>
      cases r : valD kb k with
      | none => rfl
      | some d =>
        have hk : k ∈ kb.map (·.1) := List.mem_map.mpr ⟨_, valD_mem r, rfl⟩
        by_cases hka : k ∈ ka.map (·.1)
        · obtain ⟨p, hp, rfl⟩ := List.mem_map.mp hka
          rw [valD_of na hp] at q
          cases q
        · have := len_sub (k :: ka.map (·.1)) (kb.map (·.1)) (List.nodup_cons.mpr ⟨hka, na⟩) fun y hy => by
            rcases List.mem_cons.mp hy with e | e
            · rw [e]; exact hk
            · exact s1 e
          simp at this
          omega
  · intro h
    have sub : ∀ {x y : List NKD}, (x.map (·.1)).Nodup → (∀ k, valD x k = valD y k) → (x.map (·.1)) ⊆ (y.map (·.1)) := fun nx hxy k hk => by
      obtain ⟨p, hp, rfl⟩ := List.mem_map.mp hk
      have := hxy p.1
      rw [valD_of nx hp] at this
      exact List.mem_map.mpr ⟨_, valD_mem this.symm, rfl⟩
    refine ⟨?_, fun p hp => ?_⟩
    · have l1 := len_sub _ _ na (sub na h)
      have l2 := len_sub _ _ nb (sub nb fun k => (h k).symm)
      simp at l1 l2
      omega
    · rw [← h p.1, valD_of na hp]
      exact Dt.beq_self _
end GT

namespace GT
open PySem PySem.Spec PyProof.Rows L2
abbrev YD (h : Heap) : List (NestedKey × Addr × Value) → List NKD → Prop := Paired fun y q => y.1 = q.1 ∧ DtIs h q.2 y.2.2 ∧ q.2.depth ≤ 8
section
variable {X : Cx} {pins : List (Addr × Obj)} {σ : L2.St} {H : Hp} {s : Shared}
theorem yd_of (I : Inv X pins σ H s) : ∀ {xs : List (NestedKey × Addr × V)} {ys : List (NestedKey × Addr × Value)} {da : List NKD}, NdRel xs ys → DD X.K H (plainX xs) da → YD s.heap ys da := by
  intro xs ys da r
  induction r generalizing da with
  | nil =>
    intro d
    have d' : DD X.K H [] da := d
    cases d'
    exact .nil
  | @cons p q ps qs h t ih =>
    intro d
    have d' : DD X.K H ((p.1, p.2.2) :: plainX ps) da := d
    cases d' with
    | cons e et => exact .cons ⟨h.1.symm.trans e.1, DtAt.is I _ _ _ e.2.1 h.2.2, e.2.2.2⟩ (ih et)
theorem YD.keys {h : Heap} {ys : List (NestedKey × Addr × Value)} {da : List NKD} (r : YD h ys da) : ys.map (·.1) = da.map (·.1) := by
  induction r with
  | nil => rfl
  | cons h _ ih => rw [List.map_cons, List.map_cons, h.1, ih]
theorem YD.len {h : Heap} {ys : List (NestedKey × Addr × Value)} {da : List NKD} (r : YD h ys da) : ys.length = da.length := Paired.length r
theorem YD.at {h : Heap} {ys : List (NestedKey × Addr × Value)} {da : List NKD} (r : YD h ys da) {k : NestedKey} {p : Addr × Value} (m : (k, p) ∈ ys) : ∃ d, (k, d) ∈ da ∧ DtIs h d p.2 ∧ d.depth ≤ 8 := by
  induction r with
  | nil => cases m
  | @cons y q _ _ e _ ih =>
    rcases List.mem_cons.mp m with z | m
    · subst z
      obtain ⟨k', d'⟩ := q
      obtain ⟨rfl, e2, e3⟩ := e
      exact ⟨_, List.mem_cons_self, e2, e3⟩
    · obtain ⟨d, hd, x⟩ := ih m
      exact ⟨d, List.mem_cons_of_mem _ hd, x⟩
theorem YD.hits {A : Around} {yb : List (NestedKey × Addr × Value)} {db : List NKD} (hu : A.units + 32 < cLine) (rb : YD s.heap yb db) (nb : (db.map (·.1)).Nodup) {ya : List (NestedKey × Addr × Value)} {da : List NKD} (r : YD s.heap ya da) :
    HHits A s yb ya (da.all fun p => match valD db p.1 with
      | none => false
      | some d => Dt.beq p.2 d) := by
  induction r with
  | nil => exact .nil
  | @cons y q _ _ e _ ih =>
    obtain ⟨k, a, u⟩ := y
    obtain ⟨k', d⟩ := q
    obtain ⟨e1, e2, e3⟩ := e
    obtain rfl : k = k' := e1
    rw [List.all_cons]
    cases hv : valD db k with
    | none =>
      simp only [hv, Bool.false_and]
      refine .miss fun p hp => ?_
      obtain ⟨d', hd, _⟩ := rb.at hp
      rw [valD_of nb hd] at hv
      cases hv
    | some d2 =>
      simp only [hv]
      refine .hit ?_ (fun p hp => ?_) ih
      · have hm : k ∈ yb.map (·.1) := by rw [rb.keys]; exact List.mem_map.mpr ⟨_, valD_mem hv, rfl⟩
        obtain ⟨⟨k2, p⟩, hp, ek⟩ := List.mem_map.mp hm
        obtain rfl : k2 = k := ek
        exact ⟨p, hp⟩
      · obtain ⟨d', hd, h1, h2⟩ := rb.at hp
        rw [valD_of nb hd] at hv
        cases hv
        exact eqAt_dt d _ A s u p.2 e2 h1 (by omega)
end
section
variable {P : Program} {w : World} {K : PySem.W.Frag} {X : Cx}
def rEqN (P : Program) (w : World) (K : PySem.W.Frag) : R2 := fun x y H Q => ∃ a b ka kb da db, x = .ref a ∧ y = .ref b ∧ NDR P w K H a ka ∧ NDR P w K H b kb ∧ DD K H ka da ∧ DD K H kb db ∧
  ((da.map (·.1)).Nodup → (db.map (·.1)).Nodup → Q (.bl (dEq da db)) H)
def rNeN (P : Program) (w : World) (K : PySem.W.Frag) : R2 := fun x y H Q => ∃ a b ka kb da db, x = .ref a ∧ y = .ref b ∧ NDR P w K H a ka ∧ NDR P w K H b kb ∧ DD K H ka da ∧ DD K H kb db ∧
  ((da.map (·.1)).Nodup → (db.map (·.1)).Nodup → Q (.bl (!dEq da db)) H)
theorem DictOfH.nd {h : Heap} {P : Program} {w : World} {d : Addr} {ys : List (NestedKey × Addr × Value)} (x : h.DictOfH (nestedKind P w) d ys) : (ys.map (·.1)).Nodup := by
  obtain ⟨_, _, _, _, _, _, _, _, n⟩ := x
  exact n
theorem op_eqN (eP : X.prog = P) (ew : X.w = w) (eK : X.K = K) (hu : X.A.units + 64 < cLine) : OpR X (compareOp .Eq) (rEqN P w K) := by
  subst eP; subst ew; subst eK
  intro pins s σ H x y v u Q I rx ry h
  obtain ⟨a, b, ka, kb, da, db, rfl, rfl, ⟨xa, ea, ksa, rfl⟩, ⟨xb, eb, ksb, rfl⟩, dda, ddb, q⟩ := h
  obtain rfl : v = Value.ref a := rx
  obtain rfl : u = Value.ref b := ry
  obtain ⟨_, ha, ya, ra, oa⟩ := nd_raw I ea ksa
  obtain ⟨_, hb, yb, rb, ob⟩ := nd_raw I eb ksb
  have ja := yd_of I ra dda
  have jb := yd_of I rb ddb
  have na : (da.map (·.1)).Nodup := by rw [← ja.keys]; exact DictOfH.nd oa
  have nb : (db.map (·.1)).Nodup := by rw [← jb.keys]; exact DictOfH.nd ob
  have hu1 : X.A.in1.units = X.A.units + 1 := Around.in1_units ..
  refine h_eq (knd := nestedKind X.prog X.w) (show X.A.in1.units + 8 < cLine by omega) ha hb oa ob (by omega) (fun _ => YD.hits (by omega) jb nb ja) ?_
  refine ⟨.bl _, H, I, rfl, ?_⟩
  rw [ja.len, jb.len]
  exact q na nb
theorem op_neN (eP : X.prog = P) (ew : X.w = w) (eK : X.K = K) (hu : X.A.units + 64 < cLine) : OpR X (compareOp .NotEq) (rNeN P w K) := by
  subst eP; subst ew; subst eK
  intro pins s σ H x y v u Q I rx ry h
  obtain ⟨a, b, ka, kb, da, db, rfl, rfl, ⟨xa, ea, ksa, rfl⟩, ⟨xb, eb, ksb, rfl⟩, dda, ddb, q⟩ := h
  obtain rfl : v = Value.ref a := rx
  obtain rfl : u = Value.ref b := ry
  obtain ⟨_, ha, ya, ra, oa⟩ := nd_raw I ea ksa
  obtain ⟨_, hb, yb, rb, ob⟩ := nd_raw I eb ksb
  have ja := yd_of I ra dda
  have jb := yd_of I rb ddb
  have na : (da.map (·.1)).Nodup := by rw [← ja.keys]; exact DictOfH.nd oa
  have nb : (db.map (·.1)).Nodup := by rw [← jb.keys]; exact DictOfH.nd ob
  have hu1 : X.A.in1.units = X.A.units + 1 := Around.in1_units ..
  refine h_ne (knd := nestedKind X.prog X.w) (show X.A.in1.units + 8 < cLine by omega) ha hb oa ob (by omega) (fun _ => YD.hits (by omega) jb nb ja) ?_
  refine ⟨.bl _, H, I, rfl, ?_⟩
  rw [ja.len, jb.len]
  exact q na nb
end
end GT

/-! ## methods and makers -/
namespace GT
open PySem PySem.Spec PyProof.Rows L2
def Dfm (K : PySem.W.Frag) (C : Addr) (d : He.DefD) : Prop := ∃ (f : Addr) (fd : FuncData), FunD K d.name d.qual d.params d.body d.scope [] [] f fd ∧ Meth K C d.name f
def Dfi (K : PySem.W.Frag) (mg : Str → Option Value) (C : Addr) (x : Str) (d : He.DefD) : Prop := ∃ (f : Addr) (fd : FuncData), FunD K d.name d.qual d.params d.body d.scope [] [] f fd ∧ (Mk K C f ∧ mg x = some (.ref C))
def Mth (P : Program) (w : World) (K : PySem.W.Frag) (mg : Str → Option Value) (base : Heap) (k : Nat) (C : Addr) (m : Str) (ps : List Str) (sp : Sp) : Prop :=
  ∃ (f : Addr) (fd : FuncData), FnOk P w K mg base CX0 k f fd ps sp ∧ Meth K C m f ∧ PySem.W.keepIn K (.ref f) = true ∧ Binds K fd ps []
def Mki (P : Program) (w : World) (K : PySem.W.Frag) (mg : Str → Option Value) (base : Heap) (k : Nat) (C : Addr) (x : Str) (ps : List Str) (sp : Sp) : Prop :=
  ∃ (f : Addr) (fd : FuncData), FnOk P w K mg base CX0 k f fd ps sp ∧ (Mk K C f ∧ mg x = some (.ref C)) ∧ PySem.W.keepIn K (.ref f) = true ∧ Binds K fd ps []
section
variable {X : Cx} {o e : Expr} {es : List Expr} {t : TA} {ta : TE} {x m : Str} {p pos apos : Pos} {ps : List Str} {sp : Sp} {k : Nat} {C : Addr}
theorem pc_meth {pl : Sem Bool} (he : PE X o ta) (c : Cls X.K C) (M : Mth X.prog X.w X.K X.mg X.base k C m ps sp) (hr : Room k X.A) (ha : PA X (e :: es) t)
    (hst : starEach (e :: es) X.env = (false, eval e X.env) :: starEach es X.env := by rfl) (hpl : (backTo pos (starEach es X.env)).any (·.1) = false := by rfl)
    (ht : eval (.Call (.Attribute o m apos) (e :: es) [] pos) X.env = (do
      let ov ← eval o X.env
      standAt apos.atName
      let (f, first) ← holding [ov] (getMethod ov m pl)
      callWith pos f first (backTo pos (starEach (e :: es) X.env)) (backToKw pos (keywordEach [] X.env))) := by rfl) :
    PE X (.Call (.Attribute o m apos) (e :: es) [] pos) (tMeth C m sp [] E0 ta t) := by
  obtain ⟨f, fd, F, hm, hk, hb⟩ := M
  exact pe_meth he c hm F hr hb .nil pass0 ha hst hpl ht
theorem pc_meth0 {pl : Sem Bool} (he : PE X o ta) (c : Cls X.K C) (M : Mth X.prog X.w X.K X.mg X.base k C m ps sp) (hr : Room k X.A)
    (ht : eval (.Call (.Attribute o m apos) [] [] pos) X.env = (do
      let ov ← eval o X.env
      standAt apos.atName
      let (f, first) ← holding [ov] (getMethod ov m pl)
      callWith pos f first (backTo pos (starEach [] X.env)) (backToKw pos (keywordEach [] X.env))) := by rfl) :
    PE X (.Call (.Attribute o m apos) [] [] pos) (tMeth C m sp [] E0 ta tNil) := by
  obtain ⟨f, fd, F, hm, hk, hb⟩ := M
  exact pe_meth0 he c hm F hr hb .nil pass0 ht
theorem pc_make0 (M : Mki X.prog X.w X.K X.mg X.base k C x ps sp) (hr : Room (k + 1) X.A) (hg : Gl X x) (hdb : (x == ("__debug__" : Str)) = false := by decide) : PE X (.Call (.Name x p) [] [] pos) (tMake C sp [] E0 tNil) := by
  obtain ⟨f, fd, F, ⟨hm, hx⟩, hk, hb⟩ := M
  exact pe_make0 hm F hr hg hx hb .nil pass0 hdb
theorem pc_make (M : Mki X.prog X.w X.K X.mg X.base k C x ps sp) (hr : Room (k + 1) X.A) (hg : Gl X x) (ha : PA X (e :: es) t) (hdb : (x == ("__debug__" : Str)) = false := by decide)
    (he : starEach (e :: es) X.env = (false, eval e X.env) :: starEach es X.env := by rfl) (hpl : (backTo pos (starEach es X.env)).any (·.1) = false := by rfl) : PE X (.Call (.Name x p) (e :: es) [] pos) (tMake C sp [] E0 t) := by
  obtain ⟨f, fd, F, ⟨hm, hx⟩, hk, hb⟩ := M
  exact pe_make hm F hr hg hx hb .nil pass0 ha hdb he hpl
end
section
variable {σ : L2.St} {H : Hp} {Q : VK} {ta tv : TE} {t : TA} {K : PySem.W.Frag} {C : Addr} {m f : Str} {sp : Sp} {dvs : List V} {E : XK} {D : Ends}
theorem i_Meth (q : ta σ H fun x H1 => ∃ a dx fs, x = .ref a ∧ H1 a = some (.ins C dx fs) ∧ fs.lookup m = none ∧ t σ H1 fun vs H2 => sp (x :: (vs ++ dvs)) H2 Q E) : tMeth C m sp dvs E ta t σ H Q := q
theorem i_Make (q : t σ H fun vs H1 => ∀ x dx, H1 x = none → H1 dx = none → dx ≠ x → sp (.ref x :: (vs ++ dvs)) (upd (upd H1 dx (.own x)) x (.ins C dx [])) (fun v H2 => v = .non ∧ Q (.ref x) H2) E) : tMake C sp dvs E t σ H Q := q
theorem i_Fld (q : ta σ H fun x H1 => ∃ a C dx fs v, x = .ref a ∧ H1 a = some (.ins C dx fs) ∧ Cls K C ∧ NoAttr K C f ∧ fs.lookup f = some v ∧ Q v H1) : tFld K ta f σ H Q := q
theorem i_sFld (q : tv σ H fun y H1 => ta σ H1 fun x H2 => ∃ a C dx fs, x = .ref a ∧ H2 a = some (.ins C dx fs) ∧ Cls K C ∧ NoAttr K C f ∧ fs.length < 1000 ∧ D.nx σ (upd H2 a (.ins C dx (putF f y fs)))) : sFld K ta tv f D σ H := q
end
/-! ### stamps, pairs of numbers in order -/
def ltP2 (a b : Int × Int) : Bool := decide (a.1 < b.1 ∨ (a.1 = b.1 ∧ a.2 < b.2))
theorem ltP2_eq (a b : Int × Int) : PySem.W.dataLt (Dt.tup [.num a.1, .num a.2]).py (Dt.tup [.num b.1, .num b.2]).py = ltP2 a b := PySem.W.dataLt_ii a.1 a.2 b.1 b.2
theorem al2 (a b : Int × Int) : PySem.W.alike (Dt.tup [.num a.1, .num a.2]).py (Dt.tup [.num b.1, .num b.2]).py = true := rfl
theorem i_LtP {K : PySem.W.Frag} {H : Hp} {Q : VK} {x y : V} {a b : Int × Int} (hx : DtAt K H x (.tup [.num a.1, .num a.2])) (hy : DtAt K H y (.tup [.num b.1, .num b.2])) (q : Q (.bl (ltP2 a b)) H) : rLtO K x y H Q :=
  ⟨_, _, ⟨hx, hy, rfl, rfl, rfl, by simp [Dt.py], by simp [Dt.depth, Dt.depthAll]⟩, by rw [ltP2_eq]; exact q⟩
theorem i_GtP {K : PySem.W.Frag} {H : Hp} {Q : VK} {x y : V} {a b : Int × Int} (hx : DtAt K H x (.tup [.num a.1, .num a.2])) (hy : DtAt K H y (.tup [.num b.1, .num b.2])) (q : Q (.bl (ltP2 b a)) H) : rGtO K x y H Q :=
  ⟨_, _, ⟨hx, hy, rfl, rfl, rfl, by simp [Dt.py], by simp [Dt.depth, Dt.depthAll]⟩, by rw [ltP2_eq]; exact q⟩
end GT

/-! ## sorted, max of data -/
namespace GT
open PySem PySem.Spec PyProof.Rows L2 PySem.W
section
variable {X : Cx} {K : PySem.W.Frag} {H : Hp}
theorem Dt.flat_mem : ∀ {ds : List Dt} {d : Dt}, Dt.flatAll ds = true → d ∈ ds → d.flat = true
  | _ :: _, _, f, e => by
    simp only [Dt.flatAll, Bool.and_eq_true] at f
    rcases List.mem_cons.mp e with e | e
    · subst e; exact f.1
    · exact Dt.flat_mem f.2 e
theorem dts_each {pins : List (Addr × Obj)} {σ : L2.St} {s : Shared} (I : Inv X pins σ H s) : ∀ {xs : List V} {us : List Value} {ds : List Dt}, Vals xs us → DtsAt X.K H xs ds → EachIs (fun (u : Value) (d : Dt) => ∃ x, RelV x u ∧ DtAt X.K H x d) us ds
  | _, _, _, .nil, h => by cases h; exact .nil
  | _, _, _, .cons r rs, h => by
    cases h with
    | cons h1 h2 => exact .cons ⟨_, r, h1⟩ (dts_each I rs h2)
theorem each_dts : ∀ {us : List Value} {ds : List Dt}, EachIs (fun (u : Value) (d : Dt) => ∃ x, RelV x u ∧ DtAt K H x d) us ds → ∃ xs, Vals xs us ∧ DtsAt K H xs ds
  | _, _, .nil => ⟨[], .nil, .nil⟩
  | _, _, .cons ⟨x, r, h⟩ t => by
    obtain ⟨xs, h1, h2⟩ := each_dts t
    exact ⟨x :: xs, .cons r h1, .cons h h2⟩
def leD (d e : Dt) : Bool := dataLe false Dt.py d e
def rSortedD (K : PySem.W.Frag) : List V → Hp → VK → Prop := fun vs H Q => ∃ (a : Addr) (xs : List V) (ds : List Dt), vs = [.ref a] ∧ SqL K H a xs ∧ DtsAt K H xs ds ∧ Dt.flatAll ds = true ∧ Dt.depthAll ds ≤ 8 ∧ AllAlike (ds.map Dt.py) ∧ Sortable (ds.map Dt.py) ∧
  ∀ (p : Addr) (ys : List V), H p = none → DtsAt K H ys (ds.mergeSort leD) → Q (.ref p) (upd H p (.lst ys))
theorem cr_sortedD (hu : X.A.units + 64 < cLine) : CallR X (.builtin "sorted") (rSortedD X.K) := by
  intro pins s σ H vs us Q I r h
  obtain ⟨a, xs, ds, rfl, hs, hd, hf, hdp, hal, hsk, q⟩ := h
  obtain rfl := Vals.ref1 r
  obtain ⟨its, rv, hl, hz⟩ := I.list hs
  have e := dts_each I rv hd
  have er : EachIs (fun v d => ∃ as, Reads s.heap v (Dt.py d) as) its ds := (each_mem e).mono fun u d ⟨⟨x, rx, hx⟩, hm⟩ => ⟨[], DtIs.reads d u (Dt.flat_mem hf hm) (DtAt.is I d x u hx rx)⟩
  have ln : xs.length = ds.length := hd.length
  refine sorted_data hl.isList e er hal hsk (by rw [← ln]; exact hz) (fun d hm => ?_) fun out ho hR => ?_
  · have h1 := Dt.depth_mem hm
    have h2 := Dt.py_depth d
    omega
  · obtain ⟨ys, vy, dy⟩ := each_dts hR
    obtain ⟨ep, he'⟩ := sortedAll_at s.heap its out.toArray
    have hlen : ys.length ≤ sizeLine := by
      have h1 := vy.length
      have : ys.length = out.length := h1
      rw [this, ho, ← ln]; exact hz
    exact ⟨.ref _, upd H (s.heap.objs.size + 1) (.lst ys), I.laid (t' := s.toks) (fun _ _ => sortedAll_old) (Nat.le_succ _) ⟨hlen, out, ep, vy, he'⟩, rfl, q _ ys (I.hok.fresh (Nat.le_succ _)) dy⟩
end
end GT
namespace GT
open PySem PySem.Spec PyProof.Rows L2 PySem.W
section
variable {X : Cx}
theorem each_at {α β : Type} {R : α → β → Prop} : ∀ {us : List α} {ds : List β} {i : Nat} {u : α}, EachIs R us ds → us[i]? = some u → ∃ d, ds[i]? = some d ∧ R u d
  | _, _, _, _, .nil, e => by simp at e
  | _, _, 0, _, .cons r _, e => by simp at e; subst e; exact ⟨_, rfl, r⟩
  | _, _, i + 1, _, .cons _ t, e => by
    obtain ⟨d, h1, h2⟩ := each_at (i := i) t (by simpa using e)
    exact ⟨d, by simpa using h1, h2⟩
theorem maxD_mem : ∀ (xs : List PyData) (x : PyData), maxD x xs ∈ x :: xs
  | [], x => by simp [maxD]
  | y :: ys, x => by
    have e : maxD x (y :: ys) = maxD (if dataLt x y then y else x) ys := rfl
    rw [e]
    have h := maxD_mem ys (if dataLt x y then y else x)
    rcases List.mem_cons.mp h with z | z
    · rw [z]; split <;> simp
    · simp [z]
/-- max(xs, default=None): the data of xs are alike; what is greatest, as it stands -/
def rMaxN (K : PySem.W.Frag) : List V → List V → Hp → VK → Prop := fun vs zs H Q => ∃ (a : Addr) (xs : List V) (ds : List Dt), vs = [.ref a] ∧ zs = [.non] ∧ SqL K H a xs ∧ DtsAt K H xs ds ∧ Dt.flatAll ds = true ∧ Dt.depthAll ds ≤ 8 ∧ AllAlike (ds.map Dt.py) ∧ (∀ d ∈ ds, d.py ≠ .none) ∧
  (ds = [] → Q .non H) ∧ ∀ (d : Dt) (es : List Dt) (x : Dt) (v : V), ds = d :: es → x ∈ ds → x.py = maxD d.py (es.map Dt.py) → DtAt K H v x → Q v H
theorem cr_maxN (hc : X.calm = true) (hu : X.A.units + 64 < cLine) : CallRK X (.builtin "max") [Str.ofString "default"] (rMaxN X.K) := by
  intro pins s σ H vs zs us ws Q I r rz h
  obtain ⟨a, xs, ds, rfl, rfl, hs, hd, hf, hdp, hal, hnn, q0, q1⟩ := h
  obtain rfl := Vals.ref1 r
  obtain ⟨w1, rfl, e1⟩ := vals1 rz
  obtain rfl : w1 = Value.none := e1
  obtain ⟨its, rv, hl, hz⟩ := I.list hs
  have hr : ReadsAll s.heap its (Dt.pys ds) [] := DtAll.reads ds its hf (DtsAt.is I ds xs its hd rv)
  have hr' : ReadsAll s.heap (its.toArray).toList (ds.map Dt.py) [] := by rw [← Dt.pys_map]; simpa using hr
  have ha : AlikeAll (ds.map Dt.py) := ⟨fun x hx y hy => hal x hx y hy, fun x hx => by
    obtain ⟨d, hd, rfl⟩ := List.mem_map.mp hx
    exact hnn d hd⟩
  have hdep : PyData.depthAll (ds.map Dt.py) ≤ 8 := by rw [← Dt.pys_map, Dt.pys_depth]; exact hdp
  refine max_list_default (I.ok.hd hc) hl.isList hr' ha (by omega) (fun hnil h' tk k => ?_) fun y ys i v h' tk bs hx hv hR k => ?_
  · exact ⟨.non, H, I.kept k, rfl, q0 (by simpa using hnil)⟩
  · have hv' : its[i]? = some v := by simpa using hv
    obtain ⟨d, hdi, x, rx, hx2⟩ := each_at (dts_each I rv hd) hv'
    have hdm := List.mem_of_getElem? hdi
    have hrd := PyProof.Rows.Reads.keeps k (DtIs.reads d v (Dt.flat_mem hf hdm) (DtAt.is I d x v hx2 rx))
    have hmm : maxD y ys ∈ ds.map Dt.py := by rw [hx]; exact maxD_mem ys y
    have heq : d.py = maxD y ys := alike_unique _ _ v _ _ (hal _ (List.mem_map.mpr ⟨d, hdm, rfl⟩) _ hmm) hrd hR
    cases ds with
    | nil => cases hx
    | cons d0 es =>
      rw [List.map_cons] at hx
      injection hx with h1 h2
      refine ⟨x, H, I.kept k, rx, q1 d0 es d x rfl hdm (by rw [heq, ← h1, ← h2]) hx2⟩
end
end GT

/-! ## a lambda of one parameter, a tuple: (x[0], x[1], x[2]) -/
namespace GT
open PySem PySem.Spec PyProof.Rows L2
section
variable {prog : Program} {w : World} {A : Around} {E : Value → Shared → Prop} {s : Shared} {env : Env}
theorem raw_ix {x : Str} {p p2 pos : Pos} {kd : Nat} {k : Nat} {t : Addr} {items : Array Value} {v : Value} {m : Str → Option Value} {Q : Value → Shared → Prop} (hk : env.scope.kind = .function) (hl : env.kindOf x = some .local) (hn : s.heap.Ns env.locals m) (hm : m x = some (.ref t)) (ht : IsTup s.heap t items) (hv : items[k]? = some v) (h9 : k < 9)
    (q : Q v { s with toks := s.toks + 1 }) (hd : (x == ("__debug__" : Str)) = false) : wpAny (model prog w) A (eval (.Subscript (.Name x p) (.Constant (.int (k : Int)) kd p2) pos) env) Q E s := by
  have hlt : k < items.size := (Array.getElem?_eq_some_iff.mp hv).1
  refine subD_of (T := "tuple") slot_tuple_getitem.lookup (fun _ _ => rfl) (wpAny_Name (wpAny_loadName_local hk hl hn hm (wpAny_Constant_int ⟨ht.typeIs, ?_⟩)) hd)
  refine getItem_tuple (j := k) ht (by omega) (by omega) ?_ hv q
  unfold seqIndex?
  rw [if_neg (show ¬ (k : Int) < 0 by omega)]
  have h1 : (0 : Int) ≤ (k : Int) := by omega
  have h2 : (k : Int) < (items.size : Int) := by omega
  simp only [h1, h2, decide_true, Bool.and_true, if_true]
  simp
theorem raw_key3 {x : Str} {p0 p1 p2 q0 q1 q2 r0 r1 r2 pos : Pos} {d0 d1 d2 kd : Nat} {t : Addr} {items : Array Value} {v0 v1 v2 : Value} {m : Str → Option Value} {Q : Value → Shared → Prop} (hk : env.scope.kind = .function) (hl : env.kindOf x = some .local) (hn : s.heap.Ns env.locals m) (hm : m x = some (.ref t)) (ht : IsTup s.heap t items)
    (h0 : items[0]? = some v0) (h1 : items[1]? = some v1) (h2 : items[2]? = some v2) (hd : (x == ("__debug__" : Str)) = false)
    (q : Q (.ref s.heap.objs.size) { s with heap := s.heap.push { cls := .type "tuple", data := .seq #[v0, v1, v2] }, toks := s.toks + 3 }) :
    wpAny (model prog w) A (eval (.Tuple [.Subscript (.Name x p0) (.Constant (.int (0 : Int)) d0 q0) r0, .Subscript (.Name x p1) (.Constant (.int (1 : Int)) d1 q1) r1, .Subscript (.Name x p2) (.Constant (.int (2 : Int)) d2 q2) r2] kd pos) env) Q E s := by
  refine wpAny_Tuple ?_
  refine spliced_more (raw_ix (k := 0) hk hl hn hm ht h0 (by decide) ?_ hd)
  refine spliced_more (raw_ix (k := 1) hk hl hn hm ht h1 (by decide) ?_ hd)
  refine spliced_more (raw_ix (k := 2) hk hl hn hm ht h2 (by decide) ?_ hd)
  exact spliced_none ⟨by show 3 ≤ sizeLine; decide, q⟩
/-- the call of such a lambda -/
theorem lam_key3 {f c' t : Addr} {qual x : Str} {params : Arguments} {scope : Scope} {pm ctv : Value} {p0 p1 p2 q0 q1 q2 r0 r1 r2 pos : Pos} {d0 d1 d2 kd : Nat} {items : Array Value} {v0 v1 v2 : Value}
    (of : s.heap.get? f = some (PySem.W.kla_obj "<lambda>" qual params (.Tuple [.Subscript (.Name x p0) (.Constant (.int (0 : Int)) d0 q0) r0, .Subscript (.Name x p1) (.Constant (.int (1 : Int)) d1 q1) r1, .Subscript (.Name x p2) (.Constant (.int (2 : Int)) d2 q2) r2] kd pos) scope [] pm c' ctv))
    (rc : s.heap.CodeRec (.ref c') qual) (nl : s.heap.NoLimit) (room : A.depth < recursionLimit)
    (hbind : bindArgs (PySem.W.kla_fn "<lambda>" qual params (.Tuple [.Subscript (.Name x p0) (.Constant (.int (0 : Int)) d0 q0) r0, .Subscript (.Name x p1) (.Constant (.int (1 : Int)) d1 q1) r1, .Subscript (.Name x p2) (.Constant (.int (2 : Int)) d2 q2) r2] kd pos) scope [] pm (.ref c') ctv) ⟨[.ref t], []⟩ = pure [(x, .ref t)])
    (hk : scope.kind = .function) (co : scope.isCoroutine = false) (gen : scope.isGenerator = false) (hc : ∀ y ∈ scope.names, y.2 ≠ .cell) (hx : scope.names.lookup x = some .local) (hd : (x == ("__debug__" : Str)) = false)
    (ht : IsTup s.heap t items) (h0 : items[0]? = some v0) (h1 : items[1]? = some v1) (h2 : items[2]? = some v2) :
    wpAny (model prog w) A (call (.ref f) [.ref t]) (fun v s' => ∃ h' tk b, s' = { s with heap := h', toks := tk } ∧ (∀ b o, s.heap.get? b = some o → h'.get? b = some o) ∧ v = .ref b ∧ h'.get? b = some { cls := .type "tuple", data := .seq #[v0, v1, v2] }) (fun _ _ => False) s := by
  refine wpAny_call (codeAny_mono (R := fun r s' => ∃ v, r = .ok (.ret v) ∧ ∃ h' tk b, s' = { s with heap := h', toks := tk } ∧ (∀ b o, s.heap.get? b = some o → h'.get? b = some o) ∧ v = .ref b ∧ h'.get? b = some { cls := .type "tuple", data := .seq #[v0, v1, v2] }) ?_ fun r s' h => ?_)
  · refine PySem.W.kla_callFunE room of rfl co gen rfl rc ?_
    rw [hbind]
    refine wpAny_pure (wpAny_newFunctionEnv hc (fun y hy => ?_) (fun h₁ hns hsb => ⟨nl.fresh _ hsb, ?_⟩) hk)
    · rw [List.mem_singleton.mp hy]; exact hx
    · have kp : ∀ b o, s.heap.get? b = some o → h₁.get? b = some o := fun b o e => hsb.extBut b o (Nat.ne_of_lt (Heap.lt_size e)) (Heap.get?_push_of_some _ e)
      have ht1 : IsTup h₁ t items := let ⟨o, e, r⟩ := ht; ⟨o, kp _ _ e, r⟩
      refine PySem.W.kla_codeExpr (raw_key3 (items := items) hk ?_ hns ?_ ht1 h0 h1 h2 hd ?_)
      · first | exact hx | (show scope.names.lookup x = some .local; exact hx) | simpa [Env.kindOf] using hx
      · first | (simp; done) | (show List.lookup x [(x, Value.ref t)] = _; simp [List.lookup])
      · exact ⟨_, rfl, _, _, _, rfl, fun b o e => Heap.get?_push_of_some _ (kp b o e), rfl, Heap.get?_push_size _ rfl⟩
  · obtain ⟨v, rfl, h⟩ := h
    exact h
end
end GT
/-! ## sorted(d, key=f): the keys of a dict -/
namespace GT
open PySem PySem.Spec PySem.Calls PyProof.Rows L2 PySem.W
section
variable {prog : Program} {w : World} {A : Around} {E : Value → Shared → Prop} {s : Shared} {β : Type} {bs : List β} {R : Value → β → Prop}
theorem each_of_items {P : Nat → Value → Prop} {acc : Array Value} (it : ItemsOf P acc bs.length) (h : ∀ (i : Nat) (v : Value) (b : β), P i v → bs[i]? = some b → R v b) : EachIs R acc.toList bs := by
  obtain ⟨hn, hp⟩ := it
  refine EachIs.of_zip (by rw [Array.length_toList]; exact hn) fun p hm => ?_
  obtain ⟨i, hi⟩ := List.getElem?_of_mem hm
  rw [List.getElem?_zip_eq_some] at hi
  refine h i p.1 p.2 (hp i p.1 ?_) hi.2
  rw [← Array.getElem?_toList]; exact hi.1
theorem raw_sorted_dict {d q : Addr} {es : Array DictEntry} {ep : Nat} {Q : Value → Shared → Prop} (k : β → PyData) (lo : (d == sysModules) = false) (hm : s.heap.DictRaw d es ep) (hh : A.handled = none) (hn : es.size ≤ sizeLine) (hes : es.size = bs.length)
    (hit : ∀ (i : Nat) (b : β) (hi : i < es.size), bs[i]? = some b → R es[i].key b) (hal : AllAlike (bs.map k)) (hk : Sortable (bs.map k)) (hu : ∀ x, x ∈ bs → A.units + 2 + (k x).depth < cLine)
    (turn : ∀ (v : Value) (x : β), R v x → x ∈ bs → ∀ (h : Heap) (tk : Nat), (∀ b o, s.heap.get? b = some o → h.get? b = some o) →
      wpAny (model prog w) A.in1.in1 (call (.ref q) [v]) (KeyPure (k x) { s with heap := h, toks := tk }) (fun _ _ => False) { s with heap := h, toks := tk })
    (h : ∀ (out : List Value) (c : Nat) (h1 h' : Heap) (tk : Nat) (a : Addr), (∀ b o, s.heap.get? b = some o → h1.get? b = some o) → (∀ b o, h1.get? b = some o → h'.get? b = some o) → h1.objs.size ≤ a → h'.get? a = some (seqObj "list" (List.toArray out) c) → out.length = bs.length → EachIs R out (bs.mergeSort (dataLe false k)) →
      Q (.ref a) { s with heap := h', toks := tk }) :
    wpAny (model prog w) A (call (.builtin "sorted") [.ref d] [(Str.ofString "key", .ref q)]) Q E s := by
  refine call_function_entry_kw kind_sorted plain_sorted entry_sorted (ksk_s1 _ _) ?_
  unfold Builtin.«sorted»
  refine wpAny_bind (m := checkCount "sorted" 1 1 _) (wpAny_pure ?_)
  refine wpAny_bind (kdu_collect (A := A.in1) (KdlSrc.rawDict lo) hh hm hn fun h1 tk1 acc hk1 hacc => ?_)
  have he : EachIs R acc.toList bs := each_of_items (P := fun i v => ∃ hi : i < es.size, v = es[i].key) ⟨hacc.1.trans hes, hacc.2⟩ fun i v b ⟨hi, e⟩ hb => by rw [e]; exact hit i b hi hb
  have hl : acc.toList.length = bs.length := he.length
  have hz : acc.toList.length ≤ sizeLine := by rw [hl, ← hes]; exact hn
  refine wpAny_bind (wpAny_newList ?_ hz)
  have ho : (h1.push { cls := .type "list", data := .seq acc.toList.toArray }).get? h1.objs.size = some (seqObj "list" acc.toList.toArray 0) := Heap.get?_push_size _ rfl
  refine wpAny_bind (wpAny_holding (wpAny_call_entry_kw slot_list_sort ⟨_, ho, rfl⟩ entry_list_sort ?body (ksk_l1 _ _)))
  case body =>
    rw [ksk_t1]
    refine wpAny_mono (keyH_tree (A := A.in1.in1) (E := fun _ _ => False) (P := fun f s' => ∃ out c h' tk, f = .done (.ret .none) ∧ s' = { s with heap := h', toks := tk } ∧ (∀ b o, h1.get? b = some o → h'.get? b = some o) ∧ h'.get? h1.objs.size = some (seqObj "list" (List.toArray out) c) ∧ out.length = bs.length ∧ EachIs R out (bs.mergeSort (dataLe false k)))
      (kz := bs.map k) (s := { s with heap := h1.push { cls := .type "list", data := .seq acc.toList.toArray }, toks := tk1 }) ho (by rw [List.length_map]; exact hl.symm) hz hal hk (bound_map (A := A.in1.in1) hu)
      (keyH_turns (s := { s with heap := h1.push { cls := .type "list", data := .seq acc.toList.toArray }, toks := tk1 }) he fun v x hR hx h tk kp => turn v x hR hx h tk fun b o e => kp b o (Nat.ne_of_lt (Heap.lt_size (hk1 b o e))) (Heap.get?_push_of_some _ (hk1 b o e)))
      fun h' tk out c kp hD ko => ⟨out, c, h', tk, rfl, rfl, fun b o e => kp b o (Nat.ne_of_lt (Heap.lt_size e)) (Heap.get?_push_of_some _ e), hD, (ko.length (by rw [List.length_map]; exact hl.symm)).trans hl, keyedOut_each k ko he⟩) (fun f s' hf => ?_) fun _ _ e => e.elim
    obtain ⟨out, c, h', tk, rfl, rfl, hkp, hD, ho2, hR2⟩ := hf
    exact ⟨_, rfl, wpAny_pure ⟨_, rfl, h out c h1 h' tk _ hk1 hkp (Nat.le_refl _) hD ho2 hR2⟩⟩
end
end GT

/-! ## rules with K told (for the blocks of comprehensions) -/
namespace GT
open PySem PySem.Spec PyProof.Rows L2
section
variable {X : Cx} {K : PySem.W.Frag}
theorem ix_tupK (e : X.K = K) : IxR X (rIxT K) := by subst e; exact ix_tup
theorem ix_listK (e : X.K = K) : IxR X (rIxL K) := by subst e; exact ix_list
theorem op_eqTK (e : X.K = K) (hu : X.A.units + 64 < cLine) : OpR X (compareOp .Eq) (rEqT K) := by subst e; exact op_eqT hu
theorem op_neTK (e : X.K = K) (hu : X.A.units + 64 < cLine) : OpR X (compareOp .NotEq) (rNeT K) := by subst e; exact op_neT hu
theorem op_inTK (e : X.K = K) (hu : X.A.units + 64 < cLine) : OpR X (compareOp .In) (rInT K) := by subst e; exact op_inT hu
theorem op_notInTK (e : X.K = K) (hu : X.A.units + 64 < cLine) : OpR X (compareOp .NotIn) (rNotInT K) := by subst e; exact op_notInT hu
theorem op_ltOK (e : X.K = K) (hu : X.A.units + 64 < cLine) : OpR X (compareOp .Lt) (rLtO K) := by subst e; exact op_ltO hu
theorem op_gtOK (e : X.K = K) (hu : X.A.units + 64 < cLine) : OpR X (compareOp .Gt) (rGtO K) := by subst e; exact op_gtO hu
theorem pe_fldK {e : Expr} {ta : TE} {f : Str} {pos : Pos} (eK : X.K = K) (he : PE X e ta) (hb : attributeBase e f X.env (eval e X.env) = eval e X.env) : PE X (.Attribute e f pos) (tFld K ta f) := by subst eK; exact pe_fld he hb
end
end GT

/-! ## a lambda made: what its making changes, told exactly -/
namespace GT
open PySem PySem.Spec PyProof.Rows L2 LamX
section
variable {X : Cx} {pins : List (Addr × Obj)} {σ : L2.St} {H : Hp} {s : Shared}
theorem codeO_tbl {c : Addr} {q : Str} : ∀ ps, CodeO c q ≠ .tbl ps := fun ps => codeO_ne ps
/-- the table at P: its code objects, of the name q, are among L -/
structure Tab (H : Hp) (P : Addr) (q : Str) (L : List Addr) : Prop where
  ex : ∃ ps : Array Value, H P = some (.tbl ps) ∧ TriplesOk ps.toList ∧ ∀ (pos : Pos) (cv : Value), codeAmong pos ps.toList = some cv → ∃ c ∈ L, cv = .ref c
  codes : ∀ c ∈ L, H c = some (CodeO c q)
theorem Tab.nil {H : Hp} {P : Addr} {q : Str} (h : H P = some (.tbl #[])) : Tab H P q [] := ⟨⟨#[], h, True.intro, fun pos cv hc => by
  have z : codeAmong pos [] = some cv := hc
  simp [codeAmong] at z⟩, fun c hc => nomatch hc⟩
theorem Tab.stp {H H1 : Hp} {P : Addr} {q : Str} {L M : List Addr} (t : Tab H P q L) (s : Stp M H H1) (nP : P ∉ M) (nL : ∀ c ∈ L, c ∉ M) : Tab H1 P q L :=
  ⟨let ⟨ps, h, r⟩ := t.ex; ⟨ps, s.keep _ _ h nP, r⟩, fun c hc => s.keep _ _ (t.codes c hc) (nL c hc)⟩
theorem Tab.grow {H H1 : Hp} {P : Addr} {q : Str} {L : List Addr} (t : Tab H P q L) (s : Stp [] H H1) : Tab H1 P q L := t.stp s (by simp) (fun _ _ => by simp)
theorem Tab.there {H : Hp} {P : Addr} {q : Str} {L : List Addr} (t : Tab H P q L) : ∃ ps, H P = some (.tbl ps) := let ⟨ps, h, _⟩ := t.ex; ⟨ps, h⟩
/-- the table with one code object more -/
theorem tab_more {P c : Addr} {q : Str} {ps : Array Value} {pos : Pos} {L : List Addr} (hP : H P = some (.tbl ps)) (ht : TriplesOk ps.toList) (ha : ∀ p' cv, codeAmong p' ps.toList = some cv → ∃ c ∈ L, cv = .ref c) (hL : ∀ c ∈ L, H c = some (CodeO c q)) (nC : H c = none) :
    Tab (upd (upd H P (.tbl (ps ++ #[rawInt pos.line, rawInt pos.col, .ref c]))) c (CodeO c q)) P q (c :: L) ∧ Stp [P] H (upd (upd H P (.tbl (ps ++ #[rawInt pos.line, rawInt pos.col, .ref c]))) c (CodeO c q)) := by
  have nPc : P ≠ c := ne_of_none hP nC
  have at_ : ∀ b, b ≠ P → b ≠ c → upd (upd H P (.tbl (ps ++ #[rawInt pos.line, rawInt pos.col, .ref c]))) c (CodeO c q) b = H b := fun b h1 h2 => by rw [upd_ne h2, upd_ne h1]
  refine ⟨⟨⟨_, by rw [upd_ne nPc, upd_same], ?_, fun p' cv hcv => ?_⟩, fun c0 h0 => ?_⟩, ⟨fun b o e n => ?_, fun b xs e => ?_, fun b qs e => ?_⟩⟩
  · rw [Array.toList_append]; exact PySem.TriplesOk_snoc _ _ _ _ ht
  · rw [Array.toList_append] at hcv
    rcases among_app _ ht hcv with z | z
    · obtain ⟨c0, e1, e2⟩ := ha p' cv z
      exact ⟨c0, List.mem_cons_of_mem _ e1, e2⟩
    · exact ⟨c, List.mem_cons_self, z⟩
  · rcases List.mem_cons.mp h0 with z | z
    · rw [z]; exact upd_same
    · have e2 := hL c0 z
      have h1 : c0 ≠ P := fun z => by rw [z, hP] at e2; exact codeO_tbl _ (Option.some.inj e2).symm
      rw [at_ c0 h1 (ne_of_none e2 nC)]; exact e2
  · rw [at_ b (fun z => n (by rw [z]; simp)) (ne_of_none e nC)]; exact e
  · have h1 : b ≠ P := fun z => by rw [z, hP] at e; cases e
    rw [at_ b h1 (ne_of_none e nC)]; exact e
  · by_cases h1 : b = P
    · exact ⟨ps, by rw [h1]; exact hP⟩
    · by_cases h2 : b = c
      · rw [h2, upd_same] at e; exact absurd (Option.some.inj e) (codeO_tbl _)
      · rw [at_ b h1 h2] at e; exact ⟨qs, e⟩
/-- the function object at f stands as it was made -/
def LamO (f : Addr) (ob : Obj) : HO := .ext fun h => h.get? f = some ob
theorem lamO_ok {P : Program} {w : World} {H : Hp} {h : Heap} {f : Addr} {ob : Obj} (e : h.get? f = some ob) : ObjOk P w H h f (LamO f ob) := ⟨e, ⟨ob, e⟩, fun _ _ y k => k _ y⟩
theorem lamO_tbl {f : Addr} {ob : Obj} : ∀ ps, LamO f ob ≠ .tbl ps := fun _ z => nomatch z
/-- the evaluation of a lambda that captures nothing -/
def tLam (P : Addr) (q : Str) (params : Arguments) (body : Expr) (scope : Scope) (clo : List (Str × Addr)) : TE := fun _ H Q => ∃ L, Tab H P q L ∧ ∀ (f c' : Addr) (pm ctv : Value) (H1 : Hp) (L1 : List Addr), Tab H1 P q L1 → (∀ c ∈ L1, c ∈ L ∨ H c = none) → Stp [P] H H1 → H1 c' = some (CodeO c' q) → H f = none →
  H1 f = some (LamO f (PySem.W.kla_obj "<lambda>" q params body scope clo pm c' ctv)) → Q (.ref f) H1
theorem pe_lam {c P : Addr} {params : Arguments} {body : Expr} {scope : Scope} {pos : Pos} (TB : TabB X.base X.mg c P) (hcode : X.env.code = .ref c) (hdef : defaultsOf params X.env = ([], [])) (hfree : ∀ y ∈ scope.names, y.2 ≠ .free) :
    PE X (.Lambda params body scope pos) (tLam P (X.env.qual ++ "<lambda>") params body scope (cloFrom X.env.cells scope.names [])) := by
  refine ⟨fun pins s σ H Q I hh => ?_⟩
  obtain ⟨L, hT, h⟩ := hh
  have hT0 := hT
  obtain ⟨⟨ps, hP, ht, ha⟩, hL⟩ := hT
  have hP' : s.heap.get? P = some { cls := .none, data := .fields ps } := I.hok P _ hP
  have clo := closure_ok (env := X.env) (scope := scope) fun y hy e => absurd e (hfree y hy)
  have bP : s.heap.BuiltinsAt X.mg P := TB.bm.keeps I.bk
  refine PySem.W.kla_eval hdef ?_
  cases hc : codeAmong pos ps.toList with
  | some cv =>
    obtain ⟨c', hcL, rfl⟩ := ha pos cv hc
    have hco := hL c' hcL
    refine PySem.W.kla_makeFunctionHit (mg := X.mg) (c := c) (P := P) (ps := ps) clo I.ok.glob (I.mod.glob.keeps I.bk) hcode (TB.code.keeps I.bk) hP' ht hc bP fun ctv h' tk hx hsz => ?_
    have nf : H h'.objs.size = none := I.hok.fresh hsz
    have st : Stp [] H (upd H h'.objs.size (LamO h'.objs.size (PySem.W.kla_obj "<lambda>" (X.env.qual ++ "<lambda>") params body scope (cloFrom X.env.cells scope.names []) ((X.mg "__name__").getD .none) c' ctv))) := .new nf lamO_tbl
    exact ⟨.ref _, _, I.laid (t' := tk) (fun b o e => Heap.get?_push_of_some _ (hx b o e)) hsz (lamO_ok (Heap.get?_push_size _ rfl)), rfl, h _ c' _ ctv _ L (hT0.grow st) (fun c hc => .inl hc) (st.mono (by simp)) (st.keep _ _ hco (by simp)) nf upd_same⟩
  | none =>
    refine PySem.W.kla_makeFunction (mg := X.mg) (c := c) (P := P) (ps := ps) clo I.ok.glob (I.mod.glob.keeps I.bk) hcode (TB.code.keeps I.bk) hP' ht hc TB.gP bP fun c' ctv h' tk hx hge hlt hrec htb => ?_
    obtain ⟨c2, oc, vs, t, e2, hoc, hd, hv⟩ := hrec
    cases e2
    have nC : H c' = none := I.hok.fresh hge
    obtain ⟨t1, st1⟩ := tab_more (pos := pos) hP ht ha hL nC
    have I1 := inv_table (t' := tk) (more := #[rawInt pos.line, rawInt pos.col, .ref c']) (q := X.env.qual ++ "<lambda>") (h' := h') I hP hx htb hge ⟨oc, vs, t, hoc, hd, hv⟩
    have nf : H h'.objs.size = none := I.hok.fresh (Nat.le_trans hge (Nat.le_of_lt hlt))
    have nf1 := I1.hok.fresh (Nat.le_refl _)
    have st2 : Stp [] _ (upd _ h'.objs.size (LamO h'.objs.size (PySem.W.kla_obj "<lambda>" (X.env.qual ++ "<lambda>") params body scope (cloFrom X.env.cells scope.names []) ((X.mg "__name__").getD .none) c' ctv))) := Stp.new nf1 lamO_tbl
    have co1 := t1.codes c' List.mem_cons_self
    exact ⟨.ref _, _, I1.laid (t' := tk) (a := h'.objs.size) (o := LamO h'.objs.size (PySem.W.kla_obj "<lambda>" (X.env.qual ++ "<lambda>") params body scope (cloFrom X.env.cells scope.names []) ((X.mg "__name__").getD .none) c' ctv)) (fun b o e => Heap.get?_push_of_some _ e) (Nat.le_refl _) (lamO_ok (Heap.get?_push_size _ rfl)), rfl,
      h _ c' _ ctv _ (c' :: L) (t1.grow st2) (fun c hc => (List.mem_cons.mp hc).elim (fun z => .inr (by rw [z]; exact nC)) .inl) (st1.trans (st2.mono (by simp))) (st2.keep _ _ co1 (by simp)) nf upd_same⟩
end
end GT

/-! ## dict comprehensions whose keys are tuples -/
namespace GT
open PySem PySem.Spec PyProof.Rows L2
section
variable {X : Cx} {pins : List (Addr × Obj)} {σ : L2.St} {H : Hp} {s : Shared}
/-- one entry stored by a comprehension -/
theorem nd_store {E : Value → Shared → Prop} {Q : Unit → Shared → Prop} {D a : Addr} {k : NestedKey} {kvs : List NKV} {v : V} {u ku : Value} (hu : X.A.units + 9 < cLine) (I : Inv X pins σ H s) (g : ND X.prog X.w X.K H D kvs) (hk : KyAt X.K H (.ref a) k) (hl : kvs.length < sizeLine)
    (rk : RelV (.ref a) ku) (rv : RelV v u) (h : ∀ s' H', Inv X pins σ H' s' → ND X.prog X.w X.K H' D (putK kvs k v) → Stp [D] H H' → Q () s') : wpAny (model X.prog X.w) X.A (dictSet D ku u) Q E s := by
  obtain ⟨xs, e, ks, rfl⟩ := g
  obtain rfl : ku = Value.ref a := rk
  obtain ⟨z, hd, ys, rel, dd⟩ := nd_raw I (.inl e) ks
  rw [plainX_len] at hl
  have l1 : ys.length ≤ sizeLine := by rw [← Paired.length rel]; exact z
  have l2 : (putX xs k a v).length ≤ sizeLine := by have := putX_len xs k a v; omega
  have st : Stp [D] H (upd H D (ndO X.prog X.w D (putX xs k a v))) := .wr (by simp) e fun _ z => nomatch z
  refine wpAny_dictSet_heap (hsz := l1) (show X.A.units + 8 < cLine by omega) (hk.is I) dd fun h' dd' hs => h _ (upd H D (ndO X.prog X.w D (putX xs k a v))) ?_ ⟨_, upd_same, (ks.put hk).stp st, plainX_put xs k a v⟩ st
  obtain ⟨q, es, ep, hq, h2, h3, h4, _, h5⟩ := dd'
  exact d_write I (by rw [e]; exact True.intro) hs ⟨q, hq⟩ (ndO_ok ⟨l2, hd, _, rel.put k rv, q, es, ep, hq, h2, h3, h4, h5⟩)
/-- {k: v for target in iter if ..}: D the new dict -/
def tDn (P : Program) (w : World) (K : PySem.W.Frag) (wi : TI) (g : TG) (tt : TT) (tk tv : TE) (vs : List Nat) : TE := fun σ H Q => wi σ H fun J H1 => ∀ D H2, H1 D = none → ND P w K H2 D [] → Stp [] H1 H2 → ∃ W : Nat → Nat → Hp → Prop, (∃ m, W 0 m H2) ∧ ∀ i m H, W i m H →
  (J.stop i H ∧ Q (.ref D) H) ∨ (J.go i H ∧ ∃ Nx : Hp → Prop, (∀ H', Nx H' → ∃ m', m' < m ∧ W (i + 1) m' H') ∧ ∀ x H', J.yld i H x H' → g x (wipe σ vs) H' fun σ2 H2 => wipe σ2 vs = wipe σ vs ∧ tt σ2 H2 fun b H3 =>
    if b = true then tk σ2 H3 fun y H4 => tv σ2 H4 fun z H5 => ∃ a kvs k, y = .ref a ∧ ND P w K H5 D kvs ∧ KyAt K H5 (.ref a) k ∧ kvs.length < sizeLine ∧ ∀ H6, ND P w K H6 D (putK kvs k z) → Stp [D] H5 H6 → Nx H6 else Nx H3)
/-- what the block is made of, whatever frame it runs in -/
structure DcB (X : Cx) (scope : Scope) (tg : Expr) (ifs : List Expr) (kx vx : Expr) (g : TG) (tt : TT) (tk tv : TE) : Prop where
  tgt : ∀ (s : Shared) (H : Hp) (C : Addr) (cl : List (Str × Addr)) (fp : List Addr), PG (X.blk s H scope (compEnvC scope cl C X.env) fp) tg g
  tst : ∀ (s : Shared) (H : Hp) (C : Addr) (cl : List (Str × Addr)) (fp : List Addr), PTs (X.blk s H scope (compEnvC scope cl C X.env) fp) ifs tt
  key : ∀ (s : Shared) (H : Hp) (C : Addr) (cl : List (Str × Addr)) (fp : List Addr), PE (X.blk s H scope (compEnvC scope cl C X.env) fp) kx tk
  val : ∀ (s : Shared) (H : Hp) (C : Addr) (cl : List (Str × Addr)) (fp : List Addr), PE (X.blk s H scope (compEnvC scope cl C X.env) fp) vx tv
theorem dn_core {kx vx tg iter : Expr} {ifs : List Expr} {scope : Scope} {own : List (Str × Nat)} {pos pos' : Pos} {wi : TI} {g : TG} {tt : TT} {tk tv : TE} {Q : VK} {use : Option (Value → Sem Unit)} {Qf : Value → Shared → Prop} (hu : X.A.units + 9 < cLine) (hc : X.calm = true) (hN : X.N.Nodup) (I : Inv X pins σ H s) (hi : PI X tg iter wi)
    (ok : BlkOk X.N X.env.scope scope own) (B : DcB X scope tg ifs kx vx g tt tk tv) (fold : ∀ x, foldedSetIterable iter X.env x = pure x) (hq : tDn X.prog X.w X.K wi g tt tk tv (own.map (·.2)) σ H Q)
    (back : ∀ (D C : Addr) (s' : Shared) (m : Str → Option Value) (H' : Hp), Inv X pins σ H' s' → Q (.ref D) H' → s'.heap.Ns C m → FpOk X pins H' C → compPost (model X.prog X.w) X.A X.xe use Qf (.ref D) C (.ok .next) s') :
    wpAny (model X.prog X.w) X.A (comprehension (.DictComp kx vx [⟨tg, iter, ifs, 0⟩] scope pos) scope X.env pos' newDict false (eval iter X.env) use) Qf X.xe s := by
  have captured : ∀ y ∈ scope.names, y.2 = .free → ∃ c, X.env.cells.lookup y.1 = some c := fun y hy e =>
    (ok.free y hy e).elim (fun z => I.ok.has _ (.inl z)) fun z => I.ok.has _ (.inr z)
  refine wpAny_comprehension_free (use := use) rfl fold (closure_ok captured) ok.kind (fun y hy e => by rw [ok.uniq y hy, e]) (thn (hi.run pins s σ H _ I hq) fun _ s1 w1 => thn w1 fun _ s2 w2 => ?_)
  obtain ⟨it, fp, tn, J, H2, rfl, I2, T, t2, f2, body⟩ := w2
  refine wpAny_newObj_type (newEnv_comp ?_)
  -- the new dict at D
  generalize hD : s2.heap.objs.size = D
  have freeD : H2 D = none := I2.hok.fresh (Nat.le_of_eq hD)
  have got : (s2.heap.push { cls := .type "dict", data := .dict #[] }).get? D = some { cls := .type "dict", data := .dict #[] } := by
    rw [← hD]
    exact Heap.get?_push_size _ rfl
  generalize hs3 : ({ s2 with heap := s2.heap.push { cls := .type "dict", data := .dict #[] } } : Shared) = s3
  have hp3 : s3.heap = s2.heap.push { cls := .type "dict", data := .dict #[] } := by rw [← hs3]
  obtain ⟨H3, hH3⟩ : ∃ H3 : Hp, upd H2 D (ndO X.prog X.w D []) = H3 := ⟨_, rfl⟩
  have at3 : H3 D = some (ndO X.prog X.w D []) := by rw [← hH3]; exact upd_same
  have stp3 : Stp [] H2 H3 := by rw [← hH3]; exact .new freeD
  have I3 : Inv X pins σ H3 s3 := by
    rw [← hs3, ← hH3]
    refine I2.laid (a := D) (o := ndO X.prog X.w D []) (t' := s2.toks) (fun b o e => Heap.get?_push_of_some _ e) (Nat.le_of_eq hD) (ndO_ok ⟨Nat.zero_le _, beq_eq_false_iff_ne.mpr (Ne.symm (Nat.ne_of_lt (by rw [← hD]; exact I2.big))), [], .nil, _, #[], 0, got, ⟨rfl, rfl, rfl⟩, rfl, rfl, List.nodup_nil⟩)
  obtain ⟨W, ⟨m0, w0⟩, turn⟩ := body D H3 freeD ⟨[], at3, fun _ z => (nomatch z), rfl⟩ stp3
  have below : ∀ b ∈ fp, b < s2.heap.objs.size := fun b hb => by
    obtain ⟨o, e, _⟩ := T.obj _ _ t2 b hb
    exact Heap.lt_size e
  have f3 : ∀ b ∈ fp, FpOk X pins H3 b ∧ b < s3.heap.objs.size := fun b hb => by
    have lt := below b hb
    refine ⟨⟨?_, (f2 b hb).2⟩, by rw [hp3, Heap.size_push]; exact Nat.lt_succ_of_lt lt⟩
    rw [← hH3, upd_ne (by rw [← hD]; exact Nat.ne_of_lt lt)]
    exact (f2 b hb).1
  have t3 : tn 0 s3.heap := T.keep _ _ _ t2 fun b _ o e => by rw [hp3]; exact Heap.get?_push_of_some _ e
  have J4 := block_start I3 ok hN f3
  have kt := B.tgt s3 H3 s3.heap.objs.size (cellsFrom (s3.heap.objs.size + 1) scope.names (cloFrom X.env.cells scope.names [])) fp
  have kf := B.tst s3 H3 s3.heap.objs.size (cellsFrom (s3.heap.objs.size + 1) scope.names (cloFrom X.env.cells scope.names [])) fp
  have kk := B.key s3 H3 s3.heap.objs.size (cellsFrom (s3.heap.objs.size + 1) scope.names (cloFrom X.env.cells scope.names [])) fp
  have kv := B.val s3 H3 s3.heap.objs.size (cellsFrom (s3.heap.objs.size + 1) scope.names (cloFrom X.env.cells scope.names [])) fp
  have away : ∀ b ∈ fp, H3 b = none := fun b hb => (f3 b hb).1.1
  show codeAny _ _ (.compStart (.DictComp kx vx [⟨tg, iter, ifs, 0⟩] scope pos) 0 (.ref it) (.ref D) (compEnvC scope (cellsFrom (s3.heap.objs.size + 1) scope.names (cloFrom X.env.cells scope.names [])) s3.heap.objs.size X.env)) (compPost (model X.prog X.w) X.A X.xe use Qf (.ref D) s3.heap.objs.size) { s3 with heap := pushCells (s3.heap.push { cls := .type "dict", data := .dict #[] }) scope.names }
  generalize hce : compEnvC scope (cellsFrom (s3.heap.objs.size + 1) scope.names (cloFrom X.env.cells scope.names [])) s3.heap.objs.size X.env = ce at J4 kt kf kk kv ⊢
  have locals_ : ce.locals = s3.heap.objs.size := by rw [← hce]; rfl
  generalize hs4 : ({ s3 with heap := pushCells (s3.heap.push { cls := .type "dict", data := .dict #[] }) scope.names } : Shared) = s4 at J4 ⊢
  have t4 : tn 0 s4.heap := T.keep _ _ _ t3 fun b _ o e => by rw [← hs4]; exact pushCells_keeps _ _ _ _ (Heap.get?_push_of_some _ e)
  -- the iterator's objects are nobody's
  have calmF : ∀ {σ' : L2.St} {H' : Hp} {s' : Shared}, Inv (X.blk s3 H3 scope ce fp) [] σ' H' s' → (∀ b ∈ fp, H' b = none) → ∀ b ∈ fp, FpOk (X.blk s3 H3 scope ce fp) [] H' b := fun {σ' H' s'} I' hn b hb =>
    ⟨hn b hb, (I'.ok.exf b hb).1, I'.ok.exfs b hb, .inl hb, fun x c e => (I'.ok.exf b hb).2 x c e, fun p hp => absurd (show p ∈ ([] : List (Addr × Obj)) ++ [] from hp) (by simp)⟩
  suffices loop : codeAny (model X.prog X.w) X.A (.compLoop (.DictComp kx vx [⟨tg, iter, ifs, 0⟩] scope pos) 0 (.ref it) (.ref D) ce) (compPost (model X.prog X.w) X.A X.xe use Qf (.ref D) s3.heap.objs.size) s4 from
    codeAny_compStart_dict loop (T.self X.A 0 _ _ _ t4 loop)
  refine compLoop_anyD (fun n s' => ∃ i H', Inv (X.blk s3 H3 scope ce fp) [] (wipe σ (own.map (·.2))) H' s' ∧ tn i s'.heap ∧ (∀ b ∈ fp, H' b = none) ∧ W i n H') ?_ m0 ⟨0, H3, J4, t4, away, w0⟩
  rintro n s5 ⟨i, H5, J5, t5, n5, w5⟩
  rcases turn i n H5 w5 with ⟨stop, told⟩ | ⟨go, Nx, less, step⟩
  · refine thnF (T.done (X.blk s3 H3 scope ce fp) rfl rfl rfl hc i [] s5 _ H5 (fun _ _ => False) J5 (calmF J5 n5) t5 stop) fun r s6 ⟨hr6, J6⟩ => ?_
    subst hr6
    have I7 : Inv X pins σ H5 s6 := I3.call' (ch := fp) J6.os J6.base J6.hok J6.bare fun b hb => let f := (f3 b hb).1; ⟨f.2.2.2.1, f.2.1, f.2.2.2.2.1, f.2.2.2.2.2⟩
    have noC : H5 s3.heap.objs.size = none := by
      have z : H5 ce.locals = none := J6.free
      rwa [locals_] at z
    obtain ⟨m, hn, _⟩ := J6.loc
    have hn : s6.heap.Ns ce.locals m := hn
    rw [locals_] at hn
    exact back D _ s6 m H5 I7 told hn (I3.fpOk (Nat.le_refl _) noC)
  · refine thnF (T.item (X.blk s3 H3 scope ce fp) rfl rfl rfl hc i [] s5 _ H5 (fun _ _ => False) J5 (calmF J5 n5) t5 go) fun r s6 ⟨u, hr6, h6⟩ => ?_
    subst hr6
    refine thnF h6 fun _ s7 ⟨x, H7, J7, r7, y7, t7, n7⟩ => ?_
    have P7 := J7.pinned (calmF J7 n7) (T.obj _ _ t7)
    refine thnF (kt.run _ s7 _ H7 x u _ P7 r7 (step x H7 y7)) fun _ s8 ⟨σ8, H8, J8, hw, q8⟩ => thnF (kf.run _ s8 σ8 H8 _ J8 q8) fun b s9 ⟨H9, J9, q9⟩ => ?_
    -- behind a turn
    have next : ∀ {s' : Shared} {H' : Hp}, Inv (X.blk s3 H3 scope ce fp) ([] ++ pinsAt fp s7.heap) σ8 H' s' → Nx H' → ∃ m, m < n ∧ ∃ i H', Inv (X.blk s3 H3 scope ce fp) [] (wipe σ (own.map (·.2))) H' s' ∧ tn i s'.heap ∧ (∀ b ∈ fp, H' b = none) ∧ W i m H' := fun {s' H'} J' nx => by
      obtain ⟨m', lt, w'⟩ := less H' nx
      have stay : ∀ b ∈ fp, ∀ o, s7.heap.get? b = some o → s'.heap.get? b = some o ∧ H' b = none := fun b hb o e =>
        let z := J'.pin (b, o) (List.mem_append_right _ (List.mem_append_right _ (mem_pinsAt hb e)))
        ⟨z.1, z.2.1⟩
      refine ⟨m', lt, i + 1, H', (J'.unpinned (pins := [])).weak (by rw [← hw, wipe_length]) (fun j v e => ?_), T.keep _ _ _ t7 fun b hb o e => (stay b hb o e).1, fun b hb => ?_, w'⟩
      · rw [← hw] at e
        exact (wipe_some e).1
      · obtain ⟨o, e, _⟩ := T.obj _ _ t7 b hb
        exact (stay b hb o e).2
    cases b with
    | false => exact next J9 q9
    | true =>
      refine thnF (kk.run _ s9 σ8 H9 _ J9 q9) fun ku s10 ⟨y, H10, J10, r10, q10⟩ => thnF (kv.run _ s10 σ8 H10 _ J10 q10) fun vu s11 ⟨z, H11, J11, r11, a, kvs, k, ey, g11, k11, l11, nx⟩ => ?_
      subst ey
      exact nd_store (X := X.blk s3 H3 scope ce fp) hu J11 g11 k11 l11 r10 r11 fun s12 H12 J12 g12 st12 => next J12 (nx H12 g12 st12)
section
variable {kx vx tg iter : Expr} {ifs : List Expr} {scope : Scope} {own : List (Str × Nat)} {pos spos : Pos} {wi : TI} {g : TG} {tt : TT} {tk tv : TE} {P : Program} {w : World} {K : PySem.W.Frag} {kr : Nat}
theorem pe_dn (eP : X.prog = P) (ew : X.w = w) (eK : X.K = K) (hr : Room kr X.A) (hc : X.calm = true) (hN : X.N.Nodup) (hi : PI X tg iter wi)
    (ok : BlkOk X.N X.env.scope scope own) (hg : ∀ (s : Shared) (H : Hp) (C : Addr) (cl : List (Str × Addr)) (fp : List Addr), PG (X.blk s H scope (compEnvC scope cl C X.env) fp) tg g) (ht : ∀ (s : Shared) (H : Hp) (C : Addr) (cl : List (Str × Addr)) (fp : List Addr), PTs (X.blk s H scope (compEnvC scope cl C X.env) fp) ifs tt)
    (hk : ∀ (s : Shared) (H : Hp) (C : Addr) (cl : List (Str × Addr)) (fp : List Addr), PE (X.blk s H scope (compEnvC scope cl C X.env) fp) kx tk)
    (hv : ∀ (s : Shared) (H : Hp) (C : Addr) (cl : List (Str × Addr)) (fp : List Addr), PE (X.blk s H scope (compEnvC scope cl C X.env) fp) vx tv) (fold : ∀ x, foldedSetIterable iter X.env x = pure x := by intro _; rfl) :
    PE X (.DictComp kx vx [⟨tg, iter, ifs, 0⟩] scope pos) (tDn P w K wi g tt tk tv (own.map (·.2))) := by
  subst eP ew eK
  refine ⟨fun pins s σ H Q I hq => ?_⟩
  rw [arm_eval_DictComp]
  exact dn_core (hu9 hr) hc hN I hi ok ⟨hg, ht, hk, hv⟩ fold hq fun D C s' m H' I' q hn f => ⟨m, hn, fun h'' sb => ⟨.ref D, H', I'.turned (t' := s'.toks) (fun b o hb e => (sb.2 b hb).trans e) f.1 f.2.1 f.2.2.2.1 f.2.2.2.2.1 f.2.2.2.2.2, rfl, q⟩⟩
/-- kept under a name -/
theorem ps_setDn {i : Nat} {y : Str} {py : Pos} (eP : X.prog = P) (ew : X.w = w) (eK : X.K = K) (hr : Room kr X.A) (hc : X.calm = true) (hN : X.N.Nodup) (hy : X.N[i]? = some y) (hyl : X.env.scope.names.lookup y = some .local)
    (hsw : swapsWith (.DictComp kx vx [⟨tg, iter, ifs, 0⟩] scope pos) (some (.Name y py)) spos.line X.env = pure true) (hi : PI X tg iter wi)
    (ok : BlkOk X.N X.env.scope scope own) (hg : ∀ (s : Shared) (H : Hp) (C : Addr) (cl : List (Str × Addr)) (fp : List Addr), PG (X.blk s H scope (compEnvC scope cl C X.env) fp) tg g) (ht : ∀ (s : Shared) (H : Hp) (C : Addr) (cl : List (Str × Addr)) (fp : List Addr), PTs (X.blk s H scope (compEnvC scope cl C X.env) fp) ifs tt)
    (hk : ∀ (s : Shared) (H : Hp) (C : Addr) (cl : List (Str × Addr)) (fp : List Addr), PE (X.blk s H scope (compEnvC scope cl C X.env) fp) kx tk)
    (hv : ∀ (s : Shared) (H : Hp) (C : Addr) (cl : List (Str × Addr)) (fp : List Addr), PE (X.blk s H scope (compEnvC scope cl C X.env) fp) vx tv) (fold : ∀ x, foldedSetIterable iter X.env x = pure x := by intro _; rfl) :
    PS X (.Assign [.Name y py] (.DictComp kx vx [⟨tg, iter, ifs, 0⟩] scope pos) spos) (tAsg (tDn P w K wi g tt tk tv (own.map (·.2))) (gName i)) := by
  subst eP ew eK
  refine ⟨fun pins s σ H D I hq => ?_⟩
  rw [exec_Assign_Name_used _ _ _ _ hsw]
  have hq : tDn X.prog X.w X.K wi g tt tk tv (own.map (·.2)) σ H (fun x H1 => gName i x σ H1 D.nx) := hq
  refine wpAny_bind (wpAny_standAt (wpAny_bind (wpAny_bind (thn (dn_core (use := some (assign (.Name y py) X.env)) (Qf := fun _ s' => SP X pins D .next s') (hu9 hr) hc hN I hi ok ⟨hg, ht, hk, hv⟩ fold hq fun N C s' m H' I' q hn f => ?_) fun _ s' z => wpAny_pure (wpAny_pure z)))))
  refine wpAny_assign_Name (store_ok2 (v := V.ref N) I' hN hy (.inl hyl) rfl (fun s2 I2 ⟨a, sb, ha⟩ => ?_) (.inr hyl))
  have away : C ≠ a := ha.elim (fun z => by rw [z]; exact f.2.1) fun z e => f.2.2.2.2.1 y a z e.symm
  exact ⟨m, hn.sameBut sb away, fun h3 sb3 => ⟨_, H', I2.turned (t' := s2.toks) (fun b o hb e => (sb3.2 b hb).trans e) f.1 f.2.1 f.2.2.2.1 f.2.2.2.2.1 f.2.2.2.2.2, q⟩⟩
theorem sw_dict {gs : List Comprehension} {py : Pos} {y : Str} {l : Nat} {env : Env} (hk : env.scope.kind = .function) (hy : env.scope.names.lookup y = some .local) (hl : (py.line == pos.line) = true)
    (ha : (scope.names.any fun (n, k) => n == y && (k == .local || k == .cell)) = false) : swapsWith (.DictComp kx vx gs scope pos) (some (.Name y py)) l env = pure true := by
  have ky : env.kindOf y = some .local := hy
  have hb : env.blockKind = .function := by unfold Env.blockKind; rw [hk]; rfl
  simp only [swapsWith, hb, ky, ha, Expr.pos, hl]
  rfl
end
end
section
variable {P : Program} {w : World} {K : PySem.W.Frag} {σ : L2.St} {H : Hp} {Q : VK} {wi : TI} {g : TG} {tt : TT} {tk tv : TE} {vs : List Nat}
theorem i_Dn (q : wi σ H fun J H1 => ∀ D H2, H1 D = none → ND P w K H2 D [] → Stp [] H1 H2 → ∃ W : Nat → Nat → Hp → Prop, (∃ m, W 0 m H2) ∧ ∀ i m H, W i m H →
  (J.stop i H ∧ Q (.ref D) H) ∨ (J.go i H ∧ ∃ Nx : Hp → Prop, (∀ H', Nx H' → ∃ m', m' < m ∧ W (i + 1) m' H') ∧ ∀ x H', J.yld i H x H' → g x (wipe σ vs) H' fun σ2 H2 => wipe σ2 vs = wipe σ vs ∧ tt σ2 H2 fun b H3 =>
    if b = true then tk σ2 H3 fun y H4 => tv σ2 H4 fun z H5 => ∃ a kvs k, y = .ref a ∧ ND P w K H5 D kvs ∧ KyAt K H5 (.ref a) k ∧ kvs.length < sizeLine ∧ ∀ H6, ND P w K H6 D (putK kvs k z) → Stp [D] H5 H6 → Nx H6 else Nx H3)) : tDn P w K wi g tt tk tv vs σ H Q := q
/-- over a list that stays -/
theorem dn_list {a : Addr} {xs : List V} {H2 : Hp} {D : Addr} {Qd : Hp → Prop} (Pv : Nat → Hp → Prop) (h0 : Pv 0 H2) (hl : ∀ i H, i ≤ xs.length → Pv i H → SqL K H a xs)
    (hs : ∀ i x H, xs[i]? = some x → Pv i H → g x (wipe σ vs) H fun σ2 H2 => wipe σ2 vs = wipe σ vs ∧ tt σ2 H2 fun b H3 =>
      if b = true then tk σ2 H3 fun y H4 => tv σ2 H4 fun z H5 => ∃ a kvs k, y = .ref a ∧ ND P w K H5 D kvs ∧ KyAt K H5 (.ref a) k ∧ kvs.length < sizeLine ∧ ∀ H6, ND P w K H6 D (putK kvs k z) → Stp [D] H5 H6 → Pv (i + 1) H6 else Pv (i + 1) H3) (hd : ∀ H, Pv xs.length H → Qd H) :
    ∃ W : Nat → Nat → Hp → Prop, (∃ m, W 0 m H2) ∧ ∀ i m H, W i m H →
      ((Itl K a).stop i H ∧ Qd H) ∨ ((Itl K a).go i H ∧ ∃ Nx : Hp → Prop, (∀ H', Nx H' → ∃ m', m' < m ∧ W (i + 1) m' H') ∧ ∀ x H', (Itl K a).yld i H x H' → g x (wipe σ vs) H' fun σ2 H2 => wipe σ2 vs = wipe σ vs ∧ tt σ2 H2 fun b H3 =>
        if b = true then tk σ2 H3 fun y H4 => tv σ2 H4 fun z H5 => ∃ a kvs k, y = .ref a ∧ ND P w K H5 D kvs ∧ KyAt K H5 (.ref a) k ∧ kvs.length < sizeLine ∧ ∀ H6, ND P w K H6 D (putK kvs k z) → Stp [D] H5 H6 → Nx H6 else Nx H3) := by
  refine ⟨fun i m H => m + i = xs.length ∧ Pv i H, ⟨xs.length, rfl, h0⟩, fun i m H ⟨em, p⟩ => ?_⟩
  have sq := hl i H (by omega) p
  match m, em with
  | 0, em =>
    have e : i = xs.length := by omega
    subst e
    exact .inl ⟨⟨xs, sq, Nat.le_refl _⟩, hd H p⟩
  | m + 1, em =>
    have lt : i < xs.length := by omega
    refine .inr ⟨⟨xs, xs[i], sq, List.getElem?_eq_getElem lt⟩, Pv (i + 1), fun H' p' => ⟨m, Nat.lt_succ_self m, by omega, p'⟩, fun x H' ⟨e, y⟩ => ?_⟩
    subst e
    exact hs i x _ (y xs sq) p
end
end GT

/-! ## sorted(d, key=lambda x: (x[0], x[1], x[2])) -/
namespace GT
open PySem PySem.Spec PyProof.Rows L2 LamX PySem.W
def key3 : Dt → PyData
  | .tup (a :: b :: c :: _) => .tuple [a.py, b.py, c.py]
  | _ => .none
def Has3 (d : Dt) : Prop := ∃ a b c r, d = .tup (a :: b :: c :: r)
theorem key3_depth {d : Dt} (h : Has3 d) (n : d.depth ≤ 8) : (key3 d).depth ≤ 9 := by
  obtain ⟨a, b, c, r, rfl⟩ := h
  have n1 := Dt.py_depth a
  have n2 := Dt.py_depth b
  have n3 := Dt.py_depth c
  simp only [Dt.depth, Dt.depthAll] at n
  simp only [key3, PyData.depth, PyData.depthAll]
  omega
theorem nd_key_at {K : PySem.W.Frag} {H : Hp} {xs : List (NestedKey × Addr × V)} {ds : List Dt} (ks : KeysAt K H xs) (e : xs.map (·.1) = ds.map Dt.key) (f : Dt.flatAll ds = true) {i : Nat} {x : NestedKey × Addr × V} {d : Dt} (hx : xs[i]? = some x) (hd : ds[i]? = some d) : DtAt K H (.ref x.2.1) d := by
  obtain ⟨d', f', k', _, h'⟩ := ks x (List.mem_of_getElem? hx)
  have h1 : (xs.map (·.1))[i]? = some x.1 := by rw [List.getElem?_map, hx]; rfl
  rw [e, List.getElem?_map, hd] at h1
  have h2 : d.key = x.1 := Option.some.inj h1
  rw [← Dt.key_inj d' d f' (Dt.flat_mem f (List.mem_of_getElem? hd)) (k'.trans h2.symm)]
  exact h'
abbrev bod3 (x : Str) (p0 p1 p2 q0 q1 q2 r0 r1 r2 pos : Pos) (d0 d1 d2 kd : Nat) : Expr := .Tuple [.Subscript (.Name x p0) (.Constant (.int (0 : Int)) d0 q0) r0, .Subscript (.Name x p1) (.Constant (.int (1 : Int)) d1 q1) r1, .Subscript (.Name x p2) (.Constant (.int (2 : Int)) d2 q2) r2] kd pos
section
variable {prog : Program} {w : World} {A : Around} {s : Shared} {x q : Str} {params : Arguments} {scope : Scope} {p0 p1 p2 q0 q1 q2 r0 r1 r2 pos : Pos} {d0 d1 d2 kd : Nat} {f c' : Addr} {pm ctv : Value}
/-- one call of the lambda: it tells the key of a datum -/
theorem key3_turn {v : Value} {b : Dt} (hf : s.heap.get? f = some (kla_obj "<lambda>" q params (bod3 x p0 p1 p2 q0 q1 q2 r0 r1 r2 pos d0 d1 d2 kd) scope [] pm c' ctv)) (rc : s.heap.CodeRec (.ref c') q) (nl : s.heap.NoLimit) (room : A.depth < recursionLimit)
    (hbind : ∀ (pm cv ctv v : Value), bindArgs (kla_fn "<lambda>" q params (bod3 x p0 p1 p2 q0 q1 q2 r0 r1 r2 pos d0 d1 d2 kd) scope [] pm cv ctv) ⟨[v], []⟩ = pure [(x, v)])
    (hk : scope.kind = .function) (co : scope.isCoroutine = false) (gen : scope.isGenerator = false) (hcl : ∀ y ∈ scope.names, y.2 ≠ .cell) (hx : scope.names.lookup x = some .local) (hd : (x == ("__debug__" : Str)) = false)
    (h3 : Has3 b) (hbf : b.flat = true) (hdi : DtIs s.heap b v) : wpAny (model prog w) A (call (.ref f) [v]) (KeyPure (key3 b) s) (fun _ _ => False) s := by
  obtain ⟨a1, b1, c1, r1, rfl⟩ := h3
  cases hdi with
  | @tup t its _ ht hall =>
    simp only [Dt.flat, Dt.flatAll, Bool.and_eq_true] at hbf
    obtain ⟨l⟩ := its
    cases hall with
    | @cons _ v0 _ _ g0 hall =>
      cases hall with
      | @cons _ v1 _ _ g1 hall =>
        cases hall with
        | @cons _ v2 _ lr g2 hall =>
          obtain ⟨ot, e1, e2, n2, e4⟩ := ht
          have htup : IsTup s.heap t (Array.mk (v0 :: v1 :: v2 :: lr)) := ⟨ot, e1, e2, n2, e4⟩
          refine wpAny_mono (lam_key3 (x := x) (items := Array.mk (v0 :: v1 :: v2 :: lr)) (v0 := v0) (v1 := v1) (v2 := v2) hf rc nl room (hbind _ _ _ _) hk co gen hcl hx hd htup rfl rfl rfl) (fun u s2 hu => ?_) fun _ _ z => z.elim
          obtain ⟨h2, tk2, b2, rfl, kp2, rfl, hb2⟩ := hu
          exact ⟨h2, tk2, rfl, kp2, .tuple (as := []) hb2 rfl rfl (.cons (as := []) (bs := []) (PyProof.Rows.Reads.keeps kp2 (DtIs.reads a1 v0 hbf.1 g0)) (.cons (as := []) (bs := []) (PyProof.Rows.Reads.keeps kp2 (DtIs.reads b1 v1 hbf.2.1 g1)) (.cons (as := []) (bs := []) (PyProof.Rows.Reads.keeps kp2 (DtIs.reads c1 v2 hbf.2.2.1 g2)) .nil)))⟩
end
section
variable {X : Cx} {x q : Str} {params : Arguments} {scope : Scope} {p0 p1 p2 q0 q1 q2 r0 r1 r2 pos : Pos} {d0 d1 d2 kd : Nat}
def rSortL (P : Program) (w : World) (K : PySem.W.Frag) (q : Str) (params : Arguments) (body : Expr) (scope : Scope) : List V → List V → Hp → VK → Prop := fun vs zs H Q => ∃ (d f c' : Addr) (pm ctv : Value) (kvs : List NKV) (ds : List Dt), vs = [.ref d] ∧ zs = [.ref f] ∧ H f = some (LamO f (kla_obj "<lambda>" q params body scope [] pm c' ctv)) ∧ H c' = some (CodeO c' q) ∧
  ND P w K H d kvs ∧ kvs.map (·.1) = ds.map Dt.key ∧ Dt.flatAll ds = true ∧ Dt.depthAll ds ≤ 8 ∧ (∀ x ∈ ds, Has3 x) ∧ AllAlike (ds.map key3) ∧ Sortable (ds.map key3) ∧
  ∀ (p : Addr) (ys : List V), H p = none → DtsAt K H ys (ds.mergeSort (dataLe false key3)) → Q (.ref p) (upd H p (.lst ys))
theorem cr_sortL {k : Nat} (hc : X.calm = true) (hr : Room (k + 2) X.A)
    (hbind : ∀ (pm cv ctv v : Value), bindArgs (kla_fn "<lambda>" q params (bod3 x p0 p1 p2 q0 q1 q2 r0 r1 r2 pos d0 d1 d2 kd) scope [] pm cv ctv) ⟨[v], []⟩ = pure [(x, v)])
    (hk : scope.kind = .function) (co : scope.isCoroutine = false) (gen : scope.isGenerator = false) (hcl : ∀ y ∈ scope.names, y.2 ≠ .cell) (hx : scope.names.lookup x = some .local) (hd : (x == ("__debug__" : Str)) = false) :
    CallRK X (.builtin "sorted") [Str.ofString "key"] (rSortL X.prog X.w X.K q params (bod3 x p0 p1 p2 q0 q1 q2 r0 r1 r2 pos d0 d1 d2 kd) scope) := by
  intro pins s σ H vs zs us ws Q I r rz h
  obtain ⟨d, f, c', pm, ctv, kvs, ds, rfl, rfl, hf, hco, ⟨xs, e, ks, rfl⟩, hkeys, hfl, hdp, h3, hal, hsk, qq⟩ := h
  obtain rfl := Vals.ref1 r
  obtain rfl := Vals.ref1 rz
  have hun := hr.units
  have hkeys' : xs.map (·.1) = ds.map Dt.key := by rw [← hkeys]; unfold plainX; rw [List.map_map]; rfl
  obtain ⟨hz, lo, ys, rel, o, es, ep, ho, hex, hdat, hen, his, hnd⟩ := nd_raw I (.inl e) ks
  have l1 : es.size = ys.length := size_of_entries hen
  have l2 : xs.length = ys.length := Paired.length rel
  have l3 : xs.length = ds.length := by have := congrArg List.length hkeys'; simpa using this
  have hfob : s.heap.get? f = some (kla_obj "<lambda>" q params (bod3 x p0 p1 p2 q0 q1 q2 r0 r1 r2 pos d0 d1 d2 kd) scope [] pm c' ctv) := (I.hok f _ hf).1
  obtain ⟨oc, vc, tc, hoc, hdc, hvc⟩ : ∃ (oc : Obj) (vs : Array Value) (t : Tok), s.heap.get? c' = some oc ∧ oc.data = .fields vs ∧ vs[1]? = some (.str q t) := (I.hok c' _ hco).1
  have g1 : ∀ (i : Nat) (b : Dt) (hi : i < es.size), ds[i]? = some b → ∃ y, RelV y es[i].key ∧ DtAt X.K H y b := fun i b hi hb => by
    have hi2 : i < xs.length := by omega
    obtain ⟨y, hy, e1, e2, e3⟩ := paired_get rel (List.getElem?_eq_getElem hi2)
    have q1 := entry_at hen i
    rw [hy, Array.getElem?_eq_getElem hi] at q1
    have q2 : es[i] = entryOfKey (nestedKind X.prog X.w) y := Option.some.inj q1
    refine ⟨.ref xs[i].2.1, ?_, nd_key_at ks hkeys' hfl (List.getElem?_eq_getElem hi2) hb⟩
    rw [q2]
    show Value.ref y.2.1 = Value.ref xs[i].2.1
    rw [e2]
  have g2 : ∀ b, b ∈ ds → X.A.units + 2 + (key3 b).depth < cLine := fun b hb => by
    have h1 := key3_depth (h3 b hb) (Nat.le_trans (Dt.depth_mem hb) hdp)
    omega
  have g3 : ∀ (v : Value) (b : Dt), (∃ y, RelV y v ∧ DtAt X.K H y b) → b ∈ ds → ∀ (h : Heap) (tk : Nat), (∀ b o, s.heap.get? b = some o → h.get? b = some o) →
      wpAny (model X.prog X.w) X.A.in1.in1 (call (.ref f) [v]) (KeyPure (key3 b) { s with heap := h, toks := tk }) (fun _ _ => False) { s with heap := h, toks := tk } := fun v b ⟨y, ry, hy⟩ hb h tk kp => by
    have hdi := DtAt.is (s := { s with heap := h, toks := tk }) (I.kept kp) b y v hy ry
    exact key3_turn (s := { s with heap := h, toks := tk }) (kp _ _ hfob) ⟨c', oc, vc, tc, rfl, kp _ _ hoc, hdc, hvc⟩ (I.nolimit.keeps kp) hr.in1.in1.depth hbind hk co gen hcl hx hd (h3 b hb) (Dt.flat_mem hfl hb) hdi
  refine raw_sorted_dict (R := fun (u : Value) (b : Dt) => ∃ y, RelV y u ∧ DtAt X.K H y b) key3 lo ⟨o, ho, hex, hdat⟩ (I.ok.hd hc) (by omega) (by omega) g1 hal hsk g2 g3 fun out c h1 h' tk a hk1 hk2 hle hD hlen hR => ?_
  obtain ⟨yv, vy, dy⟩ := each_dts hR
  have hl9 : yv.length ≤ sizeLine := by
    have h7 := vy.length
    omega
  have I1 : Inv X pins σ H { s with heap := h1, toks := tk } := I.kept hk1
  exact ⟨.ref a, upd H a (.lst yv), I1.laid (t' := tk) hk2 hle ⟨hl9, out, c, vy, hD⟩, rfl, qq a yv (I1.hok.fresh hle) dy⟩
end
end GT

/-! ## the call sorted(d, key=lambda x: (x[0], x[1], x[2])) -/
namespace GT
open PySem PySem.Spec PyProof.Rows L2 LamX PySem.W
/-- a def whose code object is told -/
theorem FunD.okC {P : Program} {w : World} {K : PySem.W.Frag} {mg : Str → Option Value} {base : Heap} {x qual : Str} {params : Arguments} {body : List Stmt} {scope : Scope} {dvs : List V} {kws : List (Str × V)} {f : Addr} {fd : FuncData} {CX : CXT} {N ps : List Str} {k : Nat} {sp : Sp} {c : Addr}
    (F : FunD K x qual params body scope dvs kws f fd) (ec : fd.code = .ref c) (S : FnScope N ps scope) (len : ∀ vs H Q E, sp vs H Q E → vs.length = ps.length)
    (hbody : ∀ (A : Around) (outer : List Env) (s : Shared) (H : Hp) (vs : List V) (Q : VK) (E : XK), Room k (A.deeper (envOfC qual scope s.heap.objs.size f (.ref c))) → sp vs H Q E →
      ∃ t, PSs (cxOf CX P w K mg base N qual scope f (.ref c) A outer s H E) body t ∧ t { nx := fun _ H' => Q .non H', rt := Q } (start N vs) H) : FnOk P w K mg base CX (k + 1) f fd ps sp := by
  obtain ⟨_, _, _, _, _, _, _, cdv, _, _, rfl, lk, hcd, _, _⟩ := F.ex
  obtain rfl : cdv = .ref c := ec
  exact fn_of lk hcd S len fun A outer s H vs Q E hr hsp => hbody A outer s H vs Q E hr hsp
/-- .. found by the head -/
theorem code_told {K : PySem.W.Frag} {d : He.DefD} {fd : FuncData} {dvs : List V} {kws : List (Str × V)} (F : FunD K d.name d.qual d.params d.body d.scope dvs kws (He.fAd K d.at_) fd) : fd.code = .ref (He.codeOf K d.at_) := by
  obtain ⟨_, _, _, _, _, _, _, cdv, _, _, rfl, lk, hcd, _, _⟩ := F.ex
  obtain ⟨c, rfl⟩ := He.codeIn_ref hcd
  rw [He.codeOf_eq lk rfl] <;> rfl
theorem flat_all : ∀ {ds : List Dt}, (∀ z ∈ ds, z.flat = true) → Dt.flatAll ds = true
  | [], _ => rfl
  | d :: ds, h => by rw [Dt.flatAll, h d List.mem_cons_self, flat_all fun z hz => h z (List.mem_cons_of_mem _ hz)]; rfl
def tSortL (P : Program) (w : World) (K : PySem.W.Frag) (T : Addr) (q : Str) (td : TE) : TE := fun σ H Q => td σ H fun x H1 => ∃ L, Tab H1 T q L ∧ ∃ (d : Addr) (kvs : List NKV) (ds : List Dt), x = .ref d ∧ ND P w K H1 d kvs ∧ kvs.map (·.1) = ds.map Dt.key ∧ Dt.flatAll ds = true ∧ Dt.depthAll ds ≤ 8 ∧ (∀ x ∈ ds, Has3 x) ∧ AllAlike (ds.map key3) ∧ Sortable (ds.map key3) ∧
  ∀ (p : Addr) (ys : List V) (H2 : Hp) (L2 : List Addr), Tab H2 T q L2 → (∀ c ∈ L2, c ∈ L ∨ H1 c = none) → Stp [T] H1 H2 → H1 p = none → H2 p = some (.lst ys) → DtsAt K H2 ys (ds.mergeSort (dataLe false key3)) → Q (.ref p) H2
theorem pe_sortL {X : Cx} {P : Program} {w : World} {K : PySem.W.Frag} {c T : Addr} {k : Nat} {x y : Str} {params : Arguments} {scope : Scope} {p0 p1 p2 q0 q1 q2 r0 r1 r2 bpos py pf kpos lpos pos : Pos} {d0 d1 d2 kd i : Nat} (eP : X.prog = P) (ew : X.w = w) (eK : X.K = K) (hr : Room (k + 2) X.A) (hc : X.calm = true) (TB : TabB X.base X.mg c T) (hcode : X.env.code = .ref c)
    (hg : Gl X "sorted") (hm : X.mg "sorted" = none) (he : PE X (.Name y py) (tVar i))
    (hdef : defaultsOf params X.env = ([], []) := by rfl) (hfree : ∀ y ∈ scope.names, y.2 ≠ .free := by decide +kernel) (hclo : cloFrom X.env.cells scope.names [] = [] := by rfl)
    (hbind : ∀ (q : Str) (pm cv ctv v : Value), bindArgs (kla_fn "<lambda>" q params (bod3 x p0 p1 p2 q0 q1 q2 r0 r1 r2 bpos d0 d1 d2 kd) scope [] pm cv ctv) ⟨[v], []⟩ = pure [(x, v)] := by intro _ _ _ _ _; rfl)
    (hk : scope.kind = .function := by rfl) (co : scope.isCoroutine = false := by rfl) (gen : scope.isGenerator = false := by rfl) (hcl : ∀ y ∈ scope.names, y.2 ≠ .cell := by decide +kernel) (hx : scope.names.lookup x = some .local := by decide +kernel) (hd : (x == ("__debug__" : Str)) = false := by decide +kernel) :
    PE X (.Call (.Name "sorted" pf) [.Name y py] [⟨some "key", .Lambda params (bod3 x p0 p1 p2 q0 q1 q2 r0 r1 r2 bpos d0 d1 d2 kd) scope lpos, kpos⟩] pos) (tSortL P w K T (X.env.qual ++ "<lambda>") (tVar i)) := by
  subst eP ew eK
  have all := pe_callBK (p := pf) (pos := pos) (kws := [⟨some "key", .Lambda params (bod3 x p0 p1 p2 q0 q1 q2 r0 r1 r2 bpos d0 d1 d2 kd) scope lpos, kpos⟩]) (cr_sortL (X := X) (q := X.env.qual ++ "<lambda>") (params := params) hc hr (hbind _) hk co gen hcl hx hd) hg hm (by decide +kernel) (pa_cons he pa_nil) (pk_cons (pe_lam TB hcode hdef hfree) pk_nil)
  rw [hclo] at all
  refine ⟨fun pins s σ H Q I h => all.run pins s σ H Q I ?_⟩
  obtain ⟨v, hv, L, hT, d, kvs, ds, rfl, nd, h1, h2, h3, h4, h5, h6, h7⟩ := h
  refine ⟨.ref d, hv, L, hT, fun f c' pm ctv H1 L1 t1 fresh st co1 nf hf => ?_⟩
  obtain ⟨ps, hP⟩ := hT.there
  have dT : d ∉ [T] := by
    obtain ⟨xs, e, _⟩ := nd
    simp only [List.mem_singleton]
    rintro rfl
    rw [hP] at e
    cases e
  refine ⟨d, f, c', pm, ctv, kvs, ds, rfl, rfl, hf, co1, nd.stp st dT, h1, h2, h3, h4, h5, h6, fun p ys np dy => ?_⟩
  have s2 : Stp [] H1 (upd H1 p (.lst ys)) := .new np
  have fl : Dt.flatAll (ds.mergeSort (dataLe false key3)) = true := flat_all fun z hz => Dt.flat_mem h2 ((List.mergeSort_perm _ _).mem_iff.mp hz)
  refine h7 p ys _ L1 (t1.grow s2) fresh (st.trans (s2.mono (by simp))) (st.free np fun z => ?_) upd_same (dy.stp s2 _ _ fl)
  obtain ⟨qs, e⟩ := t1.there
  rw [List.mem_singleton.mp z, e] at np
  cases np
end GT

/-! ## sorted(d): the keys of a dict in order -/
namespace GT
open PySem PySem.Spec PySem.Calls PyProof.Rows L2 PySem.W
section
variable {prog : Program} {w : World} {A : Around} {E : Value → Shared → Prop} {s : Shared} {β : Type} {bs : List β} {R : Value → β → Prop}
theorem raw_sorted_keys {d : Addr} {es : Array DictEntry} {ep : Nat} {Q : Value → Shared → Prop} (enc : β → PyData) (lo : (d == sysModules) = false) (hm : s.heap.DictRaw d es ep) (hh : A.handled = none) (hn : es.size ≤ sizeLine) (hes : es.size = bs.length)
    (hit : ∀ (i : Nat) (b : β) (hi : i < es.size), bs[i]? = some b → R es[i].key b) (er : ∀ (v : Value) (b : β), R v b → b ∈ bs → Reads s.heap v (enc b) []) (hal : AllAlike (bs.map enc)) (hk : Sortable (bs.map enc)) (hu : ∀ x, x ∈ bs → A.units + 2 + (enc x).depth < cLine)
    (h : ∀ (out : List Value) (c : Nat) (h1 h' : Heap) (tk : Nat) (a : Addr), (∀ b o, s.heap.get? b = some o → h1.get? b = some o) → (∀ b o, h1.get? b = some o → h'.get? b = some o) → h1.objs.size ≤ a → h'.get? a = some (seqObj "list" (List.toArray out) c) → out.length = bs.length → EachIs R out (bs.mergeSort (dataLe false enc)) →
      Q (.ref a) { s with heap := h', toks := tk }) :
    wpAny (model prog w) A (call (.builtin "sorted") [.ref d]) Q E s := by
  refine call_function_entry kind_sorted plain_sorted entry_sorted (args_sorted1 _) ?_
  unfold Builtin.«sorted»
  refine wpAny_bind (m := checkCount "sorted" 1 1 _) (wpAny_pure ?_)
  refine wpAny_bind (kdu_collect (A := A.in1) (KdlSrc.rawDict lo) hh hm hn fun h1 tk1 acc hk1 hacc => ?_)
  have he : EachIs R acc.toList bs := each_of_items (P := fun i v => ∃ hi : i < es.size, v = es[i].key) ⟨hacc.1.trans hes, hacc.2⟩ fun i v b ⟨hi, e⟩ hb => by rw [e]; exact hit i b hi hb
  have hl : acc.toList.length = bs.length := he.length
  have hz : acc.toList.length ≤ sizeLine := by rw [hl, ← hes]; exact hn
  refine wpAny_bind (wpAny_newList ?_ hz)
  have ho : (h1.push { cls := .type "list", data := .seq acc.toList.toArray }).get? h1.objs.size = some (seqObj "list" acc.toList.toArray 0) := Heap.get?_push_size _ rfl
  generalize hH2 : h1.push { cls := .type "list", data := .seq acc.toList.toArray } = h2 at ho
  have k2 : ∀ b o, h1.get? b = some o → b ≠ h1.objs.size ∧ b < h2.objs.size ∧ h2.get? b = some o := fun b o q => by
    have l := Heap.lt_size q
    have g : h2.get? b = some o := by rw [← hH2]; exact Heap.get?_push_of_some _ q
    exact ⟨Nat.ne_of_lt l, Heap.lt_size g, g⟩
  have rd : EachIs (fun v b => ∃ as, Reads (sortingHeap h2 h1.objs.size acc.toList) v (enc b) as) acc.toList bs := (each_mem he).mono fun v b ⟨hR, hb⟩ => ⟨[], PyProof.Rows.Reads.keeps (fun b o e => let z := k2 b o (hk1 b o e); sortingHeap_old z.1 z.2.2) (er v b hR hb)⟩
  refine wpAny_bind (wpAny_holding (wpAny_call_entry slot_list_sort ⟨_, ho, rfl⟩ entry_list_sort ?body (args_list_sort _)))
  case body =>
    refine list_sort_vals (κ := dataKind (sortingHeap h2 h1.objs.size acc.toList) (bs.map enc)) (s := { s with heap := h2, toks := tk1 }) ho (SortsAt.data (s := { s with heap := sortingHeap h2 h1.objs.size acc.toList, toks := tk1 }) (each_map (R := fun v d => ∃ as, Reads (sortingHeap h2 h1.objs.size acc.toList) v d as) enc rd) hal hk (bound_map (A := A.in1.in1) hu)) hz ⟨_, rfl, ?_⟩
    obtain ⟨c, hc⟩ := sortedHeap_at (vs := acc.toList) (out := (sortVals (dataKind (sortingHeap h2 h1.objs.size acc.toList) (bs.map enc)) false acc.toList acc.toList).toArray) ho
    exact wpAny_pure ⟨_, rfl, h _ c h1 _ tk1 _ hk1 (fun b o e => (sortedHeap_old (k2 b o e).1 (k2 b o e).2.1).trans (k2 b o e).2.2) (Nat.le_refl _) hc (by rw [sortVals_length false rfl]; exact hl) (sortVals_data false he rd hal)⟩
end
end GT
namespace GT
open PySem PySem.Spec PyProof.Rows L2 PySem.W
section
variable {X : Cx} {P : Program} {w : World} {K : PySem.W.Frag}
/-- sorted(d): d a dict with nested keys, their data ds in the dict's order -/
def rSortK (P : Program) (w : World) (K : PySem.W.Frag) : List V → Hp → VK → Prop := fun vs H Q => ∃ (d : Addr) (kvs : List NKV) (ds : List Dt), vs = [.ref d] ∧ NDR P w K H d kvs ∧ kvs.map (·.1) = ds.map Dt.key ∧ Dt.flatAll ds = true ∧ Dt.depthAll ds ≤ 8 ∧ AllAlike (ds.map Dt.py) ∧ Sortable (ds.map Dt.py) ∧
  ∀ (p : Addr) (ys : List V), H p = none → DtsAt K H ys (ds.mergeSort leD) → Q (.ref p) (upd H p (.lst ys))
theorem cr_sortK (eP : X.prog = P) (ew : X.w = w) (eK : X.K = K) (hc : X.calm = true) (hu : X.A.units + 64 < cLine) : CallR X (.builtin "sorted") (rSortK P w K) := by
  subst eP ew eK
  intro pins s σ H vs us Q I r h
  obtain ⟨d, kvs, ds, rfl, ⟨xs, e, ks, rfl⟩, hkeys, hfl, hdp, hal, hsk, qq⟩ := h
  obtain rfl := Vals.ref1 r
  have hkeys' : xs.map (·.1) = ds.map Dt.key := by rw [← hkeys]; unfold plainX; rw [List.map_map]; rfl
  obtain ⟨hz, lo, ys, rel, o, es, ep, ho, hex, hdat, hen, his, hnd⟩ := nd_raw I e ks
  have l1 : es.size = ys.length := size_of_entries hen
  have l2 : xs.length = ys.length := Paired.length rel
  have l3 : xs.length = ds.length := by have := congrArg List.length hkeys'; simpa using this
  have g1 : ∀ (i : Nat) (b : Dt) (hi : i < es.size), ds[i]? = some b → ∃ y, RelV y es[i].key ∧ DtAt X.K H y b := fun i b hi hb => by
    have hi2 : i < xs.length := by omega
    obtain ⟨y, hy, e1, e2, e3⟩ := paired_get rel (List.getElem?_eq_getElem hi2)
    have q1 := entry_at hen i
    rw [hy, Array.getElem?_eq_getElem hi] at q1
    have q2 : es[i] = entryOfKey (nestedKind X.prog X.w) y := Option.some.inj q1
    refine ⟨.ref xs[i].2.1, ?_, nd_key_at ks hkeys' hfl (List.getElem?_eq_getElem hi2) hb⟩
    rw [q2]
    show Value.ref y.2.1 = Value.ref xs[i].2.1
    rw [e2]
  refine raw_sorted_keys (R := fun (u : Value) (b : Dt) => ∃ y, RelV y u ∧ DtAt X.K H y b) Dt.py lo ⟨o, ho, hex, hdat⟩ (I.ok.hd hc) (by omega) (by omega) g1 (fun v b ⟨y, ry, hy⟩ hb => DtIs.reads b v (Dt.flat_mem hfl hb) (DtAt.is I b y v hy ry)) hal hsk (fun b hb => ?_) fun out c h1 h' tk a hk1 hk2 hle hD hlen hR => ?_
  · have h1 := Dt.depth_mem hb
    have h2 := Dt.py_depth b
    omega
  · obtain ⟨yv, vy, dy⟩ := each_dts hR
    have hl9 : yv.length ≤ sizeLine := by
      have h7 := vy.length
      omega
    have I1 : Inv X pins σ H { s with heap := h1, toks := tk } := I.kept hk1
    exact ⟨.ref a, upd H a (.lst yv), I1.laid (t' := tk) hk2 hle ⟨hl9, out, c, vy, hD⟩, rfl, qq a yv (I1.hok.fresh hle) dy⟩
end
end GT

/-! ## dicts with text keys and data as values; data in order -/
namespace GT
open PySem PySem.Spec PyProof.Rows L2 PySem.W
theorem hu1 {A : Around} {k : Nat} (hr : Room k A) : A.units + 1 < cLine := by have := hr.un; omega
section
variable {σ : L2.St} {H : Hp} {Q : VK} {D : Ends} {R : It → Hp → Prop} {td ty tv : TE}
theorem i_DGet (q : td σ H fun x H1 => ty σ H1 fun y H2 => ∃ a v, x = .ref a ∧ DGet H2 a y (some v) ∧ Q v H2) : tDGet td ty σ H Q := q
theorem i_DIn (q : ty σ H fun y H1 => td σ H1 fun x H2 => ∃ a o, x = .ref a ∧ DGet H2 a y o ∧ Q (.bl o.isSome) H2) : tDIn ty td σ H Q := q
theorem i_DPut (q : tv σ H fun v H1 => td σ H1 fun x H2 => ty σ H2 fun y H3 => ∃ a H4, x = .ref a ∧ DPut H3 a y v H4 ∧ D.nx σ H4) : sDPut td ty tv D σ H := q
theorem i_DNewK (q : ∀ p, H p = none → Q (.ref p) (upd H p (.dK []))) : tDNewK σ H Q := q
theorem i_Keys (q : td σ H fun x H1 => ∃ d o, x = .ref d ∧ ((∃ kvs, H1 d = some (.frz o (.dK kvs)) ∧ R (Itk d o kvs) H1) ∨ ∃ kvs, H1 d = some (.frz o (.dT kvs)) ∧ R (Itkt d o kvs) H1)) : iKeys td σ H R := q
end
/-! ### the dict: texts and what they tell -/
abbrev SD := List (Str × Dt)
abbrev keyS (x : Str) : Key := Sum.inr x
def EntS (K : PySem.W.Frag) (H : Hp) (p : Key × V) (e : Str × Dt) : Prop := p.1 = keyS e.1 ∧ DtAt K H p.2 e.2 ∧ e.2.flat = true
def SdAt (K : PySem.W.Frag) (H : Hp) (d : Addr) (es : SD) : Prop := ∃ kvs, H d = some (.dK kvs) ∧ Paired (EntS K H) kvs es
section
variable {K : PySem.W.Frag} {H H1 : Hp} {M : List Addr} {d : Addr} {es : SD} {kvs : List (Key × V)}
theorem ent_stp (h : Paired (EntS K H) kvs es) (s : Stp M H H1) : Paired (EntS K H1) kvs es := by
  induction h with
  | nil => exact .nil
  | cons x _ ih => exact .cons ⟨x.1, DtAt.stp s _ _ x.2.2 x.2.1, x.2.2⟩ ih
theorem SdAt.stp (h : SdAt K H d es) (s : Stp M H H1) (n : d ∉ M) : SdAt K H1 d es := let ⟨kvs, e, p⟩ := h; ⟨kvs, s.keep _ _ e n, ent_stp p s⟩
theorem ent_keys (h : Paired (EntS K H) kvs es) : kvs.map (·.1) = es.map fun e => keyS e.1 := by
  induction h with
  | nil => rfl
  | cons x _ ih => rw [List.map_cons, List.map_cons, ih, x.1]
theorem ent_len (h : Paired (EntS K H) kvs es) : kvs.length = es.length := by
  have := congrArg List.length (ent_keys h)
  simpa using this
theorem ent_at (h : Paired (EntS K H) kvs es) {i : Nat} {p : Key × V} (e : kvs[i]? = some p) : ∃ r, es[i]? = some r ∧ EntS K H p r := by
  induction h generalizing i with
  | nil => simp at e
  | cons x _ ih =>
    cases i with
    | zero => simp at e; subst e; exact ⟨_, rfl, x⟩
    | succ i => simpa using ih (i := i) (by simpa using e)
theorem ent_none (h : Paired (EntS K H) kvs es) {k : Str} (n : k ∉ es.map (·.1)) : valV kvs (keyS k) = none := by
  induction h with
  | nil => rfl
  | @cons p e ps qs x _ ih =>
    rw [List.map_cons, List.mem_cons, not_or] at n
    rw [valV_neg (fun z => n.1 (by rw [x.1] at z; exact (Sum.inr.inj z).symm))]
    exact ih n.2
theorem ent_val (h : Paired (EntS K H) kvs es) (nd : (es.map (·.1)).Nodup) {i : Nat} {p : Key × V} (e : kvs[i]? = some p) : valV kvs p.1 = some p.2 := by
  refine valV_of ?_ (List.mem_of_getElem? e)
  rw [ent_keys h]
  rw [show (es.map fun e => keyS e.1) = (es.map (·.1)).map keyS by rw [List.map_map]; rfl]
  clear h e
  generalize es.map (·.1) = l at nd
  induction l with
  | nil => exact .nil
  | cons a l ih =>
    rw [List.nodup_cons] at nd
    rw [List.map_cons, List.nodup_cons]
    exact ⟨fun z => nd.1 (by obtain ⟨b, hb, e⟩ := List.mem_map.mp z; cases Sum.inr.inj e; exact hb), ih nd.2⟩
/-- isinstance(d, dict) -/
theorem SdAt.isi {Q : VK} (h : SdAt K H d es) (q : Q (.bl true) H) (e : kitB "dict" "dict" = some true := by decide +kernel) : rIsi K [.ref d, .ty "dict"] H Q := by
  obtain ⟨kvs, hd, _⟩ := h
  exact ⟨.ref d, .ty "dict", _, _, true, rfl, .ty "dict", .base (.dK hd), kit_ty e, q⟩
/-- d[text] = value: a new text -/
theorem sd_put {k : Str} {v : V} {x : Dt} {P : Hp → Prop} (h : SdAt K H d es) (n : k ∉ es.map (·.1)) (l : es.length ≤ 1000) (hv : DtAt K H v x) (f : x.flat = true)
    (q : ∀ H4, SdAt K H4 d (es ++ [(k, x)]) → Stp [d] H H4 → P H4) : ∃ H4, DPut H d (.str k) v H4 ∧ P H4 := by
  obtain ⟨kvs, hd, p⟩ := h
  have pn := ent_none p n
  have pl := ent_len p
  have s : Stp [d] H (upd H d (.dK (putK kvs (keyS k) v))) := .wr (by simp) hd fun _ z => nomatch z
  have s2 := s
  rw [L2.putK_new v pn] at s2
  refine ⟨_, DPut.k (k := keyS k) hd (Nat.lt_of_le_of_lt (show kvs.length ≤ 1000 by omega) (by decide)), q _ ⟨_, upd_same, ?_⟩ s⟩
  rw [L2.putK_new v pn]
  exact Paired.snoc (ent_stp p s2) ⟨rfl, DtAt.stp s2 _ _ f hv, f⟩
end
/-! ### data in order, whatever they are -/
theorem leD_total : PySem.W.TotalLe leD := by
  have h : PySem.W.TotalLe (PySem.W.dataLe false Dt.py) := by
    unfold PySem.W.dataLe
    exact PySem.W.sortLe_total _ _ _
  exact h
theorem dt_perm_map {α : Type} {f : α → Dt} : ∀ {ds : List Dt} {as : List α}, ds.Perm (as.map f) → ∃ bs : List α, bs.Perm as ∧ ds = bs.map f
  | [], as, p => by
    have : as = [] := by
      have := p.length_eq
      cases as with
      | nil => rfl
      | cons _ _ => simp at this
    subst this; exact ⟨[], .refl _, rfl⟩
  | d :: ds, as, p => by
    have hm := p.mem_iff.mp List.mem_cons_self
    obtain ⟨a, ha, ea⟩ := List.mem_map.mp hm
    obtain ⟨l, r, rfl⟩ := List.append_of_mem ha
    have p2 : ds.Perm ((l ++ r).map f) := by
      have q := p.trans (List.perm_middle (a := a) (l₁ := l) (l₂ := r) |>.map f)
      rw [List.map_cons, ea] at q
      exact (List.perm_cons d).mp q
    obtain ⟨bs, pb, eb⟩ := dt_perm_map p2
    exact ⟨a :: bs, (pb.cons a).trans List.perm_middle.symm, by rw [List.map_cons, ea, eb]⟩
/-- sorted: some order of the same, ascending -/
theorem dt_order {α : Type} (f : α → Dt) (as : List α) : ∃ bs : List α, bs.Perm as ∧ (bs.Pairwise fun a b => leD (f a) (f b) = true) ∧ (as.map f).mergeSort leD = bs.map f := by
  have asc := PySem.W.sort_pairwise leD_total (as.map f)
  obtain ⟨bs, pb, eb⟩ := dt_perm_map (List.mergeSort_perm (as.map f) leD)
  rw [eb, List.pairwise_map] at asc
  exact ⟨bs, pb, asc, eb⟩
/-- texts -/
def leT (a b : Str) : Bool := leD (.txt a) (.txt b)
theorem leT_eq (a b : Str) : leT a b = !decide (b.cps.toList < a.cps.toList) := by
  unfold leT leD
  rw [PySem.W.dataLe_eq]
  show (!PySem.W.dataLt (Dt.txt b).py (Dt.txt a).py) = _
  rw [show (Dt.txt b).py = .str b from rfl, show (Dt.txt a).py = .str a from rfl, PySem.W.dataLt_str]
theorem leT_anti {a b : Str} (h1 : leT a b = true) (h2 : leT b a = true) : a = b := by
  rw [leT_eq, Bool.not_eq_true', decide_eq_false_iff_not] at h1 h2
  refine PySem.W.str_of_cps (List.le_antisymm ?_ ?_)
  · exact List.not_lt.mp h1
  · exact List.not_lt.mp h2
/-- the same first part: the second one counts -/
theorem leD_second (d : Dt) (a b : Str) (al : PySem.W.alike d.py d.py = true) (ev : PyData.eqv d.py d.py = true) : leD (.tup [d, .txt a]) (.tup [d, .txt b]) = leT a b := by
  rw [leT_eq]
  unfold leD
  rw [PySem.W.dataLe_eq]
  show (!PySem.W.dataLt (Dt.tup [d, .txt b]).py (Dt.tup [d, .txt a]).py) = _
  rw [show (Dt.tup [d, .txt b]).py = .tuple [d.py, .str b] from rfl, show (Dt.tup [d, .txt a]).py = .tuple [d.py, .str a] from rfl, PySem.W.dataLt_pair al (by simp [PySem.W.alike]), if_pos ev, PySem.W.dataLt_str]
  by_cases e : PyData.eqv (.str b) (.str a) = true
  · rw [if_pos e]
    have e2 : b = a := by simpa [PyData.eqv] using e
    rw [e2]
    simp
  · rw [if_neg e]
/-- a list comprehension over the keys of a dict -/
theorem lc_k {d : Addr} {o : Obj} {kvs : List (Key × V)} {g : TG} {tt : TT} {te : TE} {vs : List Nat} {σ : L2.St} {H1 : Hp} {D : Addr} {Qd : Hp → Prop} (Pv : Nat → Hp → Prop) (h0 : Pv 0 (upd H1 D (.lst []))) (hl : ∀ i H, i ≤ kvs.length → Pv i H → H d = some (.frz o (.dK kvs)))
    (hs : ∀ i p H, kvs[i]? = some p → Pv i H → g (kV p.1) (wipe σ vs) H fun σ2 H2 => wipe σ2 vs = wipe σ vs ∧ tt σ2 H2 fun b H3 =>
      if b = true then te σ2 H3 fun y H4 => ∃ acc, H4 D = some (.lst acc) ∧ acc.length < sizeLine ∧ Pv (i + 1) (upd H4 D (.lst (acc ++ [y]))) else Pv (i + 1) H3) (hd : ∀ H, Pv kvs.length H → Qd H) :
    ∃ W : Nat → Nat → Hp → Prop, (∃ m, W 0 m (upd H1 D (.lst []))) ∧ ∀ i m H, W i m H →
      ((Itk d o kvs).stop i H ∧ Qd H) ∨ ((Itk d o kvs).go i H ∧ ∃ Nx : Hp → Prop, (∀ H', Nx H' → ∃ m', m' < m ∧ W (i + 1) m' H') ∧ ∀ x H', (Itk d o kvs).yld i H x H' → g x (wipe σ vs) H' fun σ2 H2 => wipe σ2 vs = wipe σ vs ∧ tt σ2 H2 fun b H3 =>
        if b = true then te σ2 H3 fun y H4 => ∃ acc, H4 D = some (.lst acc) ∧ acc.length < sizeLine ∧ Nx (upd H4 D (.lst (acc ++ [y]))) else Nx H3) := by
  refine ⟨fun i m H => m = kvs.length - i ∧ i ≤ kvs.length ∧ Pv i H, ⟨kvs.length, by simp, Nat.zero_le _, h0⟩, ?_⟩
  rintro i m H ⟨rfl, hi, p⟩
  have q := hl i H hi p
  by_cases hlt : i < kvs.length
  · refine .inr ⟨⟨q, hlt⟩, Pv (i + 1), fun H' p' => ⟨kvs.length - (i + 1), by omega, rfl, hlt, p'⟩, fun x H' y => ?_⟩
    obtain ⟨e, k, v, hz, rfl⟩ := y
    subst e
    exact hs i (k, v) _ hz p
  · have e : i = kvs.length := by omega
    subst e
    exact .inl ⟨⟨q, Nat.le_refl _⟩, hd H p⟩
/-- len(d) -/
def rLenN (P : Program) (w : World) (K : PySem.W.Frag) : List V → Hp → VK → Prop := fun vs H Q => ∃ (d : Addr) (kvs : List NKV), vs = [.ref d] ∧ NDR P w K H d kvs ∧ Q (.int kvs.length) H
theorem call_lenN {X : Cx} : CallR X (.builtin "len") (rLenN X.prog X.w X.K) := by
  intro pins s σ H vs us Q I r h
  obtain ⟨d, kvs, rfl, ⟨xs, e, ks, rfl⟩, q⟩ := h
  obtain rfl := Vals.ref1 r
  obtain ⟨z, hd, ys, rel, dd⟩ := nd_raw I e ks
  have hl : (plainX xs).length = ys.length := by rw [plainX_len]; exact Paired.length rel
  have hn := line63
  have hz : xs.length = ys.length := Paired.length rel
  refine PySem.call_len_dictH hd dd (by omega) ?_
  exact ⟨.int (plainX xs).length, H, I.tok _, ⟨_, by rw [hl]⟩, q⟩
end GT

/-! ## get with a default, setdefault, index of data, enumerate in a dict comprehension -/
namespace GT
open PySem PySem.Spec PyProof.Rows L2
section
variable {X : Cx} {pins : List (Addr × Obj)} {σ : L2.St} {H : Hp} {s : Shared} {d a : Addr} {k : NestedKey} {kvs : List NKV} {v z : V} {u r : Value} {A : Around} {E : Value → Shared → Prop} {xs : List (NestedKey × Addr × V)}
theorem nd_get2 {Q : Value → Shared → Prop} (hu : A.units + 9 < cLine) (I : Inv X pins σ H s) (g : NDR X.prog X.w X.K H d kvs) (hk : KyAt X.K H (.ref a) k) (rd : RelV z r) (h : ∀ w' s', Inv X pins σ H s' → RelV ((valV kvs k).getD z) w' → Q w' s') :
    wpAny (model X.prog X.w) A (call (.builtin "dict.get") [.ref d, .ref a, r]) Q E s := by
  obtain ⟨xs, e, ks, rfl⟩ := g
  obtain ⟨zz, hd, ys, rel, dd⟩ := nd_raw I e ks
  refine call_meetsIn PySem.F.slot_dict_get dd.typeIs PySem.F.entry_dict_get (PySem.F.args_dict_get_3 _ _ _) (meetsH_dict_get_default (nestedKind X.prog X.w) d a hd r) ⟨nd_room hu, k, ys, hk.is I, dd, h _ _ (I.tok _) ?_⟩
  exact (rel.val k).getD rd
theorem nd_setd {Q : Value → Shared → Prop} (hu : A.units + 9 < cLine) (I : Inv X pins σ H s) (e : H d = some (ndO X.prog X.w d xs)) (ks : KeysAt X.K H xs) (hk : KyAt X.K H (.ref a) k) (hl : xs.length < sizeLine) (rd : RelV z r)
    (h1 : ∀ v w' s', valV (plainX xs) k = some v → Inv X pins σ H s' → RelV v w' → Q w' s') (h2 : ∀ s', valV (plainX xs) k = none → Inv X pins σ (upd H d (ndO X.prog X.w d (putX xs k a z))) s' → Q r s') :
    wpAny (model X.prog X.w) A (call (.builtin "dict.setdefault") [.ref d, .ref a, r]) Q E s := by
  obtain ⟨zz, hd, ys, rel, dd⟩ := nd_raw I (.inl e) ks
  have hz : ys.length ≤ sizeLine := by rw [← Paired.length rel]; exact zz
  have hl2 : (putX xs k a z).length ≤ sizeLine := by have := putX_len xs k a z; omega
  have hv := rel.val k
  refine call_setdefault_heap (hsz := hz) (nd_room hu) (hk.is I) hd dd (fun p hp => ?_) fun hn h' dd' hs => h2 _ ?_ ?_
  · rw [hp] at hv
    cases q : valV (plainX xs) k with
    | none => rw [q] at hv; exact (show False from hv).elim
    | some v => rw [q] at hv; exact h1 v _ _ q (I.tok _) hv
  · rw [hn] at hv
    cases q : valV (plainX xs) k with
    | none => rfl
    | some v => rw [q] at hv; exact (show False from hv).elim
  · obtain ⟨q, es, ep, hq, h2, h3, h4, _, h5⟩ := dd'
    exact d_write I (by rw [e]; exact True.intro) hs ⟨q, hq⟩ (ndO_ok ⟨hl2, hd, _, rel.put k rd, q, es, ep, hq, h2, h3, h4, h5⟩)
theorem nd_base (I : Inv X pins σ H s) (g : NDR X.prog X.w X.K H d kvs) : s.TypeIs (.ref d) "dict" ∧ ∀ b, Value.ref d = .ref b → ∃ ob, s.heap.get? b = some ob ∧ ob.dict = none := by
  obtain ⟨xs, e, ks, rfl⟩ := g
  obtain ⟨z, hd, ys, rel, dd⟩ := nd_raw I e ks
  refine ⟨dd.typeIs, fun b q => ?_⟩
  cases q
  obtain ⟨ob, _, _, h1, h2, _⟩ := dd
  exact ⟨ob, h1, h2.2.1⟩
end
/-- d.get(y, z) -/
def tNGet2 (P : Program) (w : World) (K : PySem.W.Frag) (td ty tx : TE) : TE := fun σ H Q => td σ H fun x H1 => ∃ d kvs, x = .ref d ∧ NDR P w K H1 d kvs ∧ ty σ H1 fun y H2 => tx σ H2 fun z H3 => ∃ a kvs k, y = .ref a ∧ NDR P w K H3 d kvs ∧ KyAt K H3 (.ref a) k ∧ Q ((valV kvs k).getD z) H3
/-- d.setdefault(y, z) -/
def tNSetd (P : Program) (w : World) (K : PySem.W.Frag) (td ty tx : TE) : TE := fun σ H Q => td σ H fun x H1 => ∃ d kvs, x = .ref d ∧ NDR P w K H1 d kvs ∧ ty σ H1 fun y H2 => tx σ H2 fun z H3 => ∃ a kvs k, y = .ref a ∧ ND P w K H3 d kvs ∧ KyAt K H3 (.ref a) k ∧ kvs.length < sizeLine ∧
  (∀ v, valV kvs k = some v → Q v H3) ∧ (valV kvs k = none → ∀ H4, ND P w K H4 d (putK kvs k z) → Stp [d] H3 H4 → Q z H4)
section
variable {X : Cx} {o e f : Expr} {td ty tx : TE} {apos cpos : Pos} {P : Program} {w : World} {K : PySem.W.Frag}
theorem pe_nget2K {k : Nat} (eP : X.prog = P) (ew : X.w = w) (eK : X.K = K) (hr : Room k X.A) (ho : PE X o td) (he : PE X e ty) (hf : PE X f tx) (m : M2 X o "get" apos e f cpos) : PE X (.Call (.Attribute o "get" apos) [e, f] [] cpos) (tNGet2 P w K td ty tx) := by
  subst eP ew eK
  refine ⟨fun pins s σ H Q I h => ?_⟩
  refine wpAny_Call_method m.base m.few m.line PySem.F.plainAttrs_dict PySem.F.slot_dict_get PySem.F.type_dict_get (thn (ho.run pins s σ H _ I h) fun u s1 ⟨x, H1, I1, rx, d, kvs, ex, g, q1⟩ => ?_)
  subst ex
  obtain rfl : u = Value.ref d := rx
  obtain ⟨t1, t2⟩ := nd_base I1 g
  refine ⟨t1, t2, ?_⟩
  rw [m.trees]
  refine Calls.callWith_builtin rfl (Calls.evalArgs_plain (Calls.spliced_cons (thn (he.run pins s1 σ H1 _ I1 q1) fun iv s2 ⟨y, H2, I2, ry, q2⟩ =>
    Calls.spliced_cons (thn (hf.run pins s2 σ H2 _ I2 q2) fun fv s3 ⟨z, H3, I3, rz, a, kv, k, ey, g3, hk, q3⟩ => Calls.spliced_nil ?_))))
  subst ey
  obtain rfl : iv = Value.ref a := ry
  exact nd_get2 (hu9 hr) I3 g3 hk rz fun w' s4 I4 rw' => ⟨_, H3, I4, rw', q3⟩
theorem pe_nsetdK {k : Nat} (eP : X.prog = P) (ew : X.w = w) (eK : X.K = K) (hr : Room k X.A) (ho : PE X o td) (he : PE X e ty) (hf : PE X f tx) (m : M2 X o "setdefault" apos e f cpos) : PE X (.Call (.Attribute o "setdefault" apos) [e, f] [] cpos) (tNSetd P w K td ty tx) := by
  subst eP ew eK
  refine ⟨fun pins s σ H Q I h => ?_⟩
  refine wpAny_Call_method m.base m.few m.line PySem.F.plainAttrs_dict PySem.F.slot_dict_setdefault PySem.F.type_dict_setdefault (thn (ho.run pins s σ H _ I h) fun u s1 ⟨x, H1, I1, rx, d, kvs, ex, g, q1⟩ => ?_)
  subst ex
  obtain rfl : u = Value.ref d := rx
  obtain ⟨t1, t2⟩ := nd_base I1 g
  refine ⟨t1, t2, ?_⟩
  rw [m.trees]
  refine Calls.callWith_builtin rfl (Calls.evalArgs_plain (Calls.spliced_cons (thn (he.run pins s1 σ H1 _ I1 q1) fun iv s2 ⟨y, H2, I2, ry, q2⟩ =>
    Calls.spliced_cons (thn (hf.run pins s2 σ H2 _ I2 q2) fun fv s3 ⟨z, H3, I3, rz, a, kv, k, ey, ⟨xs, e3, ks, exs⟩, hk, hl, q3, q4⟩ => Calls.spliced_nil ?_))))
  subst ey exs
  obtain rfl : iv = Value.ref a := ry
  rw [plainX_len] at hl
  refine nd_setd (hu9 hr) I3 e3 ks hk hl rz (fun v w' s4 hv I4 rw' => ⟨v, H3, I4, rw', q3 v hv⟩) fun s4 hn I4 => ?_
  have st : Stp [d] H3 (upd H3 d (ndO X.prog X.w d (putX xs k a z))) := .wr (by simp) e3 fun _ z => nomatch z
  exact ⟨z, _, I4, rz, q4 hn _ ⟨_, upd_same, (ks.put hk).stp st, plainX_put xs k a z⟩ st⟩
end
section
variable {σ : L2.St} {H : Hp} {Q : VK} {td ty tx : TE} {ta : TA} {R : It → Hp → Prop} {P : Program} {w : World} {K : PySem.W.Frag}
theorem i_NGet2 (q : td σ H fun x H1 => ∃ d kvs, x = .ref d ∧ NDR P w K H1 d kvs ∧ ty σ H1 fun y H2 => tx σ H2 fun z H3 => ∃ a kvs k, y = .ref a ∧ NDR P w K H3 d kvs ∧ KyAt K H3 (.ref a) k ∧ Q ((valV kvs k).getD z) H3) : tNGet2 P w K td ty tx σ H Q := q
theorem i_NSetd (q : td σ H fun x H1 => ∃ d kvs, x = .ref d ∧ NDR P w K H1 d kvs ∧ ty σ H1 fun y H2 => tx σ H2 fun z H3 => ∃ a kvs k, y = .ref a ∧ ND P w K H3 d kvs ∧ KyAt K H3 (.ref a) k ∧ kvs.length < sizeLine ∧
  (∀ v, valV kvs k = some v → Q v H3) ∧ (valV kvs k = none → ∀ H4, ND P w K H4 d (putK kvs k z) → Stp [d] H3 H4 → Q z H4)) : tNSetd P w K td ty tx σ H Q := q
theorem i_Enum (q : ta σ H fun vs H1 => ∃ a xs, vs = [.ref a] ∧ SqL K H1 a xs ∧ R (Ite K a) H1) : iEnum K ta σ H R := q
end
/-! ### list.index of data -/
section
variable {X : Cx}
def rIndexT (K : PySem.W.Frag) : V → List V → Hp → VK → Prop := fun x xs H Q => ∃ (a : Addr) (y : V) (d : Dt) (ds : List Dt) (j : Nat) (z : Dt), x = V.ref a ∧ xs = [y] ∧ DtAt K H (V.ref a) (.lst ds) ∧ DtAt K H y d ∧ d.depth ≤ 60 ∧ Dt.depthAll ds ≤ 60 ∧
  ds[j]? = some z ∧ Dt.beq z d = true ∧ (∀ (m : Nat) (z' : Dt), m < j → ds[m]? = some z' → Dt.beq z' d = false) ∧ Q (.int (j : Nat)) H
theorem DtAll.get {h : Heap} : ∀ {ds : List Dt} {vs : List Value} {m : Nat} {v : Value}, DtAll h ds vs → vs[m]? = some v → ∃ d, ds[m]? = some d ∧ DtIs h d v
  | _, _, _, _, .nil, e => by simp at e
  | _, _, 0, _, .cons r _, e => by simp at e; subst e; exact ⟨_, rfl, r⟩
  | _, _, m + 1, _, .cons _ t, e => by
    obtain ⟨d, h1, h2⟩ := DtAll.get (m := m) t (by simpa using e)
    exact ⟨d, by simpa using h1, h2⟩
theorem DtAll.len {h : Heap} : ∀ {ds : List Dt} {vs : List Value}, DtAll h ds vs → ds.length = vs.length
  | _, _, .nil => rfl
  | _, _, .cons _ t => by rw [List.length_cons, List.length_cons, DtAll.len t]
theorem mt_indexT (hu : X.A.units + 65 < cLine) : MtR X "list.index" (rIndexT X.K) := by
  intro pins s σ H x xs v us Q I rx rxs h
  obtain ⟨a, y, d, ds, j, z, rfl, rfl, hl, hy, hd1, hd2, hz, hzj, hno, q⟩ := h
  cases rx
  cases rxs with
  | cons ry rt =>
    rename_i uy ut
    cases rt
    have r1 := DtAt.is I d y uy hy ry
    cases hl with
    | lst hs ha =>
      obtain ⟨its, rv, ⟨⟨cls, dd, data, sls⟩, n, ho, hc, hdn, hdt⟩, hlen⟩ := I.list hs
      simp only at hc hdt
      subst hc hdt
      have h4 := DtsAt.is I ds _ its ha rv
      have hn := h4.len
      have hvl := rv.length
      have hsl := sizeLine_eq
      obtain ⟨hjd, _⟩ := List.getElem?_eq_some_iff.mp hz
      have hjl : j < its.length := by omega
      have hj : j < its.toArray.size := by simpa using hjl
      have at_ : ∀ (m : Nat) (hm : m < its.toArray.size) (z' : Dt), ds[m]? = some z' → datOf s.heap its.toArray[m] = z' := by
        intro m hm z' hz'
        have hml : m < its.length := by simpa using hm
        obtain ⟨d', h5, h6⟩ := h4.get (List.getElem?_eq_getElem hml)
        rw [hz'] at h5
        obtain rfl := Option.some.inj h5
        exact datOf_eq (by simpa using h6)
      refine call_meets PySem.F.slot_list_index ⟨_, ho, rfl⟩ PySem.F.entry_list_index (PySem.F.args_list_index_2 _ _)
        (SeqAt.list_indexAt a its.toArray n dd sls uy (fun u => Dt.beq (datOf s.heap u) d) j hj (by omega) ?_ ?_) ⟨ho, ?_, ?_⟩
      · show Dt.beq (datOf s.heap its.toArray[j]) d = true
        rw [at_ j hj z hz]
        exact hzj
      · intro m hm hmj
        have hmd : m < ds.length := by omega
        have hz' : ds[m]? = some ds[m] := List.getElem?_eq_getElem hmd
        show Dt.beq (datOf s.heap its.toArray[m]) d = false
        rw [at_ m hm _ hz']
        exact hno m _ hmj hz'
      · intro w hw
        obtain ⟨c, hc, rc⟩ := DtAll.mem h4 (by simpa using hw)
        show SeqAt.EqAt _ _ _ _ (Dt.beq (datOf s.heap w) d)
        rw [datOf_eq rc]
        have hc2 := Dt.depth_mem hc
        exact eqAt_dt c d _ s _ _ rc r1 (by first | (rw [Around.in1_units, Around.in1_units]; omega) | (rw [Around.in1_units]; omega) | omega)
      · exact ⟨.int (j : Nat), H, I.tok _, ⟨_, rfl⟩, q⟩
end
/-! ### a dict comprehension over enumerate(list) -/
theorem dn_enum {K : PySem.W.Frag} {P : Program} {w : World} {g : TG} {tt : TT} {tk tv : TE} {vs : List Nat} {σ : L2.St} {a : Addr} {xs : List V} {H2 : Hp} {D : Addr} {Qd : Hp → Prop} (Pv : Nat → Hp → Prop) (h0 : Pv 0 H2) (hl : ∀ i H, i ≤ xs.length → Pv i H → SqL K H a xs)
    (hs : ∀ i x H T, xs[i]? = some x → Pv i H → H T = none → g (.ref T) (wipe σ vs) (upd H T (.tup [.int (i : Nat), x])) fun σ2 H2 => wipe σ2 vs = wipe σ vs ∧ tt σ2 H2 fun b H3 =>
      if b = true then tk σ2 H3 fun y H4 => tv σ2 H4 fun z H5 => ∃ a kvs k, y = .ref a ∧ ND P w K H5 D kvs ∧ KyAt K H5 (.ref a) k ∧ kvs.length < sizeLine ∧ ∀ H6, ND P w K H6 D (putK kvs k z) → Stp [D] H5 H6 → Pv (i + 1) H6 else Pv (i + 1) H3) (hd : ∀ H, Pv xs.length H → Qd H) :
    ∃ W : Nat → Nat → Hp → Prop, (∃ m, W 0 m H2) ∧ ∀ i m H, W i m H →
      ((Ite K a).stop i H ∧ Qd H) ∨ ((Ite K a).go i H ∧ ∃ Nx : Hp → Prop, (∀ H', Nx H' → ∃ m', m' < m ∧ W (i + 1) m' H') ∧ ∀ x H', (Ite K a).yld i H x H' → g x (wipe σ vs) H' fun σ2 H2 => wipe σ2 vs = wipe σ vs ∧ tt σ2 H2 fun b H3 =>
        if b = true then tk σ2 H3 fun y H4 => tv σ2 H4 fun z H5 => ∃ a kvs k, y = .ref a ∧ ND P w K H5 D kvs ∧ KyAt K H5 (.ref a) k ∧ kvs.length < sizeLine ∧ ∀ H6, ND P w K H6 D (putK kvs k z) → Stp [D] H5 H6 → Nx H6 else Nx H3) := by
  refine ⟨fun i m H => m + i = xs.length ∧ Pv i H, ⟨xs.length, rfl, h0⟩, fun i m H ⟨em, p⟩ => ?_⟩
  have at_ := hl i H (by omega) p
  match m, em with
  | 0, em =>
    have e : i = xs.length := by omega
    subst e
    exact .inl ⟨⟨xs, at_, Nat.le_refl _⟩, hd H p⟩
  | m + 1, em =>
    have lt : i < xs.length := by omega
    refine .inr ⟨⟨xs, xs[i], at_, List.getElem?_eq_getElem lt⟩, Pv (i + 1), fun H' p' => ⟨m, Nat.lt_succ_self m, by omega, p'⟩, fun x H' ⟨T, z, e, n, eh, hz⟩ => ?_⟩
    subst e eh
    exact hs i z _ T (hz xs at_) p n
theorem hu65 {A : Around} {k : Nat} (hr : Room k A) : A.units + 65 < cLine := by have := hr.un; omega
section
variable {X : Cx} {K : PySem.W.Frag}
theorem mt_indexTK (eK : X.K = K) (hu : X.A.units + 65 < cLine) : MtR X "list.index" (rIndexT K) := by subst eK; exact mt_indexT hu
variable {o e : Expr} {es : List Expr} {to : TE} {t : TA} {name : Str} {apos cpos : Pos} {T id : String} {r : V → List V → Hp → VK → Prop}
theorem pe_bmK (eK : X.K = K) (pa : PlainAttrs T) (slot : Slot T name id) (hty : typeOf (.builtin id) = pure (.type "method_descriptor")) (hm : MtR X id r) (ho : PE X o to) (ha : PA X (e :: es) t)
    (hbase : attributeBase o name X.env (eval o X.env) = eval o X.env := by rfl)
    (hfew : ((backTo cpos (starEach (e :: es) X.env)).all (fun x => !x.1) && (backToKw cpos (keywordEach [] X.env)).all (fun x => x.1.isSome)
      && decide ((e :: es).length + ([] : List Keyword).length + (if ([] : List Keyword).isEmpty then 0 else 1) < 30)) = true := by rfl)
    (hline : (apos.endLine == cpos.line) = true := by rfl) (hs : starEach (e :: es) X.env = (false, eval e X.env) :: starEach es X.env := by rfl) (hplain : (backTo cpos (starEach es X.env)).any (·.1) = false := by rfl) :
    PE X (.Call (.Attribute o name apos) (e :: es) [] cpos) (tBM K T r to t) := by
  subst eK; exact pe_bm pa slot hty hm ho ha hbase hfew hline hs hplain
end
section
variable {P : Program} {w : World} {K : PySem.W.Frag} {H H1 : Hp} {M : List Addr} {d : Addr} {kvs : List NKV}
theorem NDR.stp' (h : NDR P w K H d kvs) (s : Stp M H H1) (n : d ∉ M) : NDR P w K H1 d kvs :=
  let ⟨xs, e, k, q⟩ := h
  ⟨xs, e.elim (fun e => .inl (s.keep _ _ e n)) (fun ⟨o, e⟩ => .inr ⟨o, s.keep _ _ e n⟩), k.stp s, q⟩
end
end GT

/-! ## statements that are never reached; a sign so many times -/
namespace GT
open PySem PySem.Spec PyProof.Rows L2
section
variable {X : Cx}
/-- of a statement that is never reached nothing is asked -/
def tNever : TS := fun _ _ _ => False
theorem ps_never {st : Stmt} : PS X st tNever := ⟨fun pins s σ H D I h => h.elim⟩
def rMulS : R2 := fun x y H Q => ∃ (z : Str) (n : Int), x = .str z ∧ y = .int n ∧ z.length = 1 ∧ 0 ≤ n ∧ n ≤ 1000 ∧ Q (.str (Txt.mul z n)) H
theorem op_mul_str : OpR X (binaryOp .Mult) rMulS := by
  rintro pins s σ H x y u v Q I rx ry ⟨z, n, rfl, rfl, hz, h0, h1, q⟩
  obtain ⟨t, rfl⟩ := (show ∃ t, u = Value.str z t from rx)
  obtain ⟨t2, rfl⟩ := (show ∃ t, v = Value.int n t from ry)
  refine PySem.SB.mul ⟨?_, fun a b => ?_, fun a b => ?_⟩ fun t' k => ⟨.str _, H, I.tok _, ⟨t', rfl⟩, q⟩
  · simp; omega
  · rw [hz]
    have h2 : (1 : Int) ≤ (2 ^ 63 - 1) / n := by
      rw [Int.le_ediv_iff_mul_le (by omega)]; omega
    show ¬ ((1 : Nat) : Int) > (2 ^ 63 - 1) / n
    omega
  · rw [hz]
    have h3 : n.toNat ≤ 1000 := by omega
    have h4 := sizeLine_eq
    unfold PySem.Builtin.Str.tooLong
    rw [decide_eq_false_iff_not, h4]
    omega
end
section
variable {σ : L2.St} {H : Hp} {Q : VK} {te : TE} {R : It → Hp → Prop}
theorem i_Str (q : te σ H fun v H1 => ∃ x, v = .str x ∧ R (Its x) H1) : iStr te σ H R := q
end
end GT

/-! ## set(list of ints) -/
namespace GT
open PySem PySem.Spec PyProof.Rows L2
section
variable {P : Program} {w : World} {A : Around} {E : Value → Shared → Prop} {s : Shared}
/-- the set is filled: what stood before stands -/
def Filled (w : World) (s : Shared) (ns : List Int) (t : Shared) : Prop :=
  ∃ (h2 : Heap) (t2 m : Nat), t = { s with heap := h2, toks := t2 } ∧ SetR w h2 s.heap.objs.size (fun j => decide (j ∈ ns)) m ∧ m ≤ ns.length ∧ ∀ b o, s.heap.get? b = some o → h2.get? b = some o
theorem call_set_ints {l : Addr} {xs : Array Value} {ns : List Int} {Q : Value → Shared → Prop} (nh : A.handled = none) (hl : s.heap.IsList l xs) (hx : IntsAre xs.toList ns) (lim : ns.length + 1 < scanBound)
    (fin : ∀ t, Filled w s ns t → Q (.ref s.heap.objs.size) t) : wpAny (model P w) A (call (.type "set") [.ref l]) Q E s := by
  have size_eq : xs.size = ns.length := by rw [← Array.length_toList]; exact IntsAre.length hx
  obtain ⟨_, _, order⟩ := F.called_set.mro
  have is_made := F.called_set.made
  have is_sub := F.called_set.sub
  have not_type := F.called_set.notType
  have creates := F.called_set.canCreate
  have checked := F.typeCall_set_1 (.ref l)
  refine wpAny_call (codeAny_of_tree (wpAny_pure ⟨Code.quiet_builtin _ (by decide +kernel), codeAny_builtin F.entry_type_call ?_⟩))
  rw [Around.under_plain (weight_type_call_type "set" [.ref l] []) rfl]
  repeat (any_goals (first | assumption | wp_step))
  generalize hN : ({ cls := .type "set", dict := none, data := .set #[] 0 (.fresh 0 0 (!w.params.followText "set-order")) } : Obj) = N
  have ncls : N.cls = .type "set" := by rw [← hN]
  refine codeAny_mono (code_set_led1 (.ref l) (E := E) (Q₁ := fun o t => o = .ref s.heap.objs.size ∧ t = { s with heap := s.heap.push N }) (by rw [hN]; exact ⟨rfl, rfl⟩)) fun r t hr => ?_
  rcases r with _ | f
  · exact hr
  rcases f with o | _ | _ | _
  rotate_left
  all_goals try exact hr.elim
  obtain ⟨rfl, rfl⟩ := hr
  have at_new : (s.heap.push N).get? s.heap.objs.size = some N := Heap.get?_push_size _ (by rw [← hN]; rfl)
  have kind : Shared.TypeIs { s with heap := s.heap.push N } (.ref s.heap.objs.size) "set" := ⟨N, at_new, ncls⟩
  have init_at := F.called_set.init.lookup
  have init_bound := F.called_set.init.bind (.ref s.heap.objs.size)
  repeat (any_goals (first | assumption | wp_step))
  refine codeAny_mono (codeAny_call_builtin (R := wants (fun r t => r = .none ∧ Filled w s ns t) E) F.called_set.init.plain F.entry_set_init (check_set_init_1 kind ?_)) fun r t hr => ?_
  · obtain ⟨⟨c, d, dt, sl⟩, ol, hc, n, hd⟩ := hl
    obtain rfl : c = .type "list" := hc
    obtain rfl : dt = .seq xs n := hd
    have l_old := Heap.lt_size ol
    have ol2 : (s.heap.push N).get? l = some { cls := .type "list", dict := d, data := .seq xs n, slots := sl } := Heap.get?_push_of_some _ ol
    have fact1 := F.sub_list_set
    have fact2 := F.sub_list_frozenset
    have fact3 : (Value.type "list" == Value.type "dict") = false := by decide
    have is_l : (s.heap.push N).IsList l xs := ⟨_, ol2, rfl, n, rfl⟩
    have grown : (s.heap.push N).objs.size = s.heap.objs.size + 1 := Heap.size_push ..
    have apart : l ≠ (s.heap.push N).objs.size := by rw [grown]; exact Nat.ne_of_lt (Nat.lt_succ_of_lt l_old)
    have apart2 : s.heap.objs.size ∉ [(s.heap.push N).objs.size, l] := by
      rw [grown]
      intro z
      rcases List.mem_cons.mp z with z | z
      · exact Nat.ne_of_lt (Nat.lt_succ_self _) z
      · exact Nat.ne_of_gt l_old (List.mem_singleton.mp z)
    subst hN
    unfold Builtin.«set.__init__» noKeywords Builtin.Frozenset.updateFrom
    generalize hPI : pyIter = PI
    wp_walk
    subst hPI
    refine wpAny_pyIter_list is_l ?_
    refine wpAny_bind (wpAny_runValue ?_)
    have out : A.in1.in1.in1.handled = none := by simp [nh]
    refine set_update_ints ((Walks.list out _ l apart xs).toS) s.heap.objs.size apart2 ns size_eq lim (fun i v hv => ?_) xs.size 0 _ (Nat.sub_zero _) (Nat.zero_le _) ⟨⟨_, Heap.get?_push_size _ rfl, rfl, rfl⟩, is_l.push _⟩ ⟨0, Nat.le_refl 0, ?_⟩ fun t m mv hm R => ?_
    · have hi : i < ns.length := by rw [← size_eq]; exact (Array.getElem?_eq_some_iff.mp hv).1
      obtain ⟨k, e⟩ := IntsAre.int_at hx i v (by rw [Array.getElem?_toList]; exact hv)
      refine ⟨ns[i], k, List.getElem?_eq_getElem hi, ?_⟩
      rw [e]
      simp [hi]
    · exact setR_new_at (Heap.get?_push_of_some _ at_new)
    · obtain ⟨h2, g2, d2, t2, os2⟩ := t
      obtain rfl : g2 = s.gens := mv.gens
      obtain rfl : d2 = s.drawn := mv.drawn
      obtain rfl : os2 = s.os := mv.os
      refine wpAny_pure (show wpAny _ _ (ret Value.none) _ _ _ from wpAny_pure ⟨rfl, h2, t2, m, rfl, R, by omega, fun b o e => ?_⟩)
      have old := Heap.lt_size e
      exact mv.heap b o (fun z => (List.mem_cons.mp z).elim (fun z => Nat.ne_of_lt old z) fun z => Nat.ne_of_lt (Nat.lt_succ_of_lt old) ((List.mem_singleton.mp z).trans grown)) (Heap.get?_push_of_some _ (Heap.get?_push_of_some _ e))
  · rcases r with _ | f
    · exact hr
    rcases f with o | _ | _ | _
    rotate_left
    all_goals try exact hr.elim
    obtain ⟨rfl, hf⟩ := hr
    repeat (any_goals (first | assumption | wp_step))
    exact fin _ hf
end
end GT

namespace GT
open PySem PySem.Spec PyProof.Rows L2
/-! ### ascending lists of ints -/
theorem asc_eq : ∀ {l m : List Int}, l.Pairwise (· < ·) → m.Pairwise (· < ·) → (∀ k, k ∈ l ↔ k ∈ m) → l = m
  | [], [], _, _, _ => rfl
  | [], b :: m, _, _, h => absurd ((h b).mpr List.mem_cons_self) (by simp)
  | a :: l, [], _, _, h => absurd ((h a).mp List.mem_cons_self) (by simp)
  | a :: l, b :: m, hl, hm, h => by
    obtain ⟨l1, l2⟩ := List.pairwise_cons.mp hl
    obtain ⟨m1, m2⟩ := List.pairwise_cons.mp hm
    have e : a = b := by
      rcases List.mem_cons.mp ((h a).mp List.mem_cons_self) with z | z
      · exact z
      · rcases List.mem_cons.mp ((h b).mpr List.mem_cons_self) with y | y
        · exact y.symm
        · have := m1 a z
          have := l1 b y
          omega
    subst e
    rw [asc_eq l2 m2 fun k => ?_]
    constructor
    · intro hk
      rcases List.mem_cons.mp ((h k).mp (List.mem_cons_of_mem _ hk)) with z | z
      · have := l1 k hk; omega
      · exact z
    · intro hk
      rcases List.mem_cons.mp ((h k).mpr (List.mem_cons_of_mem _ hk)) with z | z
      · have := m1 k hk; omega
      · exact z
def putA (k : Int) : List Int → List Int
  | [] => [k]
  | a :: l => if k < a then k :: a :: l else if k = a then a :: l else a :: putA k l
theorem putA_mem (k : Int) : ∀ (l : List Int) (x : Int), x ∈ putA k l ↔ x = k ∨ x ∈ l
  | [], x => by simp [putA]
  | a :: l, x => by
    unfold putA
    by_cases h1 : k < a
    · rw [if_pos h1]; simp
    · rw [if_neg h1]
      by_cases h2 : k = a
      · rw [if_pos h2]; simp [h2]
      · rw [if_neg h2, List.mem_cons, putA_mem k l x, List.mem_cons]
        constructor
        · rintro (z | z | z)
          · exact .inr (.inl z)
          · exact .inl z
          · exact .inr (.inr z)
        · rintro (z | z | z)
          · exact .inr (.inl z)
          · exact .inl z
          · exact .inr (.inr z)
theorem putA_asc (k : Int) : ∀ (l : List Int), l.Pairwise (· < ·) → (putA k l).Pairwise (· < ·)
  | [], _ => by simp [putA]
  | a :: l, h => by
    obtain ⟨h1, h2⟩ := List.pairwise_cons.mp h
    unfold putA
    by_cases c1 : k < a
    · rw [if_pos c1]
      refine List.pairwise_cons.mpr ⟨fun x hx => ?_, h⟩
      rcases List.mem_cons.mp hx with z | z
      · omega
      · have := h1 x z; omega
    · rw [if_neg c1]
      by_cases c2 : k = a
      · rw [if_pos c2]; exact h
      · rw [if_neg c2]
        refine List.pairwise_cons.mpr ⟨fun x hx => ?_, putA_asc k l h2⟩
        rcases (putA_mem k l x).mp hx with z | z
        · omega
        · exact h1 x z
/-- the members of a list, ascending, each once -/
def sset : List Int → List Int
  | [] => []
  | k :: l => putA k (sset l)
theorem sset_mem : ∀ (l : List Int) (x : Int), x ∈ sset l ↔ x ∈ l
  | [], x => by simp [sset]
  | k :: l, x => by rw [sset, putA_mem, sset_mem l x, List.mem_cons]
theorem sset_asc : ∀ l : List Int, (sset l).Pairwise (· < ·)
  | [] => by simp [sset]
  | k :: l => putA_asc k _ (sset_asc l)
theorem sset_of {l m : List Int} (h : m.Pairwise (· < ·)) (e : ∀ k, k ∈ m ↔ k ∈ l) : m = sset l := asc_eq h (sset_asc l) fun k => (e k).trans (sset_mem l k).symm
theorem sset_cong {l m : List Int} (e : ∀ k, k ∈ l ↔ k ∈ m) : sset l = sset m := sset_of (sset_asc l) fun k => (sset_mem l k).trans (e k)
theorem asc_nodup {l : List Int} (h : l.Pairwise (· < ·)) : l.Nodup := h.imp fun z => Int.ne_of_lt z
theorem sset_nodup (l : List Int) : (sset l).Nodup := asc_nodup (sset_asc l)
theorem sset_le : ∀ l : List Int, (sset l).length ≤ l.length
  | [] => by simp [sset]
  | k :: l => by
    have h := sset_le l
    have : ∀ m : List Int, (putA k m).length ≤ m.length + 1 := by
      intro m
      induction m with
      | nil => simp [putA]
      | cons a m ih =>
        unfold putA
        by_cases c1 : k < a
        · rw [if_pos c1]; simp
        · rw [if_neg c1]
          by_cases c2 : k = a
          · rw [if_pos c2]; simp
          · rw [if_neg c2, List.length_cons, List.length_cons]; omega
    have := this (sset l)
    rw [sset, List.length_cons]; omega
section
variable {X : Cx} {K : PySem.W.Frag}
theorem ints_vals : ∀ {ns : List Int} {us : List Value}, Vals (ns.map V.int) us → IntsAre us ns
  | [], _, .nil => .nil
  | n :: ns, _, .cons r t => by
    obtain ⟨k, rfl⟩ := r
    exact .cons n k (ints_vals t)
/-- set(xs): xs a list of ints -/
def rSetI (K : PySem.W.Frag) (w : World) : List V → Hp → VK → Prop := fun vs H Q => ∃ (l : Addr) (ns : List Int), vs = [.ref l] ∧ SqL K H l (ns.map V.int) ∧ ns.length ≤ 4000 ∧
  ∀ (p : Addr) (m : Nat), H p = none → m ≤ ns.length → Q (.ref p) (upd H p (SetO w p (fun j => decide (j ∈ ns)) m))
theorem cr_setI (hc : X.calm = true) : CallR X (.type "set") (rSetI X.K X.w) := by
  intro pins s σ H vs us Q I r h
  obtain ⟨l, ns, rfl, hs, hl, q⟩ := h
  obtain rfl := Vals.ref1 r
  obtain ⟨its, rv, pl, hz⟩ := I.list hs
  refine call_set_ints (ns := ns) (I.ok.hd hc) pl.isList (by simpa using ints_vals rv) (by unfold scanBound; omega) fun t ⟨h2, t2, m, e, R, hm, hk⟩ => ?_
  subst e
  exact ⟨.ref _, upd H s.heap.objs.size (SetO X.w s.heap.objs.size (fun j => decide (j ∈ ns)) m), I.laid (t' := t2) hk (Nat.le_refl _) (setO_new R), rfl, q _ m (I.hok.fresh (Nat.le_refl _)) hm⟩
/-- len within a comprehension -/
theorem call_len_seqK (e : X.K = K) : CallR X (.builtin "len") (fun xs H Q => ∃ p ys, xs = [V.ref p] ∧ (SqL K H p ys ∨ SqT K H p ys) ∧ Q (V.int (ys.length : Nat)) H) := by subst e; exact call_len_seq
/-- isinstance within a comprehension -/
theorem call_isiK (e : X.K = K) : CallR X (.builtin "isinstance") (rIsi K) := by subst e; exact call_isi
/-- sorted(set(xs)) -/
theorem sset_i {K : PySem.W.Frag} {w : World} {H : Hp} {Q : VK} {l : Addr} {ns : List Int} (h : SqL K H l (ns.map V.int)) (b : ns.length < 64) (q : ∀ (p : Addr) (H1 : Hp), H p = none → H1 p = some (.lst ((sset ns).map V.int)) → Stp [] H H1 → Q (.ref p) H1) :
    rSetI K w [.ref l] H fun v H' => rSortedSet w [v] H' Q := by
  refine ⟨l, ns, rfl, h, by omega, fun p m hp hm => ⟨p, _, m, rfl, upd_same, by omega, fun os p2 h1 h2 h3 h4 => ?_⟩⟩
  have e : os = sset ns := sset_of h1 fun k => by rw [h2]; simp
  have s1 : Stp [] H (upd H p (SetO w p (fun j => decide (j ∈ ns)) m)) := .new hp
  subst e
  exact q p2 _ (s1.free h4 (by simp)) upd_same (s1.trans (.new h4))
theorem sset_t {K : PySem.W.Frag} {w : World} {σ : L2.St} {H : Hp} {Q : VK} {l : Addr} {ns : List Int} (h : SqL K H l (ns.map V.int)) (b : ns.length < 64) (q : ∀ (p : Addr) (H1 : Hp), H p = none → H1 p = some (.lst ((sset ns).map V.int)) → Stp [] H H1 → Q (.ref p) H1) :
    rSetI K w [.ref l] H fun x H1 => tNil σ H1 fun xs H2 => rSortedSet w (x :: xs) H2 Q := sset_i h b q
/-- sorted(d): the keys of d are ints -/
def rSortDI : List V → Hp → VK → Prop := fun vs H Q => ∃ (d : Addr) (kvs : List (Key × V)) (ns : List Int), vs = [.ref d] ∧ H d = some (.dK kvs) ∧ kvs.map (·.1) = ns.map Sum.inl ∧ ns.length < 64 ∧ ns.Nodup ∧
  ∀ p : Addr, H p = none → Q (.ref p) (upd H p (.lst ((sset ns).map V.int)))
theorem sorted_sset {l ns : List Int} (p : l.Perm ns) (o : l.Pairwise (· ≤ ·)) (nd : ns.Nodup) : l = sset ns := by
  refine sset_of ?_ fun k => p.mem_iff
  have nd' := p.nodup_iff.mpr nd
  exact (o.and nd').imp fun ⟨a, b⟩ => by omega
theorem cr_sortDI (hc : X.calm = true) : CallR X (.builtin "sorted") rSortDI := by
  intro pins s σ H vs us Q I r h
  obtain ⟨d, kvs, ns, rfl, hd, hk, h64, nd, q⟩ := h
  obtain rfl := Vals.ref1 r
  obtain ⟨z, lo, es, rel, at0⟩ := dk_of I.hok hd
  obtain ⟨ep, at1⟩ := at0.dictAt
  have l1 : kvs.length = es.length := Paired.length rel
  have l2 : kvs.length = ns.length := by have := congrArg List.length hk; simpa using this
  refine Calls.call_function_entry kind_sorted plain_sorted entry_sorted (args_sorted1 _) ?_
  unfold Builtin.«sorted»
  refine wpAny_bind (m := checkCount "sorted" 1 1 _) (wpAny_pure ?_)
  refine wpAny_bind (PySem.W.kdu_collect (A := X.A.in1) (PySem.W.kdl_dict (knd := mixKind X.prog X.w) (kvs := es) (ep := ep) lo) (I.ok.hd hc) at1 (by omega) fun h1 tk acc keeps items => ?_)
  have l3 : acc.toList.length = ns.length := by rw [Array.length_toList, items.1]; omega
  have vs_ : Vals (ns.map V.int) acc.toList := by
    refine vals_of_at (by rw [List.length_map, l3]) fun j x u e1 e2 => ?_
    obtain ⟨k, y, e3, e4⟩ := items.2 j u (by rw [← Array.getElem?_toList]; exact e2)
    have e5 : (kvs.map (·.1))[j]? = some k := by rw [KV.keys rel, List.getElem?_map, e3]; rfl
    rw [hk, List.getElem?_map] at e5
    obtain ⟨n, e6, rfl⟩ := Option.map_eq_some_iff.mp e5
    rw [List.getElem?_map, e6] at e1
    cases e1
    exact @keyIs_rel (Sum.inl n) u e4
  have iv := ints_vals vs_
  refine wpAny_bind (wpAny_newList ?_ (by rw [l3, sizeLine_eq]; omega))
  have ho : (h1.push (seqObj "list" acc.toList.toArray 0)).get? h1.objs.size = some (seqObj "list" acc.toList.toArray 0) := Heap.get?_push_size _ rfl
  refine wpAny_bind (wpAny_holding (wpAny_call_entry slot_list_sort ⟨_, ho, rfl⟩ entry_list_sort (list_sort_tree ho iv (by rw [l3]; exact h64) fun out os o1 o2 o3 => ⟨_, rfl, ?_⟩) (args_list_sort _)))
  obtain ⟨c, hc'⟩ := sortedHeap_at (vs := acc.toList) (out := out) ho
  obtain rfl := sorted_sset o2 o3 nd
  have lo2 : ((sset ns).map V.int).length ≤ sizeLine := by rw [List.length_map, o2.length_eq]; exact small64 h64
  have I1 : Inv X pins σ H { s with heap := h1, toks := tk } := I.kept keeps
  refine wpAny_pure ⟨_, rfl, .ref h1.objs.size, upd H h1.objs.size (.lst ((sset ns).map V.int)), I1.laid (t' := tk) (fun b u e2 => ?_) (Nat.le_refl _) (show ObjOk X.prog X.w _ _ _ (.lst ((sset ns).map V.int)) from ⟨lo2, out.toList, c, vals_of_ints o1, hc'⟩), rfl, q _ (I1.hok.fresh (Nat.le_refl _))⟩
  have b2 := Heap.lt_size e2
  show (sortedHeap (h1.push (seqObj "list" acc.toList.toArray 0)) h1.objs.size acc.toList out).get? b = some u
  rw [sortedHeap_old (Nat.ne_of_lt b2) (by rw [size_push']; exact Nat.lt_succ_of_lt b2)]
  exact Heap.get?_push_of_some _ e2
end
end GT

/-! ## texts: f'..', split, join -/
namespace GT
open PySem PySem.Spec PyProof.Rows L2
section
variable {σ : L2.St} {H : Hp} {Q : VK} {to te : TE} {r : V → List V → Hp → VK → Prop} {t : TE} {ts : List TE} {acc : Str} {R : Str → Hp → Prop}
theorem i_M1 (q : to σ H fun x H1 => (∃ a, x = .str a) ∧ te σ H1 fun y H2 => r x [y] H2 Q) : tM1 r to te σ H Q := q
theorem i_Fmt (q : te σ H fun x H1 => (∃ y : Str, x = .str y ∧ y.length ≤ sizeLine ∧ Q (.str y) H1) ∨ ∃ i : Int, x = .int i ∧ i.natAbs.log2 < 1920 ∧ Q (.str (toString i)) H1) : tFmt te σ H Q := q
theorem i_Js (q : t σ H fun x H1 => ∃ y : Str, x = .str y ∧ (acc ++ y).length ≤ sizeLine ∧ tJs ts (acc ++ y) σ H1 R) : tJs (t :: ts) acc σ H R := q
theorem i_Js0 (q : R acc H) : tJs [] acc σ H R := q
end
theorem i_SetAt {σ : L2.St} {H : Hp} {v : V} {to ti : TE} {t : TSet} {Q : L2.St → Hp → Prop} (q : to σ H fun o H1 => ti σ H1 fun i H2 => t o i v H2 fun H3 => Q σ H3) : gSub to ti t v σ H Q := q
/-- f'..' of several parts -/
def tJoin (ts : List TE) : TE := fun σ H Q => tJs ts Str.empty σ H fun out H1 => Q (.str out) H1
theorem pe_joinedT {X : Cx} {v1 v2 : Expr} {rest : List Expr} {ts : List TE} {pos : Pos} (h : PJ X (v1 :: v2 :: rest) ts) : PE X (.JoinedStr (v1 :: v2 :: rest) pos) (tJoin ts) := pe_joined h
theorem i_Join {σ : L2.St} {H : Hp} {Q : VK} {ts : List TE} (q : tJs ts Str.empty σ H fun out H1 => Q (.str out) H1) : tJoin ts σ H Q := q
/-- for i, x in enumerate(xs) -/
theorem for_enum {K : PySem.W.Frag} {a : Addr} {xs : List V} {g : TG} {tb : TS} {D : Ends} {σ : L2.St} {H : Hp} (Pv : Nat → L2.St → Hp → Prop) (h0 : Pv 0 σ H) (hl : ∀ i σ H, i ≤ xs.length → Pv i σ H → SqL K H a xs)
    (hs : ∀ i x T σ H, xs[i]? = some x → H T = none → Pv i σ H → g (.ref T) σ (upd H T (.tup [.int (i : Nat), x])) fun σ2 H2 => tb { D with nx := Pv (i + 1), ct := Pv (i + 1), bk := D.nx } σ2 H2) (hd : ∀ σ H, Pv xs.length σ H → D.nx σ H) :
    ∃ W : Nat → Nat → L2.St → Hp → Prop, (∃ m, W 0 m σ H) ∧ ∀ i m σ H, W i m σ H →
      ((Ite K a).stop i H ∧ D.nx σ H) ∨ ((Ite K a).go i H ∧ ∃ N : L2.St → Hp → Prop, (∀ σ' H', N σ' H' → ∃ m', m' < m ∧ W (i + 1) m' σ' H') ∧ ∀ x H', (Ite K a).yld i H x H' → g x σ H' fun σ2 H2 => tb { D with nx := N, ct := N, bk := D.nx } σ2 H2) := by
  refine ⟨fun i m σ H => m = xs.length - i ∧ i ≤ xs.length ∧ Pv i σ H, ⟨xs.length, by simp, Nat.zero_le _, h0⟩, ?_⟩
  rintro i m σ H ⟨em, hi, p⟩
  by_cases c : i < xs.length
  · refine .inr ⟨⟨xs, xs[i], hl i σ H hi p, List.getElem?_eq_getElem c⟩, Pv (i + 1), fun σ' H' h => ⟨m - 1, by omega, by omega, c, h⟩, ?_⟩
    rintro x H' ⟨T, y, rfl, e2, rfl, e4⟩
    exact hs i y T σ H (e4 xs (hl i σ H hi p)) e2 p
  · have e : i = xs.length := by omega
    subst e
    exact .inl ⟨⟨xs, hl _ σ H hi p, Nat.le_refl _⟩, hd σ H p⟩
end GT

/-! ## errors of the program's own: classes over ValueError with an __init__ that calls the base's -/
namespace GT
open PySem PySem.Spec PyProof.Rows L2
/-- what the written part must say of such a class -/
def oexB (K : PySem.W.Frag) (C : Addr) : Bool := match K.lookup C with
  | some ⟨.type "type", _, .cls cd, sl⟩ => (match cd.mro, sl.toList with
    | .ref C' :: bm, [_, _, _, _, some (.builtin n), _] => C' == C && (n == "ValueError.__new__" && (!cd.hasDel && (cd.hasDict && HandSPX.refsVE bm)))
    | _, _ => false)
  | _ => false
theorem oexB_ok {K : PySem.W.Frag} {C : Addr} (q : oexB K C = true) : ∃ nm q N bs bm sn sub ab col dd k0 k1 k2 k3 k5, K.lookup C = some (excClassObj nm q C N bs bm true sn sub ab col dd k0 k1 k2 k3 k5 "ValueError.__new__") ∧ HandSPX.refsVE bm = true := by
  unfold oexB at q
  split at q
  · rename_i dd cd sl ho
    split at q
    · rename_i C' bm k0 k1 k2 k3 n k5 hm hs
      simp only [Bool.and_eq_true, beq_iff_eq, Bool.not_eq_true'] at q
      obtain ⟨rfl, rfl, h1, h2, h3⟩ := q
      obtain ⟨nm, bs, mro, ns, qn, hd, sn, sub, ab, col, del⟩ := cd
      dsimp only at hm h1 h2
      subst hm h1 h2
      have hsl : sl = #[k0, k1, k2, k3, some (.builtin "ValueError.__new__"), k5] := by
        obtain ⟨l⟩ := sl
        simp only at hs
        rw [hs]
      subst hsl
      exact ⟨nm, qn, ns, bs, bm, sn, sub, ab, col, dd, k0, k1, k2, k3, k5, ho, h3⟩
    · cases q
  · cases q
/-- all that is asked of an error's class C: made, its fields written and read, isinstance -/
structure ErrC (K : PySem.W.Frag) (C : Addr) : Prop where
  ox : OexC K C
  xf : XfC K C
  is_ : ExcC K C
def errB (K : PySem.W.Frag) (C : Addr) : Bool :=
  oexB K C && (decide (PySem.W.findIn K (.ref C) "__setattr__" = some (some (.builtin "object.__setattr__"))) && (decide (PySem.W.subIn K (.ref C) (.type "BaseException") = some true) && (decide (PySem.W.typeIn K (.ref C) = some (.type "type")) &&
    (PySem.W.keepIn K (.ref C) && (xfB K C && (decide (PySem.W.findIn K (.ref C) "__class__" = some (some (.builtin "object.__class__"))) && (decide (PySem.W.specialIn K (.builtin "object.__class__") "__get__" = some (some (.builtin "getset_descriptor.__get__"))) &&
      (decide (PySem.W.takesIn K (.builtin "object.__class__") = some true) && decide (PySem.W.mroIn K C (.type "object") = some true)))))))))
theorem errB_ok {K : PySem.W.Frag} {C : Addr} (q : errB K C = true) : ErrC K C := by
  unfold errB at q
  simp only [Bool.and_eq_true, decide_eq_true_eq] at q
  obtain ⟨h1, h2, h3, h4, h5, h6, h7, h8, h9, h10⟩ := q
  have x := xfB_ok h6
  exact ⟨⟨oexB_ok h1, h2, h3, h4, h5⟩, x, ⟨x.ga, x.gg, h3, x.hdC, h7, h8, h9, h10⟩⟩
/-- the class B whose __init__ is ValueError's -/
structure BasC (K : PySem.W.Frag) (B : Addr) : Prop where
  ga : PySem.W.specialIn K (.ref B) "__getattribute__" = some (some (.builtin "type.__getattribute__"))
  ty : PySem.W.typeIn K (.ref B) = some (.type "type")
  rd : PySem.W.readsIn K B (.type "type") = true
  vi : PySem.W.findCls K (.ref B) (.type "type") "__init__" = some (.val (.builtin "ValueError.__init__"))
def isVal (v : Value) : Option PySem.W.CFound → Bool
  | some (.val x) => x == v
  | _ => false
theorem isVal_ok {v : Value} {o : Option PySem.W.CFound} (h : isVal v o = true) : o = some (.val v) := by
  cases o with
  | none => cases h
  | some f =>
    cases f with
    | val x => rw [show x = v from beq_iff_eq.mp h]
    | get g a o t => cases h
def basB (K : PySem.W.Frag) (B : Addr) : Bool :=
  decide (PySem.W.specialIn K (.ref B) "__getattribute__" = some (some (.builtin "type.__getattribute__"))) && (decide (PySem.W.typeIn K (.ref B) = some (.type "type")) && (PySem.W.readsIn K B (.type "type") &&
    isVal (.builtin "ValueError.__init__") (PySem.W.findCls K (.ref B) (.type "type") "__init__")))
theorem basB_ok {K : PySem.W.Frag} {B : Addr} (q : basB K B = true) : BasC K B := by
  unfold basB at q
  simp only [Bool.and_eq_true, decide_eq_true_eq] at q
  exact ⟨q.1, q.2.1, q.2.2.1, isVal_ok q.2.2.2⟩
section
variable {X : Cx} {e : Expr} {es : List Expr} {ta : TA} {x : Str} {B : Addr} {p p1 p2 pos : Pos}
/-- B.__init__(self, ..), B an own class over ValueError without an __init__ -/
theorem pe_binit {pl : Sem Bool} (T : BasC X.K B) (hg : Gl X x) (hm : X.mg x = some (.ref B)) (ha : PA X (e :: es) ta) (hdb : (x == ("__debug__" : Str)) = false := by decide)
    (hc : eval (.Call (.Attribute (.Name x p1) "__init__" p2) (e :: es) [] pos) X.env = (do
      let ov ← eval (.Name x p1) X.env
      standAt p2.atName
      let (f, first) ← holding [ov] (getMethod ov "__init__" pl)
      callWith pos f first (backTo pos (starEach (e :: es) X.env)) (backToKw pos (keywordEach [] X.env))) := by rfl)
    (he : starEach (e :: es) X.env = (false, eval e X.env) :: starEach es X.env := by rfl) (hpl : (backTo pos (starEach es X.env)).any (·.1) = false := by rfl) :
    PE X (.Call (.Attribute (.Name x p1) "__init__" p2) (e :: es) [] pos) (tVeI X.K ta) := by
  refine ⟨fun pins s σ H Q I h => ?_⟩
  refine PySem.W.methodCall_KW (ld_glob I hg hm ?_ hdb) hc
  obtain ⟨m, fr⟩ := I.fr
  refine PySem.W.method_of_cls fr I.ok.mod.kin T.ga ?_
  refine PySem.W.cls_val fr I.ok.mod.kin T.ty T.rd T.vi (by decide +kernel) ?_
  show wpAny _ _ (callWith pos (Value.builtin "ValueError.__init__") [] (backTo pos (starEach (e :: es) X.env)) []) _ _ _
  refine PyProof.Rows.callWith_method1 (thn (ha.run pos pins _ σ H _ (I.tok _) h) fun us s1 ⟨vs, H1, I1, r1, a, C, ws, ev, hl, O, ea, q⟩ => ?_) he hpl
  subst ev
  cases r1 with
  | @cons _ u0 _ ur ra rw' =>
    obtain rfl : u0 = Value.ref a := ra
    exact oinit_ok O I1 ea (by rw [← Paired.length rw', sizeLine_eq]; omega) fun s' J => ⟨.non, H1, J, rfl, q⟩
end
/-! ### making such an error, raising it -/
theorem exm_same {H : Hp} {a dx : Addr} {o1 o2 o3 o4 : HO} (hn : H a = none) (ne : dx ≠ a) : upd (del (upd (upd (upd H a o1) dx o2) a o3) a) dx o4 = upd H dx o4 := by
  funext b
  by_cases h : b = dx
  · rw [h, upd_same, upd_same]
  · rw [upd_ne h, upd_ne h]
    by_cases h2 : b = a
    · rw [h2, del_same, hn]
    · rw [del_ne h2, upd_ne h2, upd_ne h, upd_ne h2]
/-- __init__(self, v) of the class C: v becomes the field f -/
def spErr (C : Addr) (f : Str) (G : V → Prop) : Sp := fun vs H Q _ => ∃ (a : Addr) (v : V), vs = [.ref a, v] ∧ G v ∧ H a = some (exo a C none) ∧
  ∀ dx, H dx = none → dx ≠ a → Q .non (upd (upd H dx (exd dx [(f, v)])) a (exo a C (some dx)))
/-- the class x, at C: its errors bear the field f, of which G holds -/
def Err (P : Program) (w : World) (K : PySem.W.Frag) (mg : Str → Option Value) (base : Heap) (k : Nat) (C : Addr) (x : Str) (f : Str) (G : V → Prop) (y : Str) : Prop :=
  ErrC K C ∧ PySem.W.findIn K (.ref C) f = some none ∧ mg x = some (.ref C) ∧ ∃ (fI : Addr) (fd : FuncData), FnOk P w K mg base CX0 k fI fd ["self", y] (spErr C f G) ∧
    PySem.W.findIn K (.ref C) "__init__" = some (some (.ref fI)) ∧ PySem.W.typeIn K (.ref fI) = some (.type "function") ∧ Binds K fd ["self", y] []
def tMkE (C : Addr) (f : Str) (G : V → Prop) (ta : TA) : L2.St → Hp → XK → Prop := fun σ H Q => ta σ H fun vs H1 => ∃ v, vs = [v] ∧ G v ∧ ∀ d, H1 d = none → Q (.ref C) (some d) (upd H1 d (.xd [(f, v)]))
section
variable {X : Cx} {e : Expr} {es : List Expr} {ta : TA} {x f y : Str} {C : Addr} {p p1 p2 pos pos2 : Pos} {k : Nat} {G : V → Prop}
def tWeak (ta : TA) : TA := fun σ H Q => ∃ R : List V → Hp → Prop, ta σ H R ∧ ∀ vs H1, R vs H1 → Q vs H1
theorem pa_weak {es : List Expr} (ha : PA X es ta) : PA X es (tWeak ta) := ⟨fun pos pins s σ H Q I ⟨R, h, m⟩ => thn (ha.run pos pins s σ H R I h) fun us s1 ⟨vs, H1, I1, r, q⟩ => ⟨vs, H1, I1, r, m vs H1 q⟩⟩
theorem pmk_err (T : Err X.prog X.w X.K X.mg X.base k C x f G y) (hr : Room (k + 1) X.A) (hg : Gl X x) (ha : PA X (e :: es) ta)
    (hdb : (x == ("__debug__" : Str)) = false := by decide) (he : starEach (e :: es) X.env = (false, eval e X.env) :: starEach es X.env := by rfl) (hpl : (backTo pos (starEach es X.env)).any (·.1) = false := by rfl) :
    PMk X (.Call (.Name x p) (e :: es) [] pos) (tMkE C f G ta) := by
  obtain ⟨E, hf, hm, fI, fd, F, hi, hty, hb⟩ := T
  intro pins s σ H Q I h
  refine pmk_oex E.ox hi hty F hr hb .nil pass0 hg hm (pa_weak ha) hdb he hpl pins s σ H Q I ⟨_, h, ?_⟩
  rintro vs H1 ⟨v, rfl, hG, q⟩
  refine ⟨by simp, fun a hn => ⟨a, v, rfl, hG, upd_same, fun dx hd ne => ?_⟩⟩
  have hd1 : H1 dx = none := by rw [upd_ne ne] at hd; exact hd
  refine ⟨rfl, dx, [(f, v)], upd_same, by rw [upd_ne ne, upd_same], hd1, ?_⟩
  rw [exm_same hn ne]
  exact q dx hd1
end
/-! ### isinstance of a caught error that has fields -/
section
open PySem.W PySem.Calls
theorem found_class {K : Frag} {D : Addr} {od : Option Obj} (T : ExcC K D) : findObj K D od "__class__" = some (.bind (.builtin "getset_descriptor.__get__") (.builtin "object.__class__")) := by
  obtain ⟨cd, hc, _⟩ := any_some T.hd
  have c : (clsIn K D).isSome = true := by rw [hc]; rfl
  cases od with
  | none => exact findObj_dataN c T.ha T.hn T.ht
  | some o => exact findObj_data c T.ha T.hn T.ht
theorem attr_class {prog : Program} {w : World} {A : Around} {E : Value → Shared → Prop} {s : Shared} {K : Frag} {x D : Addr} {ox : Obj} {od : Option Obj} {Q : Option Value → Shared → Prop} (T : ExcC K D) (X : K.In s.heap) (I : InstAt s.heap x ox D od)
    (h : Q (some (.ref D)) { s with toks := s.toks + 1 }) : wpAny (model prog w) A (getAttr? (.ref x) "__class__") Q E s := by
  obtain ⟨hp, g, d, t, os⟩ := s
  have L0 := I.type (M := model prog w)
  have L1 := looks_findIn (M := model prog w) X T.hg
  have L2 := looks_findIn (M := model prog w) X T.hk
  have L3 := looks_find (M := model prog w) X I (found_class T)
  have sub : Looks (model prog w) hp (isInstance (.ref x) (.type "BaseException")) true := L0.andThen (looks_subIn X T.hs)
  have n1 : (false && onTheHeap (Value.builtin "BaseException.__getattribute__")) = false := rfl
  have n2 : (onTheHeap (Value.ref D) && Value.builtin "BaseException.__getattribute__" == Value.builtin "object.__getattribute__") = false := by
    rw [show (Value.builtin "BaseException.__getattribute__" == Value.builtin "object.__getattribute__") = false by decide +kernel]; rfl
  unfold getAttr? getAttrBy? getAttrBy
  refine wpAny_bind (wpAny_mkText (wpAny_bind (wpAny_attempt (wpAny_holding (wpAny_bind (L0.at (wpAny_bind (L1.at ?_))))))))
  show wpAny _ _ (if (onTheHeap (Value.ref D) && Value.builtin "BaseException.__getattribute__" == Value.builtin "object.__getattribute__") = true then _ else _) _ _ _
  rw [n2, if_neg Bool.false_ne_true]
  unfold getAttrByItsOwn hookBefore
  refine wpAny_bind ?_
  rw [if_pos (show onTheHeap (Value.ref D) = true from rfl)]
  refine L2.at (wpAny_bind (wpAny_attempt (wpAny_holding ?_)))
  unfold callGetattribute
  rw [n1, if_neg Bool.false_ne_true]
  unfold boundAndCalled
  rw [PySem.F.excAttr_ValueError.ga.bind (.ref x)]
  refine wpAny_bind (wpAny_pure ?_)
  show wpAny _ _ (call (.builtin "BaseException.__getattribute__") [.ref x, .str "__class__" t]) _ _ _
  refine wpAny_call (codeAny_call_builtin PySem.F.excAttr_ValueError.ga.plain PySem.F.entry_bexc_ga ?_)
  refine @check_slot (model prog w) _ _ ⟨hp, g, d, t + 1, os⟩ "BaseException.__getattribute__" "BaseException" "__getattribute__" (.ref x) [.str "__class__" t] [] _ (by decide +kernel) (by decide +kernel) sub (PySem.F.args_bexc_ga (.ref x) (.str "__class__" t)) ?_
  unfold Builtin.«object.__getattribute__»
  refine wpAny_bind (wpAny_of_eq (a := ((Value.ref x : Value), [Value.str "__class__" t])) (by first | rfl | (simp only [slotArgs]; rfl)) ?_)
  refine wpAny_bind (wpAny_pure (wpAny_bind (L0.at (wpAny_bind (L3.at ?_)))))
  show wpAny _ _ (holding [Value.builtin "object.__class__"] (call (.builtin "getset_descriptor.__get__") [.builtin "object.__class__", .ref x, .ref D]) >>= ret) _ _ _
  refine wpAny_bind (wpAny_holding (wpAny_call (class_get (s := ⟨hp, g, d, t + 1, os⟩) (ox := ox) (od := od) X I T.hm (wpAny_pure ?_))))
  show wpAny _ _ (handedOut (.ref D)) _ _ _
  rw [handedOut_of (v := .ref D) rfl]
  first
    | exact wpAny_pure (wpAny_pure h)
    | exact wpAny_pure h
    | exact wpAny_pure (wpAny_bind (wpAny_pure (wpAny_pure h)))
theorem kit_err {K : Frag} {x D : Addr} {ox : Obj} {od : Option Obj} (T : ExcC K D) : KitX K (.ref x) (.ref D) (fun h => InstAt h x ox D od) := by
  obtain ⟨cd, hc, _⟩ := any_some T.hd
  unfold clsIn at hc
  split at hc
  · rename_i c' d' cd' sl' ho
    refine ⟨fun _ _ _ I => I.type, fun _ _ X _ => ?_, fun h tp dd its n sl X htp => ?_, fun X I k => attr_class T X I k⟩
    · intro A' Q' E' s' k q
      unfold isType loadHead
      exact wpAny_bind (wpAny_loadPart (k _ _ (X _ _ ho)) (wpAny_pure q))
    · refine Bool.eq_false_iff.mpr fun q => ?_
      have e : D = tp := Value.ref.inj (beq_iff_eq.mp q)
      subst e
      cases (X _ _ ho).symm.trans htp
  · cases hc
end
/-- isinstance(e, c), e the error that the suite holds -/
def rIsD (K : PySem.W.Frag) (a : Addr) (cls : Value) (d : Option Addr) : List V → Hp → VK → Prop := fun xs H Q => ∃ (D dd : Addr) (fs : List (Str × V)) (c : V) (cv : Value) (b : Bool), xs = [.ref a, c] ∧ cls = .ref D ∧ ExcC K D ∧ d = some dd ∧ H dd = some (.xd fs) ∧
  ClsV c cv ∧ PySem.W.kitOne K (.ref D) cv = some b ∧ Q (.bl b) H
theorem call_isD {X : Cx} {K : PySem.W.Frag} {a : Addr} {oe : Obj} {cls : Value} {d : Option Addr} {pn : List (Addr × Obj)} (eK : X.K = K) (hz : Zc cls d oe) (hf : ∃ vs, oe.data = .fields vs) : CallR (X.suite a ((a, oe) :: pn)) (.builtin "isinstance") (rIsD K a cls d) := by
  subst eK
  intro pins s σ H xs us Q I r h
  obtain ⟨D, dd, fs, c, cv, b, rfl, rfl, T, rfl, hd, hcv, e, q⟩ := h
  obtain ⟨u1, u2, rfl, r1, r2⟩ := vals2 r
  cases (show u1 = Value.ref a from r1)
  have ec := hcv.eq r2
  subst ec
  obtain ⟨hget, _⟩ := I.pin (a, oe) (List.mem_append.mpr (.inl List.mem_cons_self))
  obtain ⟨vs, hv⟩ := hf
  have hx : ObjOk X.prog X.w H s.heap dd (.xd fs) := I.hok dd _ hd
  obtain ⟨mA, hns, hr⟩ := hx
  obtain ⟨od, ho, hl⟩ := lookIn_ns hns
  have J : PySem.W.InstAt s.heap a oe D (some od) := ⟨hget, hz.1, by unfold PySem.W.notCls; rw [hv] <;> rfl, by rw [hz.2]; exact ho⟩
  exact PySem.W.kia_one (kit_err T) I.kIn J e (fun z => nomatch z) fun tk => ⟨.bl b, H, I.tok tk, rfl, q⟩
/-- a field of it -/
def tXfK (K : PySem.W.Frag) (a : Addr) (cls : Value) (d : Option Addr) (f : Str) (te : TE) : TE := fun σ H Q => te σ H fun x H1 => ∃ C : Addr, x = .ref a ∧ cls = .ref C ∧ XfC K C ∧ PySem.W.findIn K (.ref C) f = some none ∧ ∃ (dd : Addr) (fs : List (Str × V)) (v : V), d = some dd ∧ H1 dd = some (.xd fs) ∧ fs.lookup f = some v ∧ Q v H1
theorem pe_xfK {X : Cx} {K : PySem.W.Frag} {a : Addr} {oe : Obj} {cls : Value} {d : Option Addr} {pn : List (Addr × Obj)} {e : Expr} {te : TE} {pos : Pos} {n : Str} (eK : X.K = K) (hz : Zc cls d oe) (hf : ∃ vs, oe.data = .fields vs) (he : PE (X.suite a ((a, oe) :: pn)) e te)
    (hb : attributeBase e n X.env (eval e X.env) = eval e X.env := by rfl) : PE (X.suite a ((a, oe) :: pn)) (.Attribute e n pos) (tXfK K a cls d n te) := by
  subst eK
  refine ⟨fun pins s σ H Q I h => ?_⟩
  refine attr_of hb (thn (he.run pins s σ H _ I h) fun u s1 hh => ?_)
  obtain ⟨x, H1, I1, rx, C, ex, ec, T, hno, dd, fs, v, ed, ea, l, q⟩ := hh
  subst ex
  obtain rfl : u = Value.ref a := rx
  subst ec
  subst ed
  obtain ⟨ha, _⟩ := I1.pin (a, oe) (List.mem_append_left _ List.mem_cons_self)
  obtain ⟨vs, hd⟩ := hf
  have hx : ObjOk X.prog X.w H1 s1.heap dd (.xd fs) := I1.hok dd _ ea
  obtain ⟨mA, hns, hr⟩ := hx
  obtain ⟨od, ho, hl⟩ := lookIn_ns hns
  obtain ⟨u, hu, ru⟩ := RelO.some_of (v := v) (o := mA n) (by rw [← l]; exact hr n)
  have J : PySem.W.InstAt s1.heap a oe C (some od) := ⟨ha, hz.1, by unfold PySem.W.notCls; rw [hd] <;> rfl, by rw [hz.2]; exact ho⟩
  exact HandSPX.exc_get I1.kIn J T.ga T.gg T.exC (PySem.W.findObj_own T.hdC hno rfl (by rw [hl, hu])) (handed_of ru) ⟨v, H1, I1.tok _, ru, q⟩
/-! ### defs that may raise, their calls -/
def CalX (P : Program) (w : World) (K : PySem.W.Frag) (mg : Str → Option Value) (base : Heap) (k : Nat) (x : Str) (ps : List Str) (sp : Sp) : Prop :=
  ∃ (f : Addr) (fd : FuncData), FnOk P w K mg base (L2.CX P w) k f fd ps sp ∧ mg x = some (.ref f) ∧ PySem.W.keepIn K (.ref f) = true ∧ Binds K fd ps []
def MthX (P : Program) (w : World) (K : PySem.W.Frag) (mg : Str → Option Value) (base : Heap) (k : Nat) (C : Addr) (m : Str) (ps : List Str) (sp : Sp) : Prop :=
  ∃ (f : Addr) (fd : FuncData), FnOk P w K mg base (L2.CX P w) k f fd ps sp ∧ Meth K C m f ∧ PySem.W.keepIn K (.ref f) = true ∧ Binds K fd ps []
def tMethT (C : Addr) (m : Str) (sp : Sp) (E : L2.St → XK) (ta : TE) (t : TA) : TE := fun σ H Q => ta σ H fun x H1 => ∃ a dx fs, x = .ref a ∧ H1 a = some (.ins C dx fs) ∧ fs.lookup m = none ∧ t σ H1 fun vs H2 => sp (x :: vs) H2 Q (E σ)
section
variable {X : Cx} {o e : Expr} {es : List Expr} {t : TA} {ta : TE} {x m : Str} {p pos apos : Pos} {ps : List Str} {sp : Sp} {k : Nat} {C : Addr} {W : WX}
theorem pc_callT (F : CalX X.prog X.w X.K X.mg X.base k x ps sp) (tk : Takes X W) (hr : Room k X.A) (hg : Gl X x) (ha : PA X (e :: es) t)
    (hdb : (x == ("__debug__" : Str)) = false := by decide) (he : starEach (e :: es) X.env = (false, eval e X.env) :: starEach es X.env := by rfl) (hpl : (backTo pos (starEach es X.env)).any (·.1) = false := by rfl) :
    PE X (.Call (.Name x p) (e :: es) [] pos) (tCallS sp (WE W) t) := by
  obtain ⟨f, fd, F, hm, hk, hb⟩ := F
  exact pe_callS F hr hg hm hk hb (fun σ => passAt tk σ) ha hdb he hpl
theorem pc_methT {pl : Sem Bool} (he : PE X o ta) (c : Cls X.K C) (M : MthX X.prog X.w X.K X.mg X.base k C m ps sp) (tk : Takes X W) (hr : Room k X.A) (ha : PA X (e :: es) t)
    (hst : starEach (e :: es) X.env = (false, eval e X.env) :: starEach es X.env := by rfl) (hpl : (backTo pos (starEach es X.env)).any (·.1) = false := by rfl)
    (ht : eval (.Call (.Attribute o m apos) (e :: es) [] pos) X.env = (do
      let ov ← eval o X.env
      standAt apos.atName
      let (f, first) ← holding [ov] (getMethod ov m pl)
      callWith pos f first (backTo pos (starEach (e :: es) X.env)) (backToKw pos (keywordEach [] X.env))) := by rfl) :
    PE X (.Call (.Attribute o m apos) (e :: es) [] pos) (tMethT C m sp (WE W) ta t) := by
  obtain ⟨f, fd, F, hm, hk, hb⟩ := M
  refine ⟨fun pins s σ H Q I h => ?_⟩
  refine PySem.W.methodCall_KW (pl := pl) (thn (he.run pins s σ H _ I h) fun u s1 ⟨x, H1, I1, rx, a, dx, fs, ex, ea, l, q⟩ => ?_) ht
  subst ex
  obtain rfl : u = Value.ref a := rx
  refine getmeth_ok I1 ea c hm l ?_
  refine PySem.W.callWith_K (first := [.ref a]) (h₀ := X.base) I.ok.mod.kin hm.kp (thn (ha.run pos pins s1 σ H1 _ I1 q) fun us s2 ⟨vs, H2, I2, r, q2⟩ => ⟨I2.kIn, ?_⟩) hst hpl
  exact run_fnS (us := .ref a :: us) (vs := .ref a :: vs) F hr hb (passAt tk σ) I2 (.cons rfl r) q2
theorem i_CallT {σ : L2.St} {H : Hp} {Q : VK} {E : L2.St → XK} (q : t σ H fun vs H1 => sp vs H1 Q (E σ)) : tCallS sp E t σ H Q := q
theorem i_MethT {σ : L2.St} {H : Hp} {Q : VK} {E : L2.St → XK} (q : ta σ H fun x H1 => ∃ a dx fs, x = .ref a ∧ H1 a = some (.ins C dx fs) ∧ fs.lookup m = none ∧ t σ H1 fun vs H2 => sp (x :: vs) H2 Q (E σ)) : tMethT C m sp E ta t σ H Q := q
theorem i_MkE {σ : L2.St} {H : Hp} {Q : XK} {f : Str} {G : V → Prop} (q : t σ H fun vs H1 => ∃ v, vs = [v] ∧ G v ∧ ∀ d, H1 d = none → Q (.ref C) (some d) (upd H1 d (.xd [(f, v)]))) : tMkE C f G t σ H Q := q
theorem i_Ost {K : PySem.W.Frag} {to te : TE} {f : Str} {D : Ends} {σ : L2.St} {H : Hp} (q : te σ H fun y H1 => to σ H1 fun x H2 => ∃ a C : Addr, x = .ref a ∧ OexC K C ∧ PySem.W.findIn K (.ref C) f = some none ∧
  ((H2 a = some (exo a C none) ∧ ∀ dx, H2 dx = none → dx ≠ a → D.nx σ (upd (upd H2 dx (exd dx [(f, y)])) a (exo a C (some dx)))) ∨
    ∃ (dx : Addr) (fs : List (Str × V)), H2 a = some (exo a C (some dx)) ∧ H2 dx = some (exd dx fs) ∧ fs.length ≤ 900 ∧ D.nx σ (upd H2 dx (exd dx ((f, y) :: fs))))) : tOst K f to te D σ H := q
theorem i_VeI {K : PySem.W.Frag} {σ : L2.St} {H : Hp} {Q : VK} (q : t σ H fun vs H1 => ∃ (a C : Addr) (ws : List V), vs = .ref a :: ws ∧ ws.length ≤ 1000 ∧ OexC K C ∧ H1 a = some (exo a C none) ∧ Q .non H1) : tVeI K t σ H Q := q
end
end GT

/-! ## defs that are called where no repr is under way (repr of lists and tuples asks for that) -/
namespace GT
open PySem PySem.Spec PyProof.Rows L2
/-- as FnOk, where no guard is on the stack -/
structure FnG (P : Program) (w : World) (K : PySem.W.Frag) (mg : Str → Option Value) (base : Heap) (CX : CXT) (k : Nat) (f : Addr) (fd : FuncData) (ps : List Str) (sp : Sp) : Prop where
  len : ∀ vs H Q E, sp vs H Q E → vs.length = ps.length
  run : ∀ (A : Around) (outer : List Env) (s : Shared) (H : Hp) (args : Args) (us : List Value) (vs : List V) (Q : VK) (E : XK), Room k A → A.guards = some [] → Env0 P w K mg base A outer s H → BindsTo s fd args (ps.zip us) → Vals vs us → sp vs H Q E →
    codeAny (model P w) A (.call (.ref f) args) (CR CX outer P w H s Q E) s
section
variable {P : Program} {w : World} {K : PySem.W.Frag} {mg : Str → Option Value} {base : Heap} {x qual : Str} {params : Arguments} {body : List Stmt} {scope : Scope} {dvs : List V} {kws : List (Str × V)} {f : Addr} {fd : FuncData}
/-- how such a def is proved: the body where no guard stands -/
theorem FunD.okG {CX : CXT} {N ps : List Str} {k : Nat} {sp : Sp} (F : FunD K x qual params body scope dvs kws f fd) (S : FnScope N ps scope) (len : ∀ vs H Q E, sp vs H Q E → vs.length = ps.length)
    (hbody : ∀ (cdv : Value) (A : Around) (outer : List Env) (s : Shared) (H : Hp) (vs : List V) (Q : VK) (E : XK), Room k (A.deeper (envOfC qual scope s.heap.objs.size f cdv)) → (cxOf CX P w K mg base N qual scope f cdv A outer s H E).A.guards = some [] → sp vs H Q E →
      ∃ t, PSs (cxOf CX P w K mg base N qual scope f cdv A outer s H E) body t ∧ t { nx := fun _ H' => Q .non H', rt := Q } (start N vs) H) : FnG P w K mg base CX (k + 1) f fd ps sp := by
  obtain ⟨oc, od, dV, kV, doc, pm, an, cdv, ct, osl, rfl, lk, hcd, _, _⟩ := F.ex
  refine ⟨len, fun A outer s H args us vs Q E hr hA e0 hb r hsp => ?_⟩
  have KX : K.In s.heap := e0.mod.kin.keeps fun b o e => (e0.bs b o e).1
  have bound : ∀ y ∈ ps.zip us, scope.names.lookup y.1 = some .local ∨ (scope.names.lookup y.1 = some .cell ∧ ((cellsFrom (s.heap.objs.size + 1) scope.names []).lookup y.1).isSome = true) := fun y hy =>
    (S.par y.1 (List.of_mem_zip (a := y.1) (b := y.2) hy).1).imp id fun q => ⟨q, PySem.W.cellsFrom_some _ _ _ (.inl q)⟩
  refine codeAny_call_function hr.depth (KX _ _ lk) rfl S.co S.gen rfl (PySem.W.codeRec_of KX hcd) (hb _ _ _ _ (wpAny_newFunctionEnv_cells S.kind bound fun env he s1 hx => ?_))
  subst he
  refine ⟨(e0.mod.nolimit.keeps fun b o e => (e0.bs b o e).1).keeps hx.toInCall.keep, codeAny_func ?_⟩
  obtain ⟨t, ht, hq⟩ := hbody cdv A outer s H vs Q E (hr.deeper _) hA hsp
  refine wpAny_mono (ht.run [] s1 (start N vs) H _ (inv_start S hr.hd e0 (len _ _ _ _ hsp) r hx) hq) (fun fl s' hs => ?_) fun _ _ z => z
  match fl, hs with
  | .ret _, ⟨v, _, H', J, rv, q⟩ => exact ⟨v, H', J.os, J.bare, J.base, J.hok, rv, q⟩
  | .next, ⟨_, H', J, q⟩ => exact ⟨.non, H', J.os, J.bare, J.base, J.hok, rfl, q⟩
  | .brk, ⟨_, _, _, q⟩ => exact q.elim
  | .cont, ⟨_, _, _, q⟩ => exact q.elim
end
/-- the name x is such a def, which raises nothing -/
def CalG (P : Program) (w : World) (K : PySem.W.Frag) (mg : Str → Option Value) (base : Heap) (k : Nat) (x : Str) (ps : List Str) (sp : Sp) : Prop :=
  ∃ (f : Addr) (fd : FuncData), FnG P w K mg base CX0 k f fd ps sp ∧ mg x = some (.ref f) ∧ PySem.W.keepIn K (.ref f) = true ∧ Binds K fd ps []
section
variable {X : Cx} {e : Expr} {es : List Expr} {t : TA} {x : Str} {p pos : Pos} {ps : List Str} {sp : Sp} {k : Nat}
theorem pc_callG (C : CalG X.prog X.w X.K X.mg X.base k x ps sp) (hG : X.A.guards = some []) (hr : Room k X.A) (hg : Gl X x) (ha : PA X (e :: es) t)
    (hdb : (x == ("__debug__" : Str)) = false := by decide) (he : starEach (e :: es) X.env = (false, eval e X.env) :: starEach es X.env := by rfl) (hpl : (backTo pos (starEach es X.env)).any (·.1) = false := by rfl) :
    PE X (.Call (.Name x p) (e :: es) [] pos) (tCall sp [] E0 t) := by
  obtain ⟨f, fd, F, hm, hk, hb⟩ := C
  refine ⟨fun pins s σ H Q I h => ?_⟩
  refine wpAny_Call_Name_kw (ld_glob I hg hm ?_ hdb)
  refine PySem.W.callWith_K (h₀ := X.base) I.ok.mod.kin hk (thn (ha.run pos pins s σ H _ I h) fun us s1 ⟨vs, H1, I1, r, q⟩ => ⟨I1.kIn, ?_⟩) he hpl
  have q1 : sp vs H1 Q E0 := by
    have q2 : sp (vs ++ []) H1 Q E0 := q
    rw [List.append_nil] at q2; exact q2
  have hl : us.length = ps.length := by rw [← r.length]; exact F.len _ _ _ _ q1
  have b := hb s1 us I1.kIn (by rw [List.append_nil]; exact hl)
  rw [List.append_nil] at b
  refine wpAny_call (codeAny_mono (F.run X.A X.stack s1 H1 ⟨us, []⟩ us vs Q E0 hr hG I1.env0 b r q1) fun fin s' hq => ?_)
  match fin, hq with
  | .error _, z => exact z.elim
  | .ok (.ret _), z => exact I1.after z
  | .ok .next, z => exact z.elim
  | .ok .brk, z => exact z.elim
  | .ok .cont, z => exact z.elim
end
/-! ### the end: the law is such a def -/
section
/-- the script's list, and nothing else, told of -/
def scriptHp (a : Addr) (o : Obj) (ns : List Int) : Hp := fun b => if b = a then some (.frz o (.lst (ns.map V.int))) else none
theorem law_callG {P : Program} {w : World} {K : PySem.W.Frag} {mg mb : Str → Option Value} {k : Nat} {fa a : Addr} {fd : FuncData} {x : Str} {sp : Sp} {s₁ : Shared} {vs : List Value} {ns : List Int}
    (KX : K.In s₁.heap) (hns : s₁.heap.Ns mainGlobals mg) (hb : s₁.heap.Ns builtinsNs mb) (hbb : ∀ x : Str, x ≠ "__name__" → mb x = bootBuiltins x) (hlim : s₁.heap.NoLimit) (hg : s₁.gens = #[])
    (ha : s₁.heap.get? a = some { cls := .type "list", data := .seq vs.toArray }) (hi : IntsAre vs ns) (hl : ns.length ≤ sizeLine) (hr : Room k callerA)
    (F : ∀ base : Heap, K.In base → base.Ns mainGlobals mg → FnG P w K mg base CX0 k fa fd [x] sp) (hbind : ∀ (s : Shared) (u : Value), BindsTo s fd ⟨[u], []⟩ [(x, u)])
    (hsp : ∀ H : Hp, Only H → SqL K H a (ns.map V.int) → sp [.ref a] H (fun v _ => v = .bl true) fun _ _ _ => False) :
    codeAny (model P w) callerA (.call (.ref fa) ⟨[.ref a], []⟩) (fun r s' => r = .ok (.ret (.bool true)) ∧ OldK s₁.heap s'.heap ∧ s'.os = s₁.os ∧ AllBare s'.gens) s₁ := by
  have lv := hi.length
  -- H: what is told of the heap; it says of a at most
  suffices go : ∃ H : Hp, Only H ∧ SqL K H a (ns.map V.int) ∧ HOk P w H s₁.heap ∧ (∀ b, H b ≠ none → b = a) ∧ (H a ≠ none → K.lookup a = none) by
    obtain ⟨H, hO, hS, hok, hA, hK⟩ := go
    have free : ∀ {b : Addr}, b ≠ a → H b = none := fun {b} n => Classical.byContradiction fun z => n (hA b z)
    have nsB : ∀ {b : Addr} {m : Str → Option Value}, s₁.heap.Ns b m → (hidT s₁.heap H).Ns b m := fun {b m} ⟨o, es, ep, e, d, r⟩ => by
      refine ⟨o, es, ep, hidT_get e (free fun z => ?_), d, r⟩
      rw [z, ha] at e
      cases e
      cases d
    have KB : K.In (hidT s₁.heap H) := fun b o e => hidT_get (KX b o e) (by
      by_cases c : b = a
      · refine Classical.byContradiction fun z => ?_
        rw [c] at z e
        rw [hK z] at e
        cases e
      · exact free c)
    obtain ⟨mc, l1, l2⟩ := hlim
    have e0 : Env0 P w K mg (hidT s₁.heap H) callerA [] s₁ H := ⟨rfl, ⟨KB, nsB hns, ⟨mb, nsB hb, hbb⟩, ⟨mc, nsB l1, l2⟩⟩, fun b o e => of_hidT e, Nat.le_of_eq (hidT_size _ _), trivial, fun b z => absurd (show b ∈ ([] : List Addr) from z) (by simp), hok, .of_eq hg⟩
    refine codeAny_mono ((F _ KB (nsB hns)).run callerA [] s₁ H ⟨[.ref a], []⟩ [.ref a] [.ref a] _ _ hr rfl e0 (hbind s₁ (.ref a)) (.cons rfl .nil) (hsp H hO hS)) fun r s' h => ?_
    match r, h with
    | .error _, z => exact z.elim
    | .ok .next, z => exact z.elim
    | .ok .brk, z => exact z.elim
    | .ok .cont, z => exact z.elim
    | .ok (.ret u), ⟨v, H', os, bare, un, hok', r', q⟩ =>
      have ev : v = .bl true := q
      subst ev
      obtain rfl : u = Value.bool true := r'
      refine ⟨rfl, OldK.of_keep fun b o e => ?_, os, bare⟩
      rcases hO b with n | ⟨ob, xs, n⟩
      · exact un.keep b o e n (by intro z; exact absurd (show b ∈ ([] : List Addr) from z) (by simp)) (by simp)
      · obtain ⟨e1, _⟩ := hok b _ n
        obtain ⟨e2, _⟩ := hok' b _ (un.frzs b ob _ n)
        rw [e] at e1
        cases e1
        exact e2
  have rv := vals_ints hi
  by_cases hk : K.lookup a = none
  · refine ⟨scriptHp a { cls := .type "list", data := .seq vs.toArray } ns, fun b => ?_, .inl (.inr ⟨_, if_pos rfl⟩), fun b u z => ?_, fun b z => ?_, fun _ => hk⟩
    · by_cases c : b = a
      · exact .inr ⟨_, _, if_pos c⟩
      · exact .inl (if_neg c)
    · by_cases c : b = a
      · subst c
        cases (if_pos rfl).symm.trans z
        exact ⟨ha, by rw [List.length_map]; exact hl, vs, _, rv, ha⟩
      · cases (if_neg c).symm.trans z
    · exact Classical.byContradiction fun c => z (if_neg c)
  · obtain ⟨o, e⟩ := Option.ne_none_iff_exists'.mp hk
    cases ha.symm.trans (KX a o e)
    exact ⟨fun _ => none, fun _ => .inl rfl, .inr ⟨_, vs.toArray, _, e, rfl, rfl, rfl, by rw [List.size_toArray, lv]; exact hl, by simpa using rv⟩, fun b u z => (by cases z), fun b z => absurd rfl z, fun z => absurd rfl z⟩
theorem walk_ofG {l : PySem.W.OpenLaw} {n k : Nat} {q : Program} {loose : List Str} {XP : (Str → Option Value) → Heap → Prop} {YP : World → Heap → Prop} {d : DefRec} {x : Str}
    (hn : l.most = some n) (hn2 : n ≤ sizeLine) (hdf : d.params.defaults = []) (hr : Room k callerA)
    (F : ∀ (w : World) (mg : Str → Option Value) (fa : Addr) (h : Heap), YP w h → h.Ns mainGlobals mg → mg d.name = some (.ref fa) →
      ∃ (K : PySem.W.Frag) (fd : FuncData) (sp : Sp), K.In h ∧ (∀ (s : Shared) (u : Value), BindsTo s fd ⟨[u], []⟩ [(x, u)]) ∧
        (∀ (H : Hp) (a : Addr) (ns : List Int), ns.length ≤ n → Only H → SqL K H a (ns.map V.int) → sp [.ref a] H (fun v _ => v = .bl true) fun _ _ _ => False) ∧
        ∀ base : Heap, K.In base → base.Ns mainGlobals mg → FnG l.prog w K mg base CX0 k fa fd [x] sp) : PySem.W.WalkO q loose XP YP l.row.toRowW d [] (fun f vs => PySem.call f vs) := by
  refine Att.attach_call hn hdf fun w s₀ s₁ mg mb fa o pm cd doc a vs ns G Y ho hd hcd hmg hobj hints hlen hg => ?_
  obtain ⟨K, fd, sp, KX, hb, hsp, hF⟩ := F w mg fa _ Y G.T.g hmg
  exact law_callG KX G.T.g G.T.b G.T.builtins G.T.nolimit hg hobj hints (Nat.le_trans hlen hn2) hr hF hb fun H hO hS => hsp H a ns hlen hO hS
end
end GT

/-! ## repr of data -/
namespace GT
open PySem PySem.Spec PyProof.Rows L2
mutual
theorem DtIs.readsX {h : Heap} : ∀ (d : Dt) (v : Value), DtIs h d v → ∃ as, Reads h v d.py as
  | .non, _, r => by cases r; exact ⟨_, .none⟩
  | .bl _, _, r => by cases r; exact ⟨_, .bool _⟩
  | .num _, _, r => by cases r; exact ⟨_, .int _ _⟩
  | .txt _, _, r => by cases r; exact ⟨_, .str _ _⟩
  | .tup ds, _, r => by
    cases r with
    | tup h1 h2 =>
      obtain ⟨o, e, c, n, dd⟩ := h1
      obtain ⟨as, q⟩ := DtAll.readsX ds _ h2
      exact ⟨_, .tuple e c dd q⟩
  | .lst ds, _, r => by
    cases r with
    | lst h1 h2 =>
      obtain ⟨o, e, c, n, dd⟩ := h1
      obtain ⟨as, q⟩ := DtAll.readsX ds _ h2
      exact ⟨_, .list e c dd q⟩
theorem DtAll.readsX {h : Heap} : ∀ (ds : List Dt) (vs : List Value), DtAll h ds vs → ∃ as, ReadsAll h vs (Dt.pys ds) as
  | [], _, r => by cases r; exact ⟨_, .nil⟩
  | d :: ds, _, r => by
    cases r with
    | cons r1 r2 =>
      obtain ⟨as, q1⟩ := DtIs.readsX d _ r1
      obtain ⟨bs, q2⟩ := DtAll.readsX ds _ r2
      exact ⟨_, .cons q1 q2⟩
end
mutual
theorem Dt.noDict : ∀ d : Dt, d.py.hasDict = false
  | .non => by simp [Dt.py, PyData.hasDict]
  | .bl _ => by simp [Dt.py, PyData.hasDict]
  | .num _ => by simp [Dt.py, PyData.hasDict]
  | .txt _ => by simp [Dt.py, PyData.hasDict]
  | .tup ds => by simp only [Dt.py, PyData.hasDict]; exact Dt.noDicts ds
  | .lst ds => by simp only [Dt.py, PyData.hasDict]; exact Dt.noDicts ds
theorem Dt.noDicts : ∀ ds : List Dt, PyData.hasDictAll (Dt.pys ds) = false
  | [] => by simp [Dt.pys, PyData.hasDictAll]
  | d :: ds => by simp only [Dt.pys, PyData.hasDictAll, Dt.noDict d, Dt.noDicts ds, Bool.or_self]
end
/-- what repr tells of data -/
def Dt.shown (d : Dt) : Str := d.py.shown
/-- numbers not too long, and the text not either -/
def Dt.Shows (d : Dt) : Prop := d.py.showable = true ∧ d.shown.length ≤ sizeLine ∧ d.depth ≤ 60
section
variable {X : Cx} {K : PySem.W.Frag}
def rRepr (K : PySem.W.Frag) : List V → Hp → VK → Prop := fun xs H Q => ∃ (x : V) (d : Dt), xs = [x] ∧ DtAt K H x d ∧ d.Shows ∧ Q (.str d.shown) H
theorem call_repr (eK : X.K = K) (hG : X.A.guards = some []) (hu : X.A.units + 64 < cLine) : CallR X (.builtin "repr") (rRepr K) := by
  subst eK
  intro pins s σ H xs us Q I r h
  obtain ⟨x, d, rfl, hd, ⟨hs, hz, hdp⟩, q⟩ := h
  obtain ⟨u, rfl, rx⟩ := vals1 r
  have hx := DtAt.is I d x u hd rx
  obtain ⟨as, rd⟩ := DtIs.readsX d u hx
  have fin : ∀ (h' : Heap) (t : Tok) (tk : Nat), (∀ b o, s.heap.get? b = some o → h'.get? b = some o) → EP X pins σ Q (.str d.shown t) { heap := h', gens := s.gens, drawn := s.drawn, toks := tk, os := s.os } := fun h' t tk k =>
    ⟨.str d.shown, H, I.kept (t' := tk) k, ⟨t, rfl⟩, q⟩
  cases hx with
  | non => exact PySem.P.repr_of_none (fin _ _ _ fun _ _ z => z)
  | bl b => exact PySem.P.repr_of_bool (fin _ _ _ fun _ _ z => z)
  | num i t => exact PySem.P.repr_of_int (by simpa [Dt.py, PyData.showable] using hs) (fin _ _ _ fun _ _ z => z)
  | txt z t => exact PySem.P.repr_of_str (fin _ _ _ fun _ _ z => z) (by simpa [Dt.shown, Dt.py, PyData.shown] using hz)
  | tup h1 h2 => exact repr_of_reads' (h₀ := s.heap) rd hs (fun z => by rw [Dt.noDict] at z; cases z) hG (by rw [Dt.py_depth]; omega) (fun _ _ z => z) (fun h' t tk k => fin h' t tk k) hz
  | lst h1 h2 => exact repr_of_reads' (h₀ := s.heap) rd hs (fun z => by rw [Dt.noDict] at z; cases z) hG (by rw [Dt.py_depth]; omega) (fun _ _ z => z) (fun h' t tk k => fin h' t tk k) hz
end
end GT

/-! ## del xs[a:], a at least 0 -/
namespace GT
open PySem PySem.Spec PyProof.Rows L2
section
variable {prog : Program} {w : World} {A : Around} {E : Value → Shared → Prop} {s : Shared}
theorem bounds_from (a n : Nat) : sliceBounds (some (a : Int)) none none n = (((min a n : Nat) : Int), (n : Int), 1) := by
  simp only [sliceBounds, Option.getD_none]
  have h1 : ¬ ((a : Int) < 0) := by omega
  simp only [h1, if_false, show (1 : Int) > 0 by decide, if_true]
  refine Prod.ext ?_ rfl
  show max (0 : Int) (min (a : Int) (n : Int)) = ((min a n : Nat) : Int)
  omega
theorem zip_keep2 {α : Type} (f : α × Nat → Option α) (a : Nat) : ∀ (l : List α) (i : Nat), (∀ x k, i ≤ k → k < i + l.length → f (x, k) = if a ≤ k then none else some x) → (l.zipIdx i).filterMap f = l.take (a - i)
  | [], i, _ => by simp
  | x :: l, i, hf => by
    rw [List.zipIdx_cons, List.filterMap_cons, hf x i (Nat.le_refl _) (by simp)]
    have ih := zip_keep2 f a l (i + 1) fun y k h1 h2 => hf y k (by omega) (by simp only [List.length_cons]; omega)
    by_cases c : a ≤ i
    · rw [if_pos c, ih, show a - (i + 1) = 0 by omega, show a - i = 0 by omega]; rfl
    · rw [if_neg c, ih, show a - i = (a - (i + 1)) + 1 by omega]; rfl
set_option maxRecDepth 100000 in
theorem delItem_from {l sl : Addr} {items : Array Value} {n a : Nat} {vl : Value} {Q : Unit → Shared → Prop} (e : s.heap.get? l = some { cls := .type "list", data := .seq items n })
    (hs : s.heap.IsSliceOf sl vl .none .none) (pl : IsPart vl (some (a : Int))) (hsz : items.size ≤ sizeLine)
    (h : ∀ f : Array Value → Array Value, f items = (items.toList.take a).toArray → Q () { s with heap := s.heap.update l (Obj.mapSeq f) }) : wpAny (model prog w) A (delItem (.ref l) (.ref sl)) Q E s := by
  have hl : s.heap.IsList l items := PySem.IsL.isList e
  obtain ⟨os, hos, hcs, hds⟩ := id hs
  have hTs : s.TypeIs (.ref sl) "slice" := ⟨os, hos, hcs⟩
  refine wpAny_delItem_slot hl.typeIs (by decide) F.slot_list_delitem (wpAny_call_entry F.slot_list_delitem hl.typeIs F.entry_list_delitem ?_ (F.args_list_delitem_2 _ _))
  show wpAny _ _ (Builtin.List.listSubscript? (.ref sl) >>= _) _ _ s
  refine wpAny_bind ?_
  unfold Builtin.List.listSubscript?
  refine wpAny_bind (wpAny_specialOf hTs slice_no_index ?_)
  simp only [Option.isNone_none, if_true]
  refine wpAny_pure ?_
  show wpAny _ _ (typeOf (.ref sl) >>= _) _ _ s
  refine wpAny_bind (wpAny_typeOf hTs ?_)
  rw [if_neg (by decide), listSliceParts_eq]
  refine wpAny_bind (wpAny_bind (wpAny_field hos hds (x := .none) rfl (wpAny_bind (wpAny_listPart .none ?_))))
  rw [if_neg (show ¬ ((rawPart none == rawInt 0) = true) from Bool.false_ne_true)]
  refine wpAny_bind (wpAny_field hos hds (x := vl) rfl (wpAny_bind (wpAny_listPart pl ?_)))
  refine wpAny_bind (wpAny_field hos hds (x := .none) rfl (wpAny_bind (wpAny_listPart .none (wpAny_pure ?_))))
  unfold Builtin.List.listItems
  refine wpAny_bind (wpAny_bind (wpAny_seqItems e rfl (wpAny_pure ?_)))
  refine wpAny_bind (wpAny_of_eq ((sliceIndices_raw (some (a : Int)) none none items.size (by simp)).trans (congrArg (pure : Int × Int × Int → Sem (Int × Int × Int)) (bounds_from a items.size))) ?_)
  refine wpAny_bind (wpAny_rule ?_)
  have key : ∀ f : Array Value → Array Value, (∃ g : Value × Nat → Option Value, (∀ x k, g (x, k) = if (if (1 : Int) > 0 then decide (((min a items.size : Nat) : Int) ≤ (k : Int)) && decide ((k : Int) < (items.size : Int)) && (((k : Int) - ((min a items.size : Nat) : Int)) % 1 == 0) else decide ((items.size : Int) < (k : Int)) && decide ((k : Int) ≤ ((min a items.size : Nat) : Int)) && ((((min a items.size : Nat) : Int) - (k : Int)) % (-1) == 0)) = true then none else some x) ∧ ∀ xs, f xs = (xs.toList.zipIdx.filterMap g).toArray) → f items = (items.toList.take a).toArray := by
    rintro f ⟨g, hg, hf⟩
    rw [hf]
    have hk : ∀ x k, k < items.size → g (x, k) = if min a items.size ≤ k then none else some x := fun x k hk => by
      rw [hg, if_pos (show (1 : Int) > 0 by decide), Int.emod_one]
      by_cases c : min a items.size ≤ k
      · rw [if_pos c, if_pos]
        simp only [Bool.and_eq_true, decide_eq_true_eq, beq_self_eq_true, and_true]
        omega
      · rw [if_neg c, if_neg]
        simp only [Bool.and_eq_true, decide_eq_true_eq, beq_self_eq_true, and_true]
        omega
    rw [zip_keep2 g (min a items.size) items.toList 0 (fun x k h1 h2 => hk x k (by simpa using h2))]
    congr 1
    rw [Nat.sub_zero]
    by_cases c : a ≤ items.size
    · rw [Nat.min_eq_left c]
    · rw [Nat.min_eq_right (by omega), List.take_of_length_le (by simp), List.take_of_length_le (by simp; omega)]
  refine wpAny_bind (wpAny_updateSeq (hz := hsz) (_hz' := ?z) e rfl (wpAny_bind (wpAny_letGo (wpAny_pure ⟨.none, rfl, h _ (key _ ⟨_, fun x k => rfl, fun xs => rfl⟩)⟩))))
  refine Nat.le_trans ?_ (Nat.le_succ_of_le hsz)
  rw [List.size_toArray]
  refine Nat.le_trans (List.length_filterMap_le _ _) ?_
  simp
end
section
variable {X : Cx}
def tDelF (to te : TE) : TS := fun D σ H => to σ H fun x H1 => te σ H1 fun y H2 => ∃ (l : Addr) (xs : List V) (a : Nat), x = .ref l ∧ y = .int (a : Nat) ∧ H2 l = some (.lst xs) ∧ D.nx σ (upd H2 l (.lst (xs.take a)))
theorem ps_delF {o e : Expr} {to te : TE} {tpos pos p2 : Pos} (ho : PE X o to) (he : PE X e te) : PS X (.Delete [.Subscript o (.Slice (some e) none none p2) tpos] pos) (tDelF to te) := by
  refine ⟨fun pins s σ H D I h => ?_⟩
  refine wpAny_Delete (wpAny_deleteEach_cons (wpAny_delete_Subscript (thn (ho.run pins s σ H _ I h) fun u s1 ⟨x, H1, I1, rx, q1⟩ => wpAny_Slice ?_)))
  rw [evalPart_some]
  refine thn (he.run pins s1 σ H1 _ I1 q1) fun vl s2 ⟨y, H2, I2, ry, l, xs, a, ex, ey, hH, q⟩ => ?_
  subst ex
  subst ey
  cases (show u = Value.ref l from rx)
  obtain ⟨t, rfl⟩ := (show ∃ t, vl = Value.int (a : Nat) t from ry)
  rw [evalPart_none]
  refine wpAny_pure ?_
  refine wpAny_pure ?_
  have I4 : Inv X pins σ H2 { s2 with heap := s2.heap.push { cls := .type "slice", data := .fields #[.int (a : Nat) t, .none, .none] } } := I2.kept (t' := s2.toks) fun b ob q => Heap.get?_push_of_some _ q
  obtain ⟨z, its, n, r, hl, e⟩ := I4.lstM hH
  refine delItem_from e (Heap.IsSliceOf.new ..) (.int _ _) (by rw [List.size_toArray]; omega) fun f hf => ?_
  refine wpAny_deleteEach_nil ⟨σ, _, ?_, q⟩
  refine I4.lset (its' := its.take a) (t' := s2.toks) hH e hf (r.take _) ?_
  rw [List.length_take]
  omega
end
end GT

/-! ## the head's look, with the table of the interpreter's statics -/
namespace GT
open PySem PySem.Spec PyProof.Rows L2 He
def asS (g : Addr → Option Obj) (n : Nat) : List Addr := He.asD g n ++ [cStatics]
def obsS (n : Nat) (fa : List Fa) (fn : List DefD) (ts : List He.Tab) (tf : List Defn) (ex : PySem.W.Frag → Bool) (g : Addr → Option Obj) : AlX := (obsT fa fn ts (frT g (asS g n)), ex (frT g (asS g n)) && tabsB g tf (frT g (asS g n)))
theorem saysS_of {n : Nat} {fa : List Fa} {fn : List DefD} {ts : List He.Tab} {tf : List Defn} {ex : PySem.W.Frag → Bool} {w : World} {h : Heap} (e : obsS n fa fn ts tf ex h.get? = valX fn ts w) : SaysX fa fn ts tf ex w h (frT h.get? (asS h.get? n)) := by
  have e1 : obsT fa fn ts (frT h.get? (asS h.get? n)) = valT fn ts w := congrArg Prod.fst e
  have e2 : (ex (frT h.get? (asS h.get? n)) && tabsB h.get? tf (frT h.get? (asS h.get? n))) = true := congrArg Prod.snd e
  generalize hK : frT h.get? (asS h.get? n) = K at e1 e2 ⊢
  obtain ⟨h1, h2⟩ := ba e2
  have tab : ∀ p ∈ tf, PySem.W.codeHdIn K (cT K p).1 (cT K p).2 = true ∧ ∃ o, h.get? (cT K p).2 = some o ∧ emptyTab o = true := fun p hp => by
    obtain ⟨h3, h4⟩ := ba (List.all_eq_true.mp h2 p hp)
    refine ⟨h3, ?_⟩
    cases q : h.get? (cT K p).2 with
    | some o => rw [q] at h4; exact ⟨o, rfl, h4⟩
    | none => rw [q] at h4; cases h4
  refine ⟨e1, h1, fun p hp => (tab p hp).1, fun p hp => ?_, fun p hp => ?_⟩
  · obtain ⟨_, o, q, z⟩ := tab p hp
    have := frT_none (as := asS h.get? n) q z
    rw [hK] at this
    exact this
  · obtain ⟨_, o, q, z⟩ := tab p hp
    rw [q, emptyTab_eq z]
def hookS (n : Nat) (fa : List Fa) (fn : List DefD) (ts : List He.Tab) (tf : List Defn) (ex : PySem.W.Frag → Bool) : PySem.W.Hook where
  α := AlX
  obs := fun s => obsS n fa fn ts tf ex s.heap.get?
  val := fun w => valX fn ts w
  says := fun w h => ∃ K : PySem.W.Frag, K.In h ∧ SaysX fa fn ts tf ex w h K
  of := fun _ _ e => ⟨_, frT_in, saysS_of e⟩
  keeps := fun _ _ _ ⟨K, hK, c⟩ k => ⟨K, PySem.W.Frag.In.keeps hK k, ⟨c.t, c.more, c.hd, c.out, fun p hp => k _ _ (c.empty p hp)⟩⟩
theorem obsS_eq {n : Nat} {fa : List Fa} {fn : List DefD} {ts : List He.Tab} {tf : List Defn} {ex : PySem.W.Frag → Bool} {g : Addr → Option Obj} {s : Shared} (h : ∀ a, g a = s.heap.get? a) : obsS n fa fn ts tf ex g = (hookS n fa fn ts tf ex).obs s := by
  have e : g = s.heap.get? := funext h
  rw [e] <;> rfl
end GT

namespace GT
open PySem PySem.Spec PyProof.Rows L2
local macro_rules | `(tactic| walk_at "p") => `(tactic| first
  | (with_reducible apply vl_var; with_unfolding_all rfl)
  | with_reducible exact vl_c
  | ((with_reducible apply vl_I0); (· walk_at "p"); (· walk_at "p"))
  | ((with_reducible apply vl_U); (· walk_at "p"))
  | ((with_reducible apply vl_chain); (· walk_at "p"); (· walk_at "p"); (· walk_at "p"))
  | ((with_reducible apply vl_and); (· walk_at "p"); (· walk_at "p"))
  | ((with_reducible apply vl_or); (· walk_at "p"); (· walk_at "p"))
  | ((with_reducible apply vl_not); (· walk_at "p"))
  | ((with_reducible apply vl_eq); (· walk_at "p"); (· walk_at "p"); (· with_unfolding_all rfl))
  | ((with_reducible apply vl_ne); (· walk_at "p"); (· walk_at "p"); (· with_unfolding_all rfl))
  | ((with_reducible apply tl_test); (· walk_at "p"))
  | ((with_reducible apply tl_B); (· walk_at "p"))
  | ((with_reducible apply tl_and); (· walk_at "p"); (· walk_at "p"))
  | ((with_reducible apply tl_or); (· walk_at "p"); (· walk_at "p"))
  | ((with_reducible apply tl_not); (· walk_at "p")))
local macro_rules | `(tactic| walk_at "g") => `(tactic| first
  | ((with_reducible apply p_AndV); (· walk_at "p"))
  | ((with_reducible apply p_OrV); (· walk_at "p"))
  | ((with_reducible apply p_Chain); (· walk_at "p"))
  | ((with_reducible apply p_And); (· walk_at "p"))
  | ((with_reducible apply p_Or); (· walk_at "p"))
  | ((with_reducible apply j_and); (· walk_at "p"); (· exact fun z => z))
  | ((with_reducible apply j_or); (· walk_at "p"); (· exact fun z => z))
  | (with_reducible apply i_var; with_unfolding_all rfl)
  | with_reducible refine i_C ?_
  | with_reducible refine i_Op ?_
  | with_reducible refine i_Yes ?_
  | with_reducible refine i_Un ?_
  | with_reducible refine i_I0 ?_
  | ((with_reducible refine i_I ?hc ?_); (case hc => first | (show (0 : Int) < _; decide) | exact .inl ⟨by decide, by decide⟩ | exact ⟨by decide, by decide⟩ | exact ⟨by decide, by decide, by decide⟩ | (show (0 : Int) < _; omega) | exact .inl ⟨by omega, by omega⟩ | exact .inr ⟨by decide, by decide⟩))
  | with_reducible refine i_U ?_
  | with_reducible refine i_Test ?_
  | with_reducible refine i_B ?_
  | with_reducible refine i_bl ?_
  | with_reducible refine i_And ?_
  | with_reducible refine i_Or ?_
  | with_reducible refine i_Not ?_
  | with_reducible refine i_Nil ?_
  | with_reducible refine i_Cons ?_
  | with_reducible refine i_Seq ?_
  | with_reducible refine i_Asg ?_
  | with_reducible refine i_Name ?_
  | with_reducible refine i_Ret ?_
  | with_reducible refine i_IfS ?_
  | with_reducible refine i_Drop ?_
  | with_reducible refine i_Next ?_
  | with_reducible refine i_If ?_
  | with_reducible refine i_Call ?_
  | with_reducible refine i_CB ?_
  | with_reducible refine i_Chain ?_
  | with_reducible refine i_AndV ?_
  | with_reducible refine i_OrV ?_
  | with_reducible refine i_NotV ?_
  | with_reducible refine i_blV ?_
  | with_reducible refine i_Tup ?_
  | with_reducible refine i_Lst ?_
  | with_reducible refine i_Par ?_
  | with_reducible refine i_Sl ?_
  | with_reducible refine i_NoPart ?_
  | with_reducible refine i_Part ?_
  | with_reducible refine i_intV ?_
  | with_reducible refine i_BM ?_
  | with_reducible refine i_BM0 ?_
  | with_reducible refine i_For ?_
  | with_reducible refine i_Lc ?_
  | with_reducible refine i_Rng1 ?_
  | with_reducible refine i_Rng2 ?_
  | with_reducible refine i_List ?_
  | with_reducible refine i_Nk ?_
  | with_reducible refine i_Nki ?_
  | with_reducible refine i_NGet ?_
  | with_reducible refine i_NIn ?_
  | with_reducible refine i_NNotIn ?_
  | with_reducible refine i_NPut ?_
  | with_reducible refine i_Meth ?_
  | with_reducible refine i_Make ?_
  | with_reducible refine i_Fld ?_
  | with_reducible refine i_sFld ?_
  | with_reducible refine i_gNil ?_
  | with_reducible refine i_gCons ?_
  | (with_reducible apply i_Aug; with_unfolding_all rfl)
  | ((with_reducible refine i_Eq ?hv ?_); (case hv => with_unfolding_all rfl))
  | ((with_reducible refine i_Ne ?hv ?_); (case hv => with_unfolding_all rfl)))
local macro_rules | `(tactic| walk_at "h") => `(tactic| ((fail_if_success (with_reducible refine i_Lc ?_)); walk_at "g"))

/-! ### the text -/
def topS (i : Nat) : Stmt := PySem.Challenge.pw_graphtwins_k43_channels.main.body.getD i (.Pass ⟨0, 0, 0, 0⟩)
abbrev s_CodeError_init : Stmt := inClass (topS 2) 0
theorem sc_CodeError_init : FnScope ["self", "place"] ["self", "place"] (defScope s_CodeError_init) := ⟨rfl, rfl, rfl, by decide +kernel, rfl, by decide +kernel, by decide +kernel⟩
def d_CodeError_init : He.DefD := ⟨("CodeError", some "__init__"), "__init__", "CodeError.__init__", defArgs s_CodeError_init, defBody s_CodeError_init, defScope s_CodeError_init, [], []⟩
abbrev s_NothingThere_init : Stmt := inClass (topS 3) 0
theorem sc_NothingThere_init : FnScope ["self", "place"] ["self", "place"] (defScope s_NothingThere_init) := ⟨rfl, rfl, rfl, by decide +kernel, rfl, by decide +kernel, by decide +kernel⟩
def d_NothingThere_init : He.DefD := ⟨("NothingThere", some "__init__"), "__init__", "NothingThere.__init__", defArgs s_NothingThere_init, defBody s_NothingThere_init, defScope s_NothingThere_init, [], []⟩
abbrev s_Channel_init : Stmt := inClass (topS 5) 0
theorem sc_Channel_init : FnScope ["self"] ["self"] (defScope s_Channel_init) := ⟨rfl, rfl, rfl, by decide +kernel, rfl, by decide +kernel, by decide +kernel⟩
def d_Channel_init : He.DefD := ⟨("Channel", some "__init__"), "__init__", "Channel.__init__", defArgs s_Channel_init, defBody s_Channel_init, defScope s_Channel_init, [], []⟩
abbrev s_Channel_put : Stmt := inClass (topS 5) 1
theorem sc_Channel_put : FnScope ["self", "octets"] ["self", "octets"] (defScope s_Channel_put) := ⟨rfl, rfl, rfl, by decide +kernel, rfl, by decide +kernel, by decide +kernel⟩
def d_Channel_put : He.DefD := ⟨("Channel", some "put"), "put", "Channel.put", defArgs s_Channel_put, defBody s_Channel_put, defScope s_Channel_put, [], []⟩
abbrev s_Channel_lose : Stmt := inClass (topS 5) 2
theorem sc_Channel_lose : FnScope ["self", "place"] ["self", "place"] (defScope s_Channel_lose) := ⟨rfl, rfl, rfl, by decide +kernel, rfl, by decide +kernel, by decide +kernel⟩
def d_Channel_lose : He.DefD := ⟨("Channel", some "lose"), "lose", "Channel.lose", defArgs s_Channel_lose, defBody s_Channel_lose, defScope s_Channel_lose, [], []⟩
abbrev s_Channel_double : Stmt := inClass (topS 5) 3
theorem sc_Channel_double : FnScope ["self", "place"] ["self", "place"] (defScope s_Channel_double) := ⟨rfl, rfl, rfl, by decide +kernel, rfl, by decide +kernel, by decide +kernel⟩
def d_Channel_double : He.DefD := ⟨("Channel", some "double"), "double", "Channel.double", defArgs s_Channel_double, defBody s_Channel_double, defScope s_Channel_double, [], []⟩
abbrev s_Channel_exchange : Stmt := inClass (topS 5) 4
theorem sc_Channel_exchange : FnScope ["self", "place", "other", "message"] ["self", "place", "other"] (defScope s_Channel_exchange) := ⟨rfl, rfl, rfl, by decide +kernel, rfl, by decide +kernel, by decide +kernel⟩
def d_Channel_exchange : He.DefD := ⟨("Channel", some "exchange"), "exchange", "Channel.exchange", defArgs s_Channel_exchange, defBody s_Channel_exchange, defScope s_Channel_exchange, [], []⟩
abbrev s_Channel_damage : Stmt := inClass (topS 5) 5
theorem sc_Channel_damage : FnScope ["self", "place", "spot", "octet", "message"] ["self", "place", "spot", "octet"] (defScope s_Channel_damage) := ⟨rfl, rfl, rfl, by decide +kernel, rfl, by decide +kernel, by decide +kernel⟩
def d_Channel_damage : He.DefD := ⟨("Channel", some "damage"), "damage", "Channel.damage", defArgs s_Channel_damage, defBody s_Channel_damage, defScope s_Channel_damage, [], []⟩
abbrev s_Channel_cut : Stmt := inClass (topS 5) 6
theorem sc_Channel_cut : FnScope ["self", "place", "length"] ["self", "place", "length"] (defScope s_Channel_cut) := ⟨rfl, rfl, rfl, by decide +kernel, rfl, by decide +kernel, by decide +kernel⟩
def d_Channel_cut : He.DefD := ⟨("Channel", some "cut"), "cut", "Channel.cut", defArgs s_Channel_cut, defBody s_Channel_cut, defScope s_Channel_cut, [], []⟩
abbrev s_Channel_take : Stmt := inClass (topS 5) 7
theorem sc_Channel_take : FnScope ["self", "place"] ["self", "place"] (defScope s_Channel_take) := ⟨rfl, rfl, rfl, by decide +kernel, rfl, by decide +kernel, by decide +kernel⟩
def d_Channel_take : He.DefD := ⟨("Channel", some "take"), "take", "Channel.take", defArgs s_Channel_take, defBody s_Channel_take, defScope s_Channel_take, [], []⟩
abbrev s_Channel_check_there : Stmt := inClass (topS 5) 8
theorem sc_Channel_check_there : FnScope ["self", "place"] ["self", "place"] (defScope s_Channel_check_there) := ⟨rfl, rfl, rfl, by decide +kernel, rfl, by decide +kernel, by decide +kernel⟩
def d_Channel_check_there : He.DefD := ⟨("Channel", some "_check_there"), "_check_there", "Channel._check_there", defArgs s_Channel_check_there, defBody s_Channel_check_there, defScope s_Channel_check_there, [], []⟩
abbrev s_law_cell : Stmt := topS 7
theorem sc_law_cell : FnScope ["script", "k"] ["script", "k"] (defScope s_law_cell) := ⟨rfl, rfl, rfl, by decide +kernel, rfl, by decide +kernel, by decide +kernel⟩
def d_law_cell : He.DefD := ⟨("_law_cell", none), "_law_cell", "_law_cell", defArgs s_law_cell, defBody s_law_cell, defScope s_law_cell, [], []⟩
abbrev s_law_row : Stmt := topS 8
theorem sc_law_row : FnScope ["cell", "k", "many", "row", "turn", "seed"] ["cell", "k", "many"] (defScope s_law_row) := ⟨rfl, rfl, rfl, by decide +kernel, rfl, by decide +kernel, by decide +kernel⟩
def d_law_row : He.DefD := ⟨("_law_row", none), "_law_row", "_law_row", defArgs s_law_row, defBody s_law_row, defScope s_law_row, [], []⟩
abbrev s_law_box : Stmt := topS 9
theorem sc_law_box : FnScope ["script", "first", "last", "row", "k"] ["script", "first", "last"] (defScope s_law_box) := ⟨rfl, rfl, rfl, by decide +kernel, rfl, by decide +kernel, by decide +kernel⟩
def d_law_box : He.DefD := ⟨("_law_box", none), "_law_box", "_law_box", defArgs s_law_box, defBody s_law_box, defScope s_law_box, [], []⟩
abbrev s_law_draw : Stmt := topS 10
theorem sc_law_draw : FnScope ["box", "many", "at"] ["box", "many"] (defScope s_law_draw) := ⟨rfl, rfl, rfl, by decide +kernel, rfl, by decide +kernel, by decide +kernel⟩
def d_law_draw : He.DefD := ⟨("_law_draw", none), "_law_draw", "_law_draw", defArgs s_law_draw, defBody s_law_draw, defScope s_law_draw, [], []⟩
abbrev s_law_same : Stmt := topS 11
theorem sc_law_same : FnScope ["one", "other"] ["one", "other"] (defScope s_law_same) := ⟨rfl, rfl, rfl, by decide +kernel, rfl, by decide +kernel, by decide +kernel⟩
def d_law_same : He.DefD := ⟨("_law_same", none), "_law_same", "_law_same", defArgs s_law_same, defBody s_law_same, defScope s_law_same, [], []⟩
abbrev s_law_octets : Stmt := topS 12
theorem sc_law_octets : FnScope ["box", "k"] ["box"] (defScope s_law_octets) := ⟨rfl, rfl, rfl, by decide +kernel, rfl, by decide +kernel, by decide +kernel⟩
def d_law_octets : He.DefD := ⟨("_law_octets", none), "_law_octets", "_law_octets", defArgs s_law_octets, defBody s_law_octets, defScope s_law_octets, [], []⟩
abbrev s_law_do : Stmt := topS 13
theorem sc_law_do : FnScope ["channel", "deed"] ["channel", "deed"] (defScope s_law_do) := ⟨rfl, rfl, rfl, by decide +kernel, rfl, by decide +kernel, by decide +kernel⟩
def d_law_do : He.DefD := ⟨("_law_do", none), "_law_do", "_law_do", defArgs s_law_do, defBody s_law_do, defScope s_law_do, [], []⟩
abbrev s_law_told : Stmt := topS 14
theorem sc_law_told : FnScope ["channel", "deed", "e"] ["channel", "deed"] (defScope s_law_told) := ⟨rfl, rfl, rfl, by decide +kernel, rfl, by decide +kernel, by decide +kernel⟩
def d_law_told : He.DefD := ⟨("_law_told", none), "_law_told", "_law_told", defArgs s_law_told, defBody s_law_told, defScope s_law_told, [], []⟩
abbrev s_law_missing : Stmt := topS 15
theorem sc_law_missing : FnScope ["row", "deed", "places", "place"] ["row", "deed"] (defScope s_law_missing) := ⟨rfl, rfl, rfl, by decide +kernel, rfl, by decide +kernel, by decide +kernel⟩
def d_law_missing : He.DefD := ⟨("_law_missing", none), "_law_missing", "_law_missing", defArgs s_law_missing, defBody s_law_missing, defScope s_law_missing, [], []⟩
abbrev s_law_due : Stmt := topS 16
theorem sc_law_due : FnScope ["row", "deed", "place"] ["row", "deed"] (defScope s_law_due) := ⟨rfl, rfl, rfl, by decide +kernel, rfl, by decide +kernel, by decide +kernel⟩
def d_law_due : He.DefD := ⟨("_law_due", none), "_law_due", "_law_due", defArgs s_law_due, defBody s_law_due, defScope s_law_due, [], []⟩
abbrev s_law_deed : Stmt := topS 17
theorem sc_law_deed : FnScope ["box", "row", "word", "place", "spot", "octet"] ["box", "row"] (defScope s_law_deed) := ⟨rfl, rfl, rfl, by decide +kernel, rfl, by decide +kernel, by decide +kernel⟩
def d_law_deed : He.DefD := ⟨("_law_deed", none), "_law_deed", "_law_deed", defArgs s_law_deed, defBody s_law_deed, defScope s_law_deed, [], []⟩
abbrev s_law : Stmt := topS 18
theorem sc_law : FnScope ["script", "box", "channel", "row", "turn", "octets", "deed", "missing", "due", "told"] ["script"] (defScope s_law) := ⟨rfl, rfl, rfl, by decide +kernel, rfl, by decide +kernel, by decide +kernel⟩
def d_law : He.DefD := ⟨("law", none), "law", "law", defArgs s_law, defBody s_law, defScope s_law, [], []⟩
abbrev lv_CodeError_init : Nat := 3
abbrev lv_NothingThere_init : Nat := 2
abbrev lv_Channel_init : Nat := 1
abbrev lv_Channel_put : Nat := 1
abbrev lv_Channel_lose : Nat := 5
abbrev lv_Channel_double : Nat := 5
abbrev lv_Channel_exchange : Nat := 5
abbrev lv_Channel_damage : Nat := 5
abbrev lv_Channel_cut : Nat := 5
abbrev lv_Channel_take : Nat := 5
abbrev lv_Channel_check_there : Nat := 4
abbrev lv_law_cell : Nat := 1
abbrev lv_law_row : Nat := 1
abbrev lv_law_box : Nat := 2
abbrev lv_law_draw : Nat := 1
abbrev lv_law_same : Nat := 1
abbrev lv_law_octets : Nat := 2
abbrev lv_law_do : Nat := 6
abbrev lv_law_told : Nat := 7
abbrev lv_law_missing : Nat := 1
abbrev lv_law_due : Nat := 1
abbrev lv_law_deed : Nat := 2
abbrev lv_law : Nat := 8

section
variable {P : Program} {w : World} {K : PySem.W.Frag} {mg : Str → Option Value} {base : Heap}
/-! ### the box of draws -/
structure Box (K : PySem.W.Frag) (b dg : Addr) (H : Hp) : Prop where
  bx : ∃ z : Int, H b = some (.lst [.ref dg, .int z]) ∧ 0 ≤ z
  di : ∃ ns : List Int, H dg = some (.lst (ns.map V.int))
  ne : dg ≠ b
theorem Box.stp {b dg : Addr} {H H1 : Hp} {M : List Addr} (B : Box K b dg H) (s : Stp M H H1) (n1 : b ∉ M) (n2 : dg ∉ M) : Box K b dg H1 := by
  obtain ⟨⟨z, h, hz⟩, ⟨ns, d⟩, ne⟩ := B
  exact ⟨⟨z, s.keep _ _ h n1, hz⟩, ⟨ns, s.keep _ _ d n2⟩, ne⟩
theorem Box.grow {b dg : Addr} {H H1 : Hp} (B : Box K b dg H) (s : Stp [] H H1) : Box K b dg H1 := B.stp s (by simp) (by simp)
theorem Box.nin {b dg p : Addr} {H : Hp} (B : Box K b dg H) (hp : H p = none) : p ∉ [b] := by
  obtain ⟨⟨z, e, _⟩, _, _⟩ := B
  simp
  exact fun z => by rw [z, e] at hp; cases hp
theorem Box.dgn {b dg p : Addr} {H : Hp} (B : Box K b dg H) (hp : H p = none) : dg ≠ p := by
  obtain ⟨_, ⟨ns, h⟩, _⟩ := B
  rintro rfl
  rw [hp] at h; cases h
/-- what is written was not there yet -/
theorem Box.off {b dg p : Addr} {H0 H H1 : Hp} {M : List Addr} (B0 : Box K b dg H0) (B : Box K b dg H) (hp : H0 p = none) (s : Stp [p] H H1) : Box K b dg H1 :=
  B.stp s (fun z => B0.nin hp (by simpa using (List.mem_singleton.mp z).symm)) (fun z => B0.dgn hp (List.mem_singleton.mp z))
def spDraw (K : PySem.W.Frag) : Sp := fun vs H Q _ => ∃ (b dg : Addr) (m : Int), vs = [.ref b, .int m] ∧ 0 < m ∧ Box K b dg H ∧
  ∀ (d : Int) (H1 : Hp), 0 ≤ d → d < m → Stp [b] H H1 → Box K b dg H1 → Q (.int d) H1
theorem cal_draw (F : Df K mg d_law_draw) (B : Blt mg) : Cal P w K mg base lv_law_draw "_law_draw" ["box", "many"] (spDraw K) := by
  obtain ⟨f, fd, F, g⟩ := F
  refine ⟨f, fd, F.ok sc_law_draw (fun vs H Q E h => ?_) (fun cdv A outer s H vs Q E hr h => ⟨_, PSs.nox
    (pss_cons (ps_set (i := 2) sc_law_draw.nd rfl (Or.inl rfl) (pe_ix (ix_listK (K := K) rfl) (pv 0) pe_int (fun _ _ => rfl)))
    (pss_cons (ps_asg (pe_op op_add (pv 2) pe_int) (pg_sub (pv 0) pe_int set_list))
    (pss_cons (ps_if (pt_cmpR op_lt (pv 2) (pe_callB call_len_seq (by rfl) B.len boot_len (pa_cons (pe_ix (ix_listK (K := K) rfl) (pv 0) pe_int (fun _ _ => rfl)) pa_nil)) (nomark _))
      (pss_one (ps_ret (pe_op op_mod (pe_callTy call_int1 (by rfl) B.int boot_int (pa_cons (pe_ix (ix_listK (K := K) rfl) (pe_ix (ix_listK (K := K) rfl) (pv 0) pe_int (fun _ _ => rfl)) (pv 2) (fun _ _ => rfl)) pa_nil)) (pv 1))))
      pss_nil)
    (pss_one (ps_ret (pe_op op_mod (pe_callTy call_int1 (by rfl) B.int boot_int (pa_cons (pe_op op_add (pe_op op_mul (pv 2) pe_int) pe_int) pa_nil)) (pv 1))))))), ?_⟩), g, F.kp, F.bindsN fun _ _ _ _ _ _ us hl => match us, hl with | [_, _], _ => rfl⟩
  · obtain ⟨b, dg, m, rfl, _⟩ := h
    rfl
  · obtain ⟨b, dg, m, rfl, hm, ⟨⟨z, hb, hz⟩, ⟨ns, hd⟩, ne⟩, q⟩ := h
    have st : Stp [b] H (upd H b (.lst [.ref dg, .int (z + 1)])) := .wr (by simp) hb fun _ e => by cases e
    have hd0 := st.keep _ _ hd (by simp [ne])
    have hd1 : SqL K (upd H b (.lst [.ref dg, .int (z + 1)])) dg (ns.map V.int) := SqL.of hd0
    have B1 : Box K b dg (upd H b (.lst [.ref dg, .int (z + 1)])) := ⟨⟨z + 1, upd_same, by omega⟩, ⟨ns, hd0⟩, ne⟩
    refine ⟨_, rfl, _, _, _, _, rfl, rfl, SqL.of hb, atI_nat (j := 1) rfl, ?_⟩
    refine ⟨_, rfl, _, _, rfl, rfl, _, rfl, _, _, _, 1, rfl, rfl, hb, rfl, ?_⟩
    refine ⟨_, rfl, _, rfl, _, _, _, _, rfl, rfl, SqL.of upd_same, atI_nat (j := 0) rfl, _, _, rfl, .inl hd1, _, _, rfl, rfl, _, rfl, ?_⟩
    refine i_iteD (fun hlt => ?_) (fun _ => ?_)
    · have hl : z.toNat < ns.length := by rw [List.length_map] at hlt; omega
      have he : atI (ns.map V.int) z = some (.int ns[z.toNat]) := at_of (j := z.toNat) (by omega) (by rw [List.getElem?_map, List.getElem?_eq_getElem hl]; rfl)
      refine ⟨_, rfl, _, _, _, _, rfl, rfl, SqL.of upd_same, atI_nat (j := 0) rfl, _, rfl, _, _, _, _, rfl, rfl, hd1, he, .inl ⟨_, rfl, _, rfl, _, _, rfl, rfl, hm, ?_⟩⟩
      exact q _ _ (Int.emod_nonneg _ (by omega)) (Int.emod_lt_of_pos _ hm) st B1
    · refine ⟨_, rfl, _, _, rfl, rfl, .inr ⟨by decide, by decide⟩, _, _, rfl, rfl, .inl ⟨_, rfl, _, rfl, _, _, rfl, rfl, hm, ?_⟩⟩
      exact q _ _ (Int.emod_nonneg _ (by omega)) (Int.emod_lt_of_pos _ hm) st B1
end

section
variable {P : Program} {w : World} {K : PySem.W.Frag} {mg : Str → Option Value} {base : Heap}
/-! ### the digits of the cells (laws with _law_row, _law_box) -/
def spCel (K : PySem.W.Frag) : Sp := fun vs H Q _ => ∃ (l : Addr) (ns : List Int) (k : Int), vs = [.ref l, .int k] ∧ 0 ≤ k ∧ SqL K H l (ns.map V.int) ∧ ∀ i : Int, Q (.int i) H
theorem cal_cell (F : Df K mg d_law_cell) (B : Blt mg) : Cal P w K mg base lv_law_cell "_law_cell" ["script", "k"] (spCel K) := by
  obtain ⟨f, fd, F, g⟩ := F
  refine ⟨f, fd, F.ok sc_law_cell (fun vs H Q E h => ?_) (fun cdv A outer s H vs Q E hr h => ⟨_, PSs.nox
    (pss_cons (ps_if (pt_cmpR op_lt (pv 1) (pe_callB call_len_seq (by rfl) B.len boot_len (pa_cons (pv 0) pa_nil)) (nomark _))
      (pss_one (ps_ret (pe_ix (ix_listK (K := K) rfl) (pv 0) (pv 1) (fun _ _ => rfl))))
      pss_nil)
    (pss_one (ps_ret pe_int))), ?_⟩), g, F.kp, F.bindsN fun _ _ _ _ _ _ us hl => match us, hl with | [_, _], _ => rfl⟩
  · obtain ⟨l, ns, k, rfl, _⟩ := h
    rfl
  · obtain ⟨l, ns, k, rfl, hk, hs, q⟩ := h
    refine ⟨_, rfl, _, rfl, _, _, rfl, .inl hs, _, _, rfl, rfl, _, rfl, ?_⟩
    refine i_iteD (fun hlt => ?_) (fun _ => ?_)
    · have hl : k.toNat < ns.length := by rw [List.length_map] at hlt; omega
      exact ⟨_, rfl, _, rfl, _, _, _, _, rfl, rfl, hs, at_of (j := k.toNat) (by omega) (by rw [List.getElem?_map, List.getElem?_eq_getElem hl]; rfl), q _⟩
    · exact q 0
theorem map_snoc (ds : List Int) (d : Int) : ds.map V.int ++ [V.int d] = (ds ++ [d]).map V.int := by simp
def spRow : Sp := fun vs H Q _ => ∃ (c k m : Int), vs = [.int c, .int k, .int m] ∧ 0 ≤ k ∧ k ≤ 1000 ∧ 0 ≤ m ∧ m ≤ 1000 ∧
  ∀ (p : Addr) (ds : List Int) (H1 : Hp), H p = none → H1 p = some (.lst (ds.map V.int)) → ds.length ≤ 1000 → Stp [] H H1 → Q (.ref p) H1
theorem cal_row (F : Df K mg d_law_row) (B : Blt mg) : Cal P w K mg base lv_law_row "_law_row" ["cell", "k", "many"] spRow := by
  obtain ⟨f, fd, F, g⟩ := F
  refine ⟨f, fd, F.ok sc_law_row (fun vs H Q E h => ?_) (fun cdv A outer s H vs Q E hr h => ⟨_, PSs.nox
    (pss_cons (ps_set (i := 3) sc_law_row.nd rfl (Or.inl rfl) (pe_lst pa_nil))
    (C8.pss_cut (ps_if (pt_cmpR op_lt (pv 0) pe_int (nomark _))
      (pss_one (ps_set (i := 0) sc_law_row.nd rfl (Or.inl rfl) (pe_op op_sub pe_int (pe_op op_mul pe_int (pv 0)))))
      pss_nil)
    (pss_cons (ps_if (pt_cmpR op_ge (pv 0) (pe_op op_pow pe_int pe_int) (nomark _))
      (pss_cons (ps_for PassesOwn.never rfl (pi_range1 rfl B.range (pa_cons pe_int pa_nil)) (pg_name (i := 4) sc_law_row.nd rfl (Or.inl rfl))
          (pss_one (ps_if (PW.pt (pw_and (pt_cmpR op_gt (pv 0) pe_int (nomark _)) (pw_and1 (pt_cmpR op_lt (pe_callB call_len_seq (by rfl) B.len boot_len (pa_cons (pv 3) pa_nil)) (pv 2) (nomark _)))))
              (pss_cons (ps_expr (pe_bm PySem.F.plainAttrs_list PySem.F.slot_list_append PySem.F.type_list_append mt_append (pv 3) (pa_cons (pe_op op_mod (pe_callTy call_int1 (by rfl) B.int boot_int (pa_cons (pv 0) pa_nil)) pe_int) pa_nil)))
                (pss_one (ps_set (i := 0) sc_law_row.nd rfl (Or.inl rfl) (pe_op op_fdiv (pv 0) pe_int))))
              pss_nil)))
        (pss_one (ps_ret (pv 3))))
      pss_nil)
    (pss_cons (ps_set (i := 5) sc_law_row.nd rfl (Or.inl rfl) (pe_op op_mod (pe_callTy call_int1 (by rfl) B.int boot_int (pa_cons (pe_op op_add (pe_op op_add (pe_op op_mul (pv 0) pe_int) (pe_op op_mul (pv 1) pe_int)) pe_int) pa_nil)) pe_int))
    (pss_cons (ps_for PassesOwn.never rfl (pi_range1 rfl B.range (pa_cons (pv 2) pa_nil)) (pg_name (i := 4) sc_law_row.nd rfl (Or.inl rfl))
      (pss_cons (ps_set (i := 5) sc_law_row.nd rfl (Or.inl rfl) (pe_op op_mod (pe_callTy call_int1 (by rfl) B.int boot_int (pa_cons (pe_op op_add (pe_op op_add (pe_op op_mul (pv 5) pe_int) (pe_op op_mul pe_int (pv 4))) pe_int) pa_nil)) pe_int))
        (pss_one (ps_expr (pe_bm PySem.F.plainAttrs_list PySem.F.slot_list_append PySem.F.type_list_append mt_append (pv 3) (pa_cons (pe_op op_mod (pe_callTy call_int1 (by rfl) B.int boot_int (pa_cons (pe_op op_fdiv (pv 5) pe_int) pa_nil)) pe_int) pa_nil))))))
    (pss_one (ps_ret (pv 3)))))))), ?_⟩), g, F.kp, F.bindsN fun _ _ _ _ _ _ us hl => match us, hl with | [_, _, _], _ => rfl⟩
  · obtain ⟨c, k, m, rfl, _⟩ := h
    rfl
  · obtain ⟨c0, k, m, rfl, hk0, hk, hm0, hm, q⟩ := h
    refine ⟨Nat.zero_le _, fun p hp => ?_⟩
    have s1 : Stp [] H (upd H p (.lst [])) := .new hp
    have h1 : (upd H p (.lst [])) p = some (.lst (([] : List Int).map V.int)) := upd_same
    generalize upd H p (.lst []) = H1 at s1 h1 ⊢
    refine ⟨fun σ2 H2 => H2 = H1 ∧ ∃ c : Int, 0 ≤ c ∧ σ2 = [some (.int c), some (.int k), some (.int m), some (.ref p), none, none], ?_, ?_⟩
    · refine ⟨_, rfl, _, _, rfl, rfl, _, rfl, i_iteD (fun hc => ?_) (fun hc => ?_)⟩
      · refine ⟨_, rfl, _, _, rfl, rfl, .inl ⟨by decide, by decide⟩, _, _, rfl, rfl, rfl, 1 - 2 * c0, by omega, rfl⟩
      · exact ⟨rfl, c0, by omega, rfl⟩
    · rintro σ2 H2 ⟨rfl, c, hc, rfl⟩
      refine ⟨_, rfl, _, _, rfl, rfl, ⟨by decide, by decide, by decide⟩, _, _, rfl, rfl, _, rfl, i_iteD (fun hbig => ?_) (fun hsm => ?_)⟩
      · refine ⟨60, rfl, by decide, by decide, ?_⟩
        refine for_range (lo := 0) (n := 60) (fun j σ3 H3 => ∃ (y6 : Option V) (c : Int) (es : List Int), σ3 = [some (.int c), some (.int k), some (.int m), some (.ref p), y6, none] ∧ Stp [] H H3 ∧ H3 p = some (.lst (es.map V.int)) ∧ es.length ≤ j)
          ⟨none, c, [], rfl, s1, h1, Nat.zero_le _⟩ ?_ ?_
        · rintro j σ3 H3 hj ⟨z6, c1, es, rfl, s3, h3, hl3⟩
          repeat walk_at "h"
          refine i_iteD (fun hpos => ?_) (fun _ => ?_)
          · repeat walk_at "h"
            refine ⟨p, _, rfl, .inl (SqL.of h3), ?_⟩
            repeat walk_at "h"
            refine i_iteD (fun hl => ?_) (fun _ => ?_)
            · refine ⟨_, rfl, .inl ⟨rfl, _, SqL.of h3⟩, _, rfl, .inl ⟨_, rfl, _, _, rfl, rfl, (by show (0 : Int) < 1000; decide), _, _, _, rfl, rfl, h3, ?_, ?_⟩⟩
              · rw [List.length_map]; exact Nat.lt_of_le_of_lt (show es.length ≤ 70000 by omega) (by decide)
              · refine ⟨_, rfl, _, _, rfl, rfl, ⟨by decide, by decide⟩, _, _, es ++ [c1 % 1000], rfl, s3.mut hp, ?_, ?_⟩
                · rw [upd_same, map_snoc]
                · rw [List.length_append, List.length_singleton]; omega
            · exact ⟨_, c1, es, rfl, s3, h3, by omega⟩
          · exact ⟨_, c1, es, rfl, s3, h3, by omega⟩
        · rintro σ3 H3 ⟨z6, c1, es, rfl, s3, h3, hl3⟩
          exact ⟨_, rfl, q p es H3 hp h3 (by omega) s3⟩
      · have hc18 : c < 1000000000000000000 := by
          have e : (10 : Int) ^ (18 : Int).toNat = 1000000000000000000 := by decide
          rw [e] at hsm; omega
        repeat walk_at "h"
        refine .inl ⟨_, rfl, ?_⟩
        repeat walk_at "h"
        refine ⟨m, rfl, by omega, by omega, ?_⟩
        refine for_range (lo := 0) (n := m.toNat) (fun j σ3 H3 => ∃ (y6 : Option V) (sd : Int) (es : List Int), σ3 = [some (.int c), some (.int k), some (.int m), some (.ref p), y6, some (.int sd)] ∧ 0 ≤ sd ∧ sd < 2147483647 ∧ Stp [] H H3 ∧ H3 p = some (.lst (es.map V.int)) ∧ es.length ≤ j)
          ⟨none, _, [], rfl, Int.emod_nonneg _ (by decide), Int.emod_lt_of_pos _ (by decide), s1, h1, Nat.zero_le _⟩ ?_ ?_
        · rintro j σ3 H3 hj ⟨z6, sd, es, rfl, hs0, hs1, s3, h3, hl3⟩
          refine ⟨_, rfl, _, _, rfl, rfl, .inl ⟨by omega, by omega⟩, _, rfl, _, _, rfl, rfl, .inl ⟨by decide, by decide⟩, _, _, rfl, rfl, _, _, rfl, rfl, .inl ⟨_, rfl, _, _, rfl, rfl, (by show (0 : Int) < 2147483647; decide), ?_⟩⟩
          refine ⟨_, rfl, .inl ⟨rfl, _, SqL.of h3⟩, _, rfl, _, _, rfl, rfl, ⟨by decide, by decide⟩, .inl ⟨_, rfl, _, _, rfl, rfl, (by show (0 : Int) < 1000; decide), _, _, _, rfl, rfl, h3, ?_, ?_⟩⟩
          · rw [List.length_map]; exact Nat.lt_of_le_of_lt (show es.length ≤ 70000 by omega) (by decide)
          · refine ⟨_, _, es ++ [(sd * 16807 + 7 * (0 + (j : Int)) + 1) % 2147483647 / 997 % 1000], rfl, Int.emod_nonneg _ (by decide), Int.emod_lt_of_pos _ (by decide), s3.mut hp, ?_, ?_⟩
            · rw [upd_same, map_snoc]
            · rw [List.length_append, List.length_singleton]; omega
        · rintro σ3 H3 ⟨z6, sd, es, rfl, hs0, hs1, s3, h3, hl3⟩
          exact ⟨_, rfl, q p es H3 hp h3 (by omega) s3⟩
def spBox (K : PySem.W.Frag) : Sp := fun vs H Q _ => ∃ (l : Addr) (ns : List Int) (a b : Int), vs = [.ref l, .int a, .int b] ∧ 0 ≤ a ∧ a ≤ b ∧ b ≤ 100 ∧ SqL K H l (ns.map V.int) ∧
  ∀ (p dg : Addr) (H1 : Hp), H p = none → H dg = none → Box K p dg H1 → Stp [] H H1 → Q (.ref p) H1
theorem cal_box (F : Df K mg d_law_box) (B : Blt mg) (C_law_cell : Cal P w K mg base lv_law_cell "_law_cell" ["script", "k"] (spCel K)) (C_law_row : Cal P w K mg base lv_law_row "_law_row" ["cell", "k", "many"] spRow) : Cal P w K mg base lv_law_box "_law_box" ["script", "first", "last"] (spBox K) := by
  obtain ⟨f, fd, F, g⟩ := F
  refine ⟨f, fd, F.ok sc_law_box (fun vs H Q E h => ?_) (fun cdv A outer s H vs Q E hr h => ⟨_, PSs.nox
    (pss_cons (ps_set (i := 3) sc_law_box.nd rfl (Or.inl rfl) (pe_lst pa_nil))
    (pss_cons (ps_for PassesOwn.never rfl (pi_range2 rfl B.range (pa_cons (pv 1) (pa_cons (pv 2) pa_nil))) (pg_name (i := 4) sc_law_box.nd rfl (Or.inl rfl))
      (pss_one (ps_set (i := 3) sc_law_box.nd rfl (Or.inl rfl) (pe_op op_cat (pv 3) (pc_call C_law_row (hr.mono (by decide)) (by rfl) (pa_cons (pc_call C_law_cell (hr.mono (by decide)) (by rfl) (pa_cons (pv 0) (pa_cons (pv 4) pa_nil))) (pa_cons (pv 4) (pa_cons pe_int pa_nil))))))))
    (pss_one (ps_ret (pe_lst (pa_cons (pv 3) (pa_cons pe_int pa_nil))))))), ?_⟩), g, F.kp, F.bindsN fun _ _ _ _ _ _ us hl => match us, hl with | [_, _, _], _ => rfl⟩
  · obtain ⟨l, ns, a, b, rfl, _⟩ := h
    rfl
  · obtain ⟨l, ns, a, b, rfl, ha, hab, hb, hs, q⟩ := h
    refine ⟨Nat.zero_le _, fun p hp => ?_⟩
    have s1 : Stp [] H (upd H p (.lst [])) := .new hp
    have h1 : (upd H p (.lst [])) p = some (.lst (([] : List Int).map V.int)) := upd_same
    generalize upd H p (.lst []) = H1 at s1 h1 ⊢
    repeat walk_at "h"
    refine ⟨a, b, rfl, ⟨by omega, by omega, by omega, by omega⟩, ?_⟩
    refine for_range (lo := a) (n := (b - a).toNat) (fun i σ H' => ∃ (p' : Addr) (y4 : Option V) (ds : List Int), σ = [some (.ref l), some (.int a), some (.int b), some (.ref p'), y4] ∧ Stp [] H H' ∧ H p' = none ∧ H' p' = some (.lst (ds.map V.int)) ∧ ds.length ≤ 1000 * i)
      ⟨p, none, [], rfl, s1, hp, h1, Nat.zero_le _⟩ ?_ ?_
    · rintro i σ H' hi ⟨p', y4, ds, rfl, s', hp', hd, hl⟩
      repeat walk_at "h"
      refine ⟨l, ns, a + (i : Int), rfl, by omega, s'.seq hs (by simp), fun c0 => ?_⟩
      repeat walk_at "h"
      refine ⟨c0, a + (i : Int), 12, rfl, by omega, by omega, by decide, by decide, fun p2 ds2 H2 n2 e2 l2 s2 => ?_⟩
      have hd2 := s2.keep _ _ hd (by simp)
      have s02 := s'.trans s2
      refine ⟨p', p2, _, _, rfl, rfl, hd2, e2, ?_, fun p3 n3 => ?_⟩
      · rw [List.length_map, List.length_map]
        exact Nat.le_trans (show ds.length + ds2.length ≤ 200000 by omega) (by decide)
      · repeat walk_at "h"
        refine ⟨p3, _, ds ++ ds2, rfl, s02.add n3, s02.free n3 (by simp), by rw [upd_same, List.map_append], ?_⟩
        rw [List.length_append]; omega
    · rintro σ H' ⟨p', y4, ds, rfl, s', hp', hd, hl⟩
      repeat walk_at "h"
      refine ⟨(by decide : 2 ≤ sizeLine), fun p3 n3 => ?_⟩
      have ne : p' ≠ p3 := by rintro rfl; rw [n3] at hd; cases hd
      exact q p3 p' _ (s'.free n3 (by simp)) hp' ⟨⟨0, upd_same, Int.le_refl _⟩, ⟨ds, by rw [upd_ne ne]; exact hd⟩, ne⟩ (s'.add n3)
end

/-! ### the error of the channels -/
abbrev placeS : Str := Str.ofString "place"
/-- a number that can be written -/
def SmallI (v : V) : Prop := ∃ i : Int, v = .int i ∧ i.natAbs < 2 ^ 70
def Dfe (K : PySem.W.Frag) (C : Addr) (d : He.DefD) : Prop := ∃ (fI : Addr) (fd : FuncData), FunD K d.name d.qual d.params d.body d.scope [] [] fI fd ∧ PySem.W.findIn K (.ref C) "__init__" = some (some (.ref fI)) ∧ PySem.W.typeIn K (.ref fI) = some (.type "function")
section
variable {P : Program} {w : World} {K : PySem.W.Frag} {mg : Str → Option Value} {base : Heap} {NT GE : Addr}
theorem log2_small {n : Nat} (h : n < 2 ^ 70) : n.log2 < 1920 := by
  by_cases z : n = 0
  · subst z; decide
  · have := (Nat.log2_lt z).mpr h
    omega
theorem int_text_small {i : Int} (h : i.natAbs < 2 ^ 70) : (Str.ofString (toString i)).length ≤ 100 := by
  have e := int_text_length_le10 (a := i) (k := 22) (by decide) (Nat.lt_of_lt_of_le h (by decide))
  rw [PySem.ofString_length]
  omega
theorem err_NothingThere (F : Dfe K NT d_NothingThere_init) (T : ErrC K NT) (nf : PySem.W.findIn K (.ref NT) "place" = some none) (hm : mg "NothingThere" = some (.ref NT)) (G_GraphtwinsError : mg "GraphtwinsError" = some (.ref GE)) (BC_GraphtwinsError : BasC K GE) :
    Err P w K mg base lv_NothingThere_init NT "NothingThere" "place" SmallI "place" := by
  obtain ⟨fI, fd, F, hi, hty⟩ := F
  refine ⟨T, nf, hm, fI, fd, ?_, hi, hty, F.bindsN fun _ _ _ _ _ _ us hl => match us, hl with | [_, _], _ => rfl⟩
  refine F.ok sc_NothingThere_init (fun vs H Q E h => ?_) (fun cdv A outer s H vs Q E hr h => ⟨_, PSs.nox
    (pss_cons (ps_expr (pe_binit BC_GraphtwinsError (by rfl) G_GraphtwinsError (pa_cons (pv 0) (pa_cons (pe_joinedT (PJ.cons pe_str (PJ.cons (pe_fmt (pv 1)) PJ.nil))) pa_nil))))
    (pss_one (ps_ost (pv 0) (pv 1)))), ?_⟩)
  · obtain ⟨a, v, rfl, _⟩ := h
    rfl
  · obtain ⟨a, v, rfl, ⟨i, rfl, hi⟩, ha, q⟩ := h
    repeat walk_at "h"
    refine i_VeI ?_
    repeat walk_at "h"
    refine i_Join ?_
    have l1 : (Str.empty ++ Str.ofString "nothing is under way at the place ").length = 34 := by decide
    have l2 := int_text_small hi
    refine i_Js ⟨_, rfl, by rw [l1]; decide, i_Js (i_Fmt ⟨_, rfl, .inr ⟨i, rfl, log2_small hi, ?_⟩⟩)⟩
    refine ⟨_, rfl, ?_, i_Js0 ?_⟩
    · rw [strLen_append, l1]
      refine Nat.le_trans (show 34 + _ ≤ 200 by omega) (by decide)
    · refine ⟨a, NT, _, rfl, by simp, T.ox, ha, ?_⟩
      exact ⟨_, rfl, _, rfl, a, NT, rfl, T.ox, nf, .inl ⟨ha, fun dx hd ne => q dx hd ne⟩⟩
end

/-! ### rows of lists of numbers -/
section
abbrev Rw := List (Addr × List Int)
def lstI (ns : List Int) : HO := .lst (ns.map V.int)
def refs (ps : Rw) : List V := ps.map fun p => V.ref p.1
def adrs (u : Addr) (ps : Rw) : List Addr := u :: ps.map (·.1)
/-- at u a list of lists -/
structure Rws (H : Hp) (u : Addr) (ps : Rw) : Prop where
  top : H u = some (.lst (refs ps))
  its : ∀ p ∈ ps, H p.1 = some (lstI p.2)
  ne : ∀ p ∈ ps, p.1 ≠ u
  inj : ∀ (i j : Nat) (p q : Addr × List Int), ps[i]? = some p → ps[j]? = some q → p.1 = q.1 → i = j
/-- a step from the one row to the other -/
structure RwStep (H : Hp) (u : Addr) (ps : Rw) (H1 : Hp) (ps1 : Rw) : Prop where
  rw : Rws H1 u ps1
  st : Stp (adrs u ps) H H1
  nw : ∀ p ∈ ps1, H p.1 = none ∨ ∃ q ∈ ps, q.1 = p.1
variable {H H1 H2 : Hp} {u : Addr} {ps ps1 : Rw}
theorem mem_of_at {α : Type} {l : List α} {i : Nat} {x : α} (h : l[i]? = some x) : x ∈ l := List.mem_of_getElem? h
theorem Rws.stp {M : List Addr} (h : Rws H u ps) (s : Stp M H H1) (d : ∀ a ∈ adrs u ps, a ∉ M) : Rws H1 u ps :=
  ⟨s.keep _ _ h.top (d u (by simp [adrs])), fun p hp => s.keep _ _ (h.its p hp) (d p.1 (by simp only [adrs, List.mem_cons, List.mem_map]; exact .inr ⟨p, hp, rfl⟩)), h.ne, h.inj⟩
theorem Rws.grow (h : Rws H u ps) (s : Stp [] H H1) : Rws H1 u ps := h.stp s fun _ _ => by simp
theorem Rws.there (h : Rws H u ps) : ∀ a ∈ adrs u ps, ∃ xs, H a = some (.lst xs) := fun a ha => by
  simp only [adrs, List.mem_cons, List.mem_map] at ha
  rcases ha with rfl | ⟨p, hp, rfl⟩
  · exact ⟨_, h.top⟩
  · exact ⟨_, h.its p hp⟩
theorem Rws.not (h : Rws H u ps) {a : Addr} (n : ∀ xs, H a ≠ some (.lst xs)) : a ∉ adrs u ps := fun z => by
  obtain ⟨xs, e⟩ := h.there a z
  exact n xs e
theorem in_adrs {p : Addr × List Int} (hp : p ∈ ps) : p.1 ∈ adrs u ps := by simp only [adrs, List.mem_cons, List.mem_map]; exact .inr ⟨p, hp, rfl⟩
theorem RwStep.same (h : Rws H u ps) : RwStep H u ps H ps := ⟨h, .refl _, fun p hp => .inr ⟨p, hp, rfl⟩⟩
theorem RwStep.grown (h : Rws H u ps) (s : Stp [] H H1) : RwStep H u ps H1 ps := ⟨h.grow s, s.mono (by simp), fun p hp => .inr ⟨p, hp, rfl⟩⟩
/-- a new item behind all others -/
theorem Rws.put (h : Rws H u ps) {p : Addr} {ns : List Int} (s : Stp [] H H1) (n : H p = none) (e : H1 p = some (lstI ns)) :
    RwStep H u ps (upd H1 u (.lst (refs ps ++ [.ref p]))) (ps ++ [(p, ns)]) := by
  have h1 := h.grow s
  have np : p ≠ u := by rintro rfl; rw [h.top] at n; cases n
  have nq : ∀ q ∈ ps, q.1 ≠ p := fun q hq z => by rw [← z, h.its q hq] at n; cases n
  refine ⟨⟨by rw [upd_same]; simp [refs], fun q hq => ?_, fun q hq => ?_, fun i j a b ha hb ab => ?_⟩, (s.mono (by simp)).write (by simp [adrs]) h1.top (fun _ z => by cases z), fun q hq => ?_⟩
  · rcases List.mem_append.mp hq with hq | hq
    · rw [upd_ne (h1.ne q hq)]; exact h1.its q hq
    · rw [List.mem_singleton.mp hq, upd_ne np]; exact e
  · rcases List.mem_append.mp hq with hq | hq
    · exact h.ne q hq
    · rw [List.mem_singleton.mp hq]; exact np
  · rw [List.getElem?_append] at ha hb
    split at ha
    · split at hb
      · exact h.inj i j a b ha hb ab
      · have eb := List.mem_singleton.mp (mem_of_at hb)
        rw [eb] at ab
        exact absurd ab (nq a (mem_of_at ha))
    · split at hb
      · have ea := List.mem_singleton.mp (mem_of_at ha)
        rw [ea] at ab
        exact absurd ab.symm (nq b (mem_of_at hb))
      · have h1 : i - ps.length < 1 := by
          have := (List.getElem?_eq_some_iff.mp ha).1
          simpa using this
        have h2 : j - ps.length < 1 := by
          have := (List.getElem?_eq_some_iff.mp hb).1
          simpa using this
        omega
  · rcases List.mem_append.mp hq with hq | hq
    · exact .inr ⟨q, hq, rfl⟩
    · rw [List.mem_singleton.mp hq]; exact .inl n
theorem refs_erase (ps : Rw) (k : Nat) : refs (ps.eraseIdx k) = (refs ps).eraseIdx k := by
  unfold refs
  refine List.ext_getElem? fun i => ?_
  rw [List.getElem?_map, List.getElem?_eraseIdx, List.getElem?_eraseIdx]
  split <;> rw [List.getElem?_map]
/-- an item taken out -/
theorem Rws.out (h : Rws H u ps) (k : Nat) : RwStep H u ps (upd H u (.lst ((refs ps).eraseIdx k))) (ps.eraseIdx k) := by
  have sub : ∀ q ∈ ps.eraseIdx k, q ∈ ps := fun q hq => (List.eraseIdx_sublist ps k).subset hq
  refine ⟨⟨by rw [upd_same, refs_erase], fun q hq => by rw [upd_ne (h.ne q (sub q hq))]; exact h.its q (sub q hq), fun q hq => h.ne q (sub q hq), fun i j a b ha hb ab => ?_⟩, .wr (by simp [adrs]) h.top (fun _ z => by cases z), fun q hq => .inr ⟨q, sub q hq, rfl⟩⟩
  rw [List.getElem?_eraseIdx] at ha hb
  split at ha <;> split at hb
  · exact h.inj i j a b ha hb ab
  · have := h.inj i (j + 1) a b ha hb ab; omega
  · have := h.inj (i + 1) j a b ha hb ab; omega
  · have := h.inj (i + 1) (j + 1) a b ha hb ab; omega
/-- an item written -/
theorem Rws.wr (h : Rws H u ps) {k : Nat} {p : Addr × List Int} (hk : ps[k]? = some p) (ns : List Int) : RwStep H u ps (upd H p.1 (lstI ns)) (ps.set k (p.1, ns)) := by
  have hl : k < ps.length := (List.getElem?_eq_some_iff.mp hk).1
  have hp := mem_of_at hk
  have er : refs (ps.set k (p.1, ns)) = refs ps := by
    unfold refs
    rw [List.map_set]
    refine List.ext_getElem? fun i => ?_
    rw [List.getElem?_set]
    split
    · rename_i e
      subst e
      rw [List.getElem?_map, hk]
      simp [hl]
    · rfl
  refine ⟨⟨by rw [upd_ne (h.ne p hp).symm, er]; exact h.top, fun q hq => ?_, fun q hq => ?_, fun i j a b ha hb ab => ?_⟩, .wr (in_adrs hp) (h.its p hp) (fun _ z => by cases z), fun q hq => ?_⟩
  · obtain ⟨i, hi⟩ := List.getElem?_of_mem hq
    rw [List.getElem?_set] at hi
    split at hi
    · rename_i e
      cases hi
      rw [upd_same]
    · rename_i e
      have nq : q.1 ≠ p.1 := fun z => e (h.inj k i p q hk hi z.symm)
      rw [upd_ne nq]
      exact h.its q (mem_of_at hi)
  · rcases List.mem_or_eq_of_mem_set hq with hq | rfl
    · exact h.ne q hq
    · exact h.ne p hp
  · have ga : ∃ a', ps[i]? = some a' ∧ a'.1 = a.1 := by
      rw [List.getElem?_set] at ha
      split at ha
      · rename_i e
        cases ha; exact ⟨p, by rw [← e]; exact hk, rfl⟩
      · exact ⟨a, ha, rfl⟩
    have gb : ∃ b', ps[j]? = some b' ∧ b'.1 = b.1 := by
      rw [List.getElem?_set] at hb
      split at hb
      · rename_i e
        cases hb; exact ⟨p, by rw [← e]; exact hk, rfl⟩
      · exact ⟨b, hb, rfl⟩
    obtain ⟨a', ha', ea⟩ := ga
    obtain ⟨b', hb', eb⟩ := gb
    exact h.inj i j a' b' ha' hb' (by rw [ea, eb, ab])
  · rcases List.mem_or_eq_of_mem_set hq with hq | rfl
    · exact .inr ⟨q, hq, rfl⟩
    · exact .inr ⟨p, hp, rfl⟩
/-- a new item in an old one's place -/
theorem Rws.repl (h : Rws H u ps) {k : Nat} (hk : k < ps.length) {p : Addr} {ns : List Int} (s : Stp [] H H1) (n : H p = none) (e : H1 p = some (lstI ns)) :
    RwStep H u ps (upd H1 u (.lst ((refs ps).set k (.ref p)))) (ps.set k (p, ns)) := by
  have h1 := h.grow s
  have np : p ≠ u := by rintro rfl; rw [h.top] at n; cases n
  have nq : ∀ q ∈ ps, q.1 ≠ p := fun q hq z => by rw [← z, h.its q hq] at n; cases n
  refine ⟨⟨by rw [upd_same]; simp [refs, List.map_set], fun q hq => ?_, fun q hq => ?_, fun i j a b ha hb ab => ?_⟩, (s.mono (by simp)).write (by simp [adrs]) h1.top (fun _ z => by cases z), fun q hq => ?_⟩
  · rcases List.mem_or_eq_of_mem_set hq with hq | rfl
    · rw [upd_ne (h1.ne q hq)]; exact h1.its q hq
    · rw [upd_ne np]; exact e
  · rcases List.mem_or_eq_of_mem_set hq with hq | rfl
    · exact h.ne q hq
    · exact np
  · rw [List.getElem?_set] at ha hb
    split at ha
    · rename_i ei
      split at hb
      · rename_i ej; omega
      · cases ha
        exact absurd ab.symm (nq b (mem_of_at hb))
    · split at hb
      · cases hb
        exact absurd ab (nq a (mem_of_at ha))
      · exact h.inj i j a b ha hb ab
  · rcases List.mem_or_eq_of_mem_set hq with hq | rfl
    · exact .inr ⟨q, hq, rfl⟩
    · exact .inl n
/-- two items exchanged -/
theorem Rws.swap (h : Rws H u ps) {i j : Nat} {p q : Addr × List Int} (hi : ps[i]? = some p) (hj : ps[j]? = some q) {H1 : Hp} (e1 : H1 u = some (.lst (((refs ps).set i (.ref q.1)).set j (.ref p.1)))) (s : Stp [u] H H1) :
    RwStep H u ps H1 ((ps.set i q).set j p) := by
  have li := (List.getElem?_eq_some_iff.mp hi).1
  have lj := (List.getElem?_eq_some_iff.mp hj).1
  have sub : ∀ x ∈ (ps.set i q).set j p, x ∈ ps := fun x hx => by
    rcases List.mem_or_eq_of_mem_set hx with hx | rfl
    · rcases List.mem_or_eq_of_mem_set hx with hx | rfl
      · exact hx
      · exact mem_of_at hj
    · exact mem_of_at hi
  have gt : ∀ (k : Nat) (x : Addr × List Int), ((ps.set i q).set j p)[k]? = some x → ps[if k = j then i else if k = i then j else k]? = some x := fun k x hx => by
    rw [List.getElem?_set, List.getElem?_set, List.length_set] at hx
    by_cases c : j = k
    · rw [if_pos c, if_pos lj] at hx
      cases hx
      rw [if_pos c.symm]; exact hi
    · rw [if_neg c] at hx
      rw [if_neg (fun z => c z.symm)]
      by_cases d : i = k
      · rw [if_pos d, if_pos li] at hx
        cases hx
        rw [if_pos d.symm]; exact hj
      · rw [if_neg d] at hx
        rw [if_neg (fun z => d z.symm)]; exact hx
  refine ⟨⟨by rw [e1]; simp [refs, List.map_set], fun x hx => s.keep _ _ (h.its x (sub x hx)) (by simpa using h.ne x (sub x hx)), fun x hx => h.ne x (sub x hx), fun a b x y hx hy xy => ?_⟩, s.mono (by simp [adrs]), fun x hx => .inr ⟨x, sub x hx, rfl⟩⟩
  have := h.inj _ _ x y (gt a x hx) (gt b y hy) xy
  split at this <;> split at this <;> (try split at this) <;> (try split at this) <;> omega
end

/-! ### the channel -/
section
variable {P : Program} {w : World} {K : PySem.W.Frag} {mg : Str → Option Value} {base : Heap} {C NT : Addr}
abbrev underS : Str := Str.ofString "under_way"
structure ChC (K : PySem.W.Frag) (C : Addr) : Prop where
  cls : Cls K C
  na : NoAttr K C "under_way"
structure ChAt (C : Addr) (H : Hp) (c dx u : Addr) (ps : Rw) : Prop where
  at_ : H c = some (.ins C dx [(underS, .ref u)])
  rw : Rws H u ps
theorem ChAt.cn {H : Hp} {c dx u : Addr} {ps : Rw} (h : ChAt C H c dx u ps) : c ∉ adrs u ps := h.rw.not fun xs z => by rw [h.at_] at z; cases z
theorem ChAt.step {H H1 : Hp} {c dx u : Addr} {ps ps1 : Rw} (h : ChAt C H c dx u ps) (s : RwStep H u ps H1 ps1) : ChAt C H1 c dx u ps1 := ⟨s.st.keep _ _ h.at_ h.cn, s.rw⟩
theorem ChAt.stp {M : List Addr} {H H1 : Hp} {c dx u : Addr} {ps : Rw} (h : ChAt C H c dx u ps) (s : Stp M H H1) (n : c ∉ M) (d : ∀ a ∈ adrs u ps, a ∉ M) : ChAt C H1 c dx u ps := ⟨s.keep _ _ h.at_ n, h.rw.stp s d⟩
/-- the way out: nothing is at the place -/
def OutE (NT : Addr) (H : Hp) (p : Int) (E : XK) : Prop := ∀ d, H d = none → E (.ref NT) (some d) (upd H d (.xd [(placeS, .int p)]))
def spPut (C : Addr) : Sp := fun vs H Q _ => ∃ (c dx u o : Addr) (ps : Rw) (ns : List Int), vs = [.ref c, .ref o] ∧ ChAt C H c dx u ps ∧ H o = some (lstI ns) ∧ ps.length ≤ 900 ∧ ns.length ≤ 900 ∧
  ∀ (p : Addr) (H1 : Hp), RwStep H u ps H1 (ps ++ [(p, ns)]) → Stp [u] H H1 → Q (.int ((ps.length + 1 : Nat) : Int)) H1
theorem mth_Channel_put (F : Dfm K C d_Channel_put) (B : Blt mg) (S : ChC K C) : Mth P w K mg base lv_Channel_put C "put" ["self", "octets"] (spPut C) := by
  obtain ⟨f, fd, F, g⟩ := F
  refine ⟨f, fd, F.ok sc_Channel_put (fun vs H Q E h => ?_) (fun cdv A outer s H vs Q E hr h => ⟨_, PSs.nox
    (pss_cons (ps_expr (pe_bm PySem.F.plainAttrs_list PySem.F.slot_list_append PySem.F.type_list_append mt_append (pe_fld (pv 0) rfl) (pa_cons (pe_callTy call_list_of (by rfl) B.list (by decide +kernel) (pa_cons (pv 1) pa_nil)) pa_nil)))
    (pss_one (ps_ret (pe_callB call_len_seq (by rfl) B.len boot_len (pa_cons (pe_fld (pv 0) rfl) pa_nil))))), ?_⟩), g, F.kp, F.bindsN fun _ _ _ _ _ _ us hl => match us, hl with | [_, _], _ => rfl⟩
  · obtain ⟨c, dx, u, o, ps, ns, rfl, _⟩ := h
    rfl
  · obtain ⟨c, dx, u, o, ps, ns, rfl, hc, ho, lp, ln, q⟩ := h
    repeat walk_at "h"
    refine ⟨c, C, dx, _, .ref u, rfl, hc.at_, S.cls, S.na, rfl, ?_⟩
    refine ⟨.inl ⟨rfl, _, SqL.of hc.rw.top⟩, ?_⟩
    repeat walk_at "h"
    refine ⟨o, _, rfl, .inl (SqL.of ho), fun p np => ?_⟩
    have s1 : Stp [] H (upd H p (lstI ns)) := .new np
    have e1 : upd H p (lstI ns) p = some (lstI ns) := upd_same
    show tNil _ (upd H p (lstI ns)) _
    generalize upd H p (lstI ns) = H1 at s1 e1 ⊢
    have hc1 := hc.rw.grow s1
    repeat walk_at "h"
    refine ⟨u, _, .ref p, rfl, rfl, hc1.top, by unfold refs; rw [List.length_map]; exact Nat.lt_of_le_of_lt lp (by decide), ?_⟩
    have st := hc.rw.put s1 np e1
    have su : Stp [u] H (upd H1 u (.lst (refs ps ++ [.ref p]))) := (s1.mono (by simp)).write (by simp) hc1.top fun _ z => by cases z
    have t1 : upd H1 u (.lst (refs ps ++ [.ref p])) u = some (.lst (refs ps ++ [.ref p])) := upd_same
    generalize upd H1 u (.lst (refs ps ++ [.ref p])) = H2 at st su t1 ⊢
    have hc2 := hc.step st
    repeat walk_at "h"
    refine ⟨c, C, dx, _, .ref u, rfl, hc2.at_, S.cls, S.na, rfl, ?_⟩
    repeat walk_at "h"
    refine ⟨u, _, rfl, .inl (SqL.of t1), ?_⟩
    have l : (refs ps ++ [V.ref p]).length = ps.length + 1 := by simp [refs]
    rw [l]
    exact q p H2 st su
def spCheck (C NT : Addr) : Sp := fun vs H Q E => ∃ (c dx u : Addr) (ps : Rw) (k : Nat), vs = [.ref c, .int (k : Nat)] ∧ ChAt C H c dx u ps ∧ k < 2 ^ 60 ∧ (k < ps.length → Q .non H) ∧ (ps.length ≤ k → OutE NT H (k : Nat) E)
theorem mth_Channel_check_there (F : Dfm K C d_Channel_check_there) (B : Blt mg) (S : ChC K C) (E_NothingThere : Err P w K mg base lv_NothingThere_init NT "NothingThere" "place" SmallI "place") : MthX P w K mg base lv_Channel_check_there C "_check_there" ["self", "place"] (spCheck C NT) := by
  obtain ⟨f, fd, F, g⟩ := F
  refine ⟨f, fd, F.ok sc_Channel_check_there (fun vs H Q E h => ?_) (fun cdv A outer s H vs Q E hr h => ⟨_,
    (pss_one (ps_if (PW.pt (pw_or (pt_cmpR op_lt (pv 1) pe_int (nomark _)) (pw_or1 (pt_cmpR op_ge (pv 1) (pe_callB call_len_seq (by rfl) B.len boot_len (pa_cons (pe_fld (pv 0) rfl) pa_nil)) (nomark _)))))
      (pss_one (ps_raise rfl (takes_of rfl rfl rfl rfl) (pmk_err E_NothingThere (hr.mono (by decide)) (by rfl) (pa_cons (pv 1) pa_nil))))
      pss_nil)), ?_⟩), g, F.kp, F.bindsN fun _ _ _ _ _ _ us hl => match us, hl with | [_, _], _ => rfl⟩
  · obtain ⟨c, dx, u, ps, k, rfl, _⟩ := h
    rfl
  · obtain ⟨c, dx, u, ps, k, rfl, hc, hk, q1, q2⟩ := h
    repeat walk_at "h"
    refine i_iteD (fun c => absurd c (by omega)) (fun _ => ?_)
    repeat walk_at "h"
    refine ⟨c, C, dx, _, .ref u, rfl, hc.at_, S.cls, S.na, rfl, ?_⟩
    repeat walk_at "h"
    refine ⟨u, _, rfl, .inl (SqL.of hc.rw.top), ?_⟩
    have l : (refs ps).length = ps.length := by simp [refs]
    rw [l]
    repeat walk_at "h"
    refine i_iteD (fun c => ?_) (fun c => ?_)
    · refine i_MkE ?_
      repeat walk_at "h"
      exact ⟨_, rfl, ⟨_, rfl, by omega⟩, q2 (by omega)⟩
    · exact q1 (by omega)
theorem sx {k n : Nat} (h : k < n) : seqIndex? (k : Int) n = some k := by
  rw [PySem.seqIndex_of (by omega) (by omega)]; simp
theorem refs_at {ps : Rw} {k : Nat} {q : Addr × List Int} (h : ps[k]? = some q) : (refs ps)[k]? = some (.ref q.1) := by unfold refs; rw [List.getElem?_map, h]; rfl
theorem refs_len (ps : Rw) : (refs ps).length = ps.length := by simp [refs]
/-- k is a place, or the way out -/
def At (NT : Addr) (H : Hp) (ps : Rw) (k : Nat) (E : XK) (A : Prop) : Prop := (k < ps.length → A) ∧ (ps.length ≤ k → OutE NT H (k : Nat) E)
def spLose (C NT : Addr) : Sp := fun vs H Q E => ∃ (c dx u : Addr) (ps : Rw) (k : Nat), vs = [.ref c, .int (k : Nat)] ∧ ChAt C H c dx u ps ∧ k < 2 ^ 60 ∧ At NT H ps k E (∀ H1, RwStep H u ps H1 (ps.eraseIdx k) → Q .non H1)
theorem mth_Channel_lose (F : Dfm K C d_Channel_lose) (CL_Channel : Cls K C) (S : ChC K C) (M_Channel_check_there : MthX P w K mg base lv_Channel_check_there C "_check_there" ["self", "place"] (spCheck C NT)) : MthX P w K mg base lv_Channel_lose C "lose" ["self", "place"] (spLose C NT) := by
  obtain ⟨f, fd, F, g⟩ := F
  refine ⟨f, fd, F.ok sc_Channel_lose (fun vs H Q E h => ?_) (fun cdv A outer s H vs Q E hr h => ⟨_,
    (pss_cons (ps_expr (pc_methT (pv 0) CL_Channel M_Channel_check_there (takes_of rfl rfl rfl rfl) (hr.mono (by decide)) (pa_cons (pv 1) pa_nil)))
    (pss_one (ps_delL (pe_fld (pv 0) rfl) (pv 1)))), ?_⟩), g, F.kp, F.bindsN fun _ _ _ _ _ _ us hl => match us, hl with | [_, _], _ => rfl⟩
  · obtain ⟨c, dx, u, ps, k, rfl, _⟩ := h
    rfl
  · obtain ⟨c, dx, u, ps, k, rfl, hc, hk, q1, q2⟩ := h
    repeat walk_at "h"
    refine i_MethT ?_
    repeat walk_at "h"
    refine ⟨c, dx, _, rfl, hc.at_, rfl, ?_⟩
    repeat walk_at "h"
    refine ⟨c, dx, u, ps, k, rfl, hc, hk, fun l => ?_, q2⟩
    repeat walk_at "h"
    refine ⟨_, rfl, c, C, dx, _, .ref u, rfl, hc.at_, S.cls, S.na, rfl, ?_⟩
    refine ⟨_, rfl, u, _, (k : Nat), k, rfl, rfl, hc.rw.top, by omega, by omega, ?_, ?_⟩
    · exact sx (by rw [refs_len]; exact l)
    · exact q1 l _ (hc.rw.out k)
def spDouble (C NT : Addr) : Sp := fun vs H Q E => ∃ (c dx u : Addr) (ps : Rw) (k : Nat), vs = [.ref c, .int (k : Nat)] ∧ ChAt C H c dx u ps ∧ k < 2 ^ 60 ∧ ps.length ≤ 900 ∧ (∀ p ∈ ps, p.2.length ≤ 900) ∧ At NT H ps k E (∀ q, ps[k]? = some q → ∀ p H1, RwStep H u ps H1 (ps ++ [(p, q.2)]) → Q .non H1)
theorem mth_Channel_double (F : Dfm K C d_Channel_double) (CL_Channel : Cls K C) (S : ChC K C) (M_Channel_check_there : MthX P w K mg base lv_Channel_check_there C "_check_there" ["self", "place"] (spCheck C NT)) (M_Channel_put : Mth P w K mg base lv_Channel_put C "put" ["self", "octets"] (spPut C)) : MthX P w K mg base lv_Channel_double C "double" ["self", "place"] (spDouble C NT) := by
  obtain ⟨f, fd, F, g⟩ := F
  refine ⟨f, fd, F.ok sc_Channel_double (fun vs H Q E h => ?_) (fun cdv A outer s H vs Q E hr h => ⟨_,
    (pss_cons (ps_expr (pc_methT (pv 0) CL_Channel M_Channel_check_there (takes_of rfl rfl rfl rfl) (hr.mono (by decide)) (pa_cons (pv 1) pa_nil)))
    (pss_one (ps_expr (pc_meth (pv 0) CL_Channel M_Channel_put (hr.mono (by decide)) (pa_cons (pe_ix (ix_listK (K := K) rfl) (pe_fld (pv 0) rfl) (pv 1) (fun _ _ => rfl)) pa_nil))))), ?_⟩), g, F.kp, F.bindsN fun _ _ _ _ _ _ us hl => match us, hl with | [_, _], _ => rfl⟩
  · obtain ⟨c, dx, u, ps, k, rfl, _⟩ := h
    rfl
  · obtain ⟨c, dx, u, ps, k, rfl, hc, hk, lp, li, q1, q2⟩ := h
    repeat walk_at "h"
    refine i_MethT ?_
    repeat walk_at "h"
    refine ⟨c, dx, _, rfl, hc.at_, rfl, ?_⟩
    repeat walk_at "h"
    refine ⟨c, dx, u, ps, k, rfl, hc, hk, fun l => ?_, q2⟩
    repeat walk_at "h"
    obtain ⟨q, hq⟩ : ∃ q, ps[k]? = some q := ⟨_, List.getElem?_eq_getElem l⟩
    refine ⟨c, dx, _, rfl, hc.at_, rfl, ?_⟩
    repeat walk_at "h"
    refine ⟨c, C, dx, _, .ref u, rfl, hc.at_, S.cls, S.na, rfl, ?_⟩
    repeat walk_at "h"
    refine i_IxL (SqL.of hc.rw.top) (at_of (j := k) (by omega) (refs_at hq)) ?_
    repeat walk_at "h"
    refine ⟨c, dx, u, q.1, ps, q.2, rfl, hc, hc.rw.its q (mem_of_at hq), lp, li q (mem_of_at hq), fun p H1 st _ => ?_⟩
    exact q1 l q hq p H1 st
end

section
variable {P : Program} {w : World} {K : PySem.W.Frag} {mg : Str → Option Value} {base : Heap} {C NT : Addr}
theorem ix_n {k n : Nat} (h : k < n) : ixN n (k : Int) = some k := by
  unfold ixN
  rw [if_pos (by omega), if_pos (by omega)]; simp
def spExch (C NT : Addr) : Sp := fun vs H Q E => ∃ (c dx u : Addr) (ps : Rw) (i j : Nat), vs = [.ref c, .int (i : Nat), .int (j : Nat)] ∧ ChAt C H c dx u ps ∧ i < 2 ^ 60 ∧ j < 2 ^ 60 ∧
  At NT H ps i E (At NT H ps j E (∀ p q, ps[i]? = some p → ps[j]? = some q → ∀ H1, RwStep H u ps H1 ((ps.set i q).set j p) → Q .non H1))
theorem mth_Channel_exchange (F : Dfm K C d_Channel_exchange) (CL_Channel : Cls K C) (S : ChC K C) (M_Channel_check_there : MthX P w K mg base lv_Channel_check_there C "_check_there" ["self", "place"] (spCheck C NT)) : MthX P w K mg base lv_Channel_exchange C "exchange" ["self", "place", "other"] (spExch C NT) := by
  obtain ⟨f, fd, F, g⟩ := F
  refine ⟨f, fd, F.ok sc_Channel_exchange (fun vs H Q E h => ?_) (fun cdv A outer s H vs Q E hr h => ⟨_,
    (pss_cons (ps_expr (pc_methT (pv 0) CL_Channel M_Channel_check_there (takes_of rfl rfl rfl rfl) (hr.mono (by decide)) (pa_cons (pv 1) pa_nil)))
    (pss_cons (ps_expr (pc_methT (pv 0) CL_Channel M_Channel_check_there (takes_of rfl rfl rfl rfl) (hr.mono (by decide)) (pa_cons (pv 2) pa_nil)))
    (pss_cons (ps_set (i := 3) sc_Channel_exchange.nd rfl (Or.inl rfl) (pe_ix (ix_listK (K := K) rfl) (pe_fld (pv 0) rfl) (pv 1) (fun _ _ => rfl)))
    (pss_cons (ps_asg (pe_ix (ix_listK (K := K) rfl) (pe_fld (pv 0) rfl) (pv 2) (fun _ _ => rfl)) (pg_sub (pe_fld (pv 0) rfl) (pv 1) set_list))
    (pss_one (ps_asg (pv 3) (pg_sub (pe_fld (pv 0) rfl) (pv 2) set_list))))))), ?_⟩), g, F.kp, F.bindsN fun _ _ _ _ _ _ us hl => match us, hl with | [_, _, _], _ => rfl⟩
  · obtain ⟨c, dx, u, ps, i, j, rfl, _⟩ := h
    rfl
  · obtain ⟨c, dx, u, ps, i, j, rfl, hc, hi, hj, q1, q2⟩ := h
    repeat walk_at "h"
    refine i_MethT ?_
    repeat walk_at "h"
    refine ⟨c, dx, _, rfl, hc.at_, rfl, ?_⟩
    repeat walk_at "h"
    refine ⟨c, dx, u, ps, i, rfl, hc, hi, fun li => ?_, q2⟩
    obtain ⟨q1, q2⟩ := q1 li
    repeat walk_at "h"
    refine i_MethT ?_
    repeat walk_at "h"
    refine ⟨c, dx, _, rfl, hc.at_, rfl, ?_⟩
    repeat walk_at "h"
    refine ⟨c, dx, u, ps, j, rfl, hc, hj, fun lj => ?_, q2⟩
    obtain ⟨p, hp⟩ : ∃ p, ps[i]? = some p := ⟨_, List.getElem?_eq_getElem li⟩
    obtain ⟨q, hq⟩ : ∃ q, ps[j]? = some q := ⟨_, List.getElem?_eq_getElem lj⟩
    have fin := q1 lj p q hp hq
    repeat walk_at "h"
    refine ⟨c, C, dx, _, .ref u, rfl, hc.at_, S.cls, S.na, rfl, ?_⟩
    repeat walk_at "h"
    refine i_IxL (SqL.of hc.rw.top) (at_of (j := i) (by omega) (refs_at hp)) ?_
    repeat walk_at "h"
    refine ⟨c, C, dx, _, .ref u, rfl, hc.at_, S.cls, S.na, rfl, ?_⟩
    repeat walk_at "h"
    refine i_IxL (SqL.of hc.rw.top) (at_of (j := j) (by omega) (refs_at hq)) ?_
    repeat walk_at "h"
    refine i_SetAt ?_
    repeat walk_at "h"
    refine ⟨c, C, dx, _, .ref u, rfl, hc.at_, S.cls, S.na, rfl, ?_⟩
    repeat walk_at "h"
    refine ⟨u, _, _, i, rfl, rfl, hc.rw.top, ix_n (by rw [refs_len]; exact li), ?_⟩
    have su : Stp [u] H (upd H u (.lst ((refs ps).set i (.ref q.1)))) := .wr (by simp) hc.rw.top fun _ z => by cases z
    have t1 : upd H u (.lst ((refs ps).set i (.ref q.1))) u = some (.lst ((refs ps).set i (.ref q.1))) := upd_same
    have cu : c ≠ u := fun z => hc.cn (by rw [z]; simp [adrs])
    have c1 : upd H u (.lst ((refs ps).set i (.ref q.1))) c = some (.ins C dx [(underS, .ref u)]) := by rw [upd_ne cu]; exact hc.at_
    generalize upd H u (.lst ((refs ps).set i (.ref q.1))) = H1 at su t1 c1 ⊢
    repeat walk_at "h"
    refine i_SetAt ?_
    repeat walk_at "h"
    refine ⟨c, C, dx, _, .ref u, rfl, c1, S.cls, S.na, rfl, ?_⟩
    repeat walk_at "h"
    refine ⟨u, _, _, j, rfl, rfl, t1, ix_n (by rw [List.length_set, refs_len]; exact lj), ?_⟩
    refine fin _ (hc.rw.swap hp hq upd_same ?_)
    exact su.write (by simp) t1 fun _ z => by cases z
def spDamage (C NT : Addr) : Sp := fun vs H Q E => ∃ (c dx u : Addr) (ps : Rw) (k s : Nat) (o : Int), vs = [.ref c, .int (k : Nat), .int (s : Nat), .int o] ∧ ChAt C H c dx u ps ∧ k < 2 ^ 60 ∧
  At NT H ps k E (∀ q, ps[k]? = some q → ((q.2[s]? = none ∨ q.2[s]? = some o) → Q (.bl false) H) ∧ (∀ x, q.2[s]? = some x → x ≠ o → ∀ H1, RwStep H u ps H1 (ps.set k (q.1, q.2.set s o)) → Q (.bl true) H1))
theorem mth_Channel_damage (F : Dfm K C d_Channel_damage) (B : Blt mg) (CL_Channel : Cls K C) (S : ChC K C) (M_Channel_check_there : MthX P w K mg base lv_Channel_check_there C "_check_there" ["self", "place"] (spCheck C NT)) : MthX P w K mg base lv_Channel_damage C "damage" ["self", "place", "spot", "octet"] (spDamage C NT) := by
  obtain ⟨f, fd, F, g⟩ := F
  refine ⟨f, fd, F.ok sc_Channel_damage (fun vs H Q E h => ?_) (fun cdv A outer s H vs Q E hr h => ⟨_,
    (pss_cons (ps_expr (pc_methT (pv 0) CL_Channel M_Channel_check_there (takes_of rfl rfl rfl rfl) (hr.mono (by decide)) (pa_cons (pv 1) pa_nil)))
    (pss_cons (ps_set (i := 4) sc_Channel_damage.nd rfl (Or.inl rfl) (pe_ix (ix_listK (K := K) rfl) (pe_fld (pv 0) rfl) (pv 1) (fun _ _ => rfl)))
    (pss_cons (ps_if (PW.pt (pw_or (pt_cmpR op_lt (pv 2) pe_int (nomark _)) (pw_or (pt_cmpR op_ge (pv 2) (pe_callB call_len_seq (by rfl) B.len boot_len (pa_cons (pv 4) pa_nil)) (nomark _)) (pw_or1 (pt_cmpR op_eq (pe_ix (ix_listK (K := K) rfl) (pv 4) (pv 2) (fun _ _ => rfl)) (pv 3) (nomark _))))))
      (pss_one (ps_ret pe_bl))
      pss_nil)
    (pss_cons (ps_asg (pv 3) (pg_sub (pv 4) (pv 2) set_list))
    (pss_one (ps_ret pe_bl)))))), ?_⟩), g, F.kp, F.bindsN fun _ _ _ _ _ _ us hl => match us, hl with | [_, _, _, _], _ => rfl⟩
  · obtain ⟨c, dx, u, ps, k, s, o, rfl, _⟩ := h
    rfl
  · obtain ⟨c, dx, u, ps, k, sp, o, rfl, hc, hk, q1, q2⟩ := h
    repeat walk_at "h"
    refine i_MethT ?_
    repeat walk_at "h"
    refine ⟨c, dx, _, rfl, hc.at_, rfl, ?_⟩
    repeat walk_at "h"
    refine ⟨c, dx, u, ps, k, rfl, hc, hk, fun li => ?_, q2⟩
    obtain ⟨q, hq⟩ : ∃ q, ps[k]? = some q := ⟨_, List.getElem?_eq_getElem li⟩
    obtain ⟨qa, qb⟩ := q1 li q hq
    have iq := hc.rw.its q (mem_of_at hq)
    repeat walk_at "h"
    refine ⟨c, C, dx, _, .ref u, rfl, hc.at_, S.cls, S.na, rfl, ?_⟩
    repeat walk_at "h"
    refine i_IxL (SqL.of hc.rw.top) (at_of (j := k) (by omega) (refs_at hq)) ?_
    repeat walk_at "h"
    refine i_iteD (fun c => absurd c (by omega)) (fun _ => ?_)
    repeat walk_at "h"
    refine ⟨q.1, _, rfl, .inl (SqL.of iq), ?_⟩
    rw [List.length_map]
    repeat walk_at "h"
    refine i_iteD (fun c => ?_) (fun c => ?_)
    · repeat walk_at "h"
      exact qa (.inl (List.getElem?_eq_none (by omega)))
    · have ls : sp < q.2.length := by omega
      obtain ⟨x, hx⟩ : ∃ x, q.2[sp]? = some x := ⟨_, List.getElem?_eq_getElem ls⟩
      repeat walk_at "h"
      refine i_IxL (SqL.of iq) (at_of (j := sp) (by omega) (by rw [List.getElem?_map, hx]; rfl)) ?_
      repeat walk_at "h"
      refine i_iteD (fun c => ?_) (fun c => ?_)
      · repeat walk_at "h"
        cases c
        exact qa (.inr hx)
      · repeat walk_at "h"
        refine i_SetAt ?_
        repeat walk_at "h"
        refine ⟨q.1, _, _, sp, rfl, rfl, iq, ix_n (by rw [List.length_map]; exact ls), ?_⟩
        repeat walk_at "h"
        have e : (q.2.map V.int).set sp (V.int o) = (q.2.set sp o).map V.int := (List.map_set ..).symm
        rw [e]
        exact qb x hx (fun z => c (by rw [z])) _ (hc.rw.wr hq _)
def spCut (C NT : Addr) : Sp := fun vs H Q E => ∃ (c dx u : Addr) (ps : Rw) (k n : Nat), vs = [.ref c, .int (k : Nat), .int (n : Nat)] ∧ ChAt C H c dx u ps ∧ k < 2 ^ 60 ∧
  At NT H ps k E (∀ q, ps[k]? = some q → ∀ H1, RwStep H u ps H1 (ps.set k (q.1, q.2.take n)) → Q .non H1)
theorem mth_Channel_cut (F : Dfm K C d_Channel_cut) (CL_Channel : Cls K C) (S : ChC K C) (M_Channel_check_there : MthX P w K mg base lv_Channel_check_there C "_check_there" ["self", "place"] (spCheck C NT)) : MthX P w K mg base lv_Channel_cut C "cut" ["self", "place", "length"] (spCut C NT) := by
  obtain ⟨f, fd, F, g⟩ := F
  refine ⟨f, fd, F.ok sc_Channel_cut (fun vs H Q E h => ?_) (fun cdv A outer s H vs Q E hr h => ⟨_,
    (pss_cons (ps_expr (pc_methT (pv 0) CL_Channel M_Channel_check_there (takes_of rfl rfl rfl rfl) (hr.mono (by decide)) (pa_cons (pv 1) pa_nil)))
    (pss_one (ps_delF (pe_ix (ix_listK (K := K) rfl) (pe_fld (pv 0) rfl) (pv 1) (fun _ _ => rfl)) (pv 2)))), ?_⟩), g, F.kp, F.bindsN fun _ _ _ _ _ _ us hl => match us, hl with | [_, _, _], _ => rfl⟩
  · obtain ⟨c, dx, u, ps, k, n, rfl, _⟩ := h
    rfl
  · obtain ⟨c, dx, u, ps, k, n, rfl, hc, hk, q1, q2⟩ := h
    repeat walk_at "h"
    refine i_MethT ?_
    repeat walk_at "h"
    refine ⟨c, dx, _, rfl, hc.at_, rfl, ?_⟩
    repeat walk_at "h"
    refine ⟨c, dx, u, ps, k, rfl, hc, hk, fun li => ?_, q2⟩
    obtain ⟨q, hq⟩ : ∃ q, ps[k]? = some q := ⟨_, List.getElem?_eq_getElem li⟩
    have iq := hc.rw.its q (mem_of_at hq)
    refine ⟨_, rfl, c, C, dx, _, .ref u, rfl, hc.at_, S.cls, S.na, rfl, ?_⟩
    repeat walk_at "h"
    refine i_IxL (SqL.of hc.rw.top) (at_of (j := k) (by omega) (refs_at hq)) ?_
    repeat walk_at "h"
    refine ⟨q.1, _, n, rfl, rfl, iq, ?_⟩
    repeat walk_at "h"
    have e : (q.2.map V.int).take n = (q.2.take n).map V.int := (List.map_take ..).symm
    rw [e]
    exact q1 li q hq _ (hc.rw.wr hq _)
def spTake (C NT : Addr) : Sp := fun vs H Q E => ∃ (c dx u : Addr) (ps : Rw) (k : Nat), vs = [.ref c, .int (k : Nat)] ∧ ChAt C H c dx u ps ∧ k < 2 ^ 60 ∧
  At NT H ps k E (∀ q, ps[k]? = some q → ∀ H1, RwStep H u ps H1 (ps.eraseIdx k) → H1 q.1 = some (lstI q.2) → Q (.ref q.1) H1)
theorem mth_Channel_take (F : Dfm K C d_Channel_take) (CL_Channel : Cls K C) (S : ChC K C) (M_Channel_check_there : MthX P w K mg base lv_Channel_check_there C "_check_there" ["self", "place"] (spCheck C NT)) : MthX P w K mg base lv_Channel_take C "take" ["self", "place"] (spTake C NT) := by
  obtain ⟨f, fd, F, g⟩ := F
  refine ⟨f, fd, F.ok sc_Channel_take (fun vs H Q E h => ?_) (fun cdv A outer s H vs Q E hr h => ⟨_,
    (pss_cons (ps_expr (pc_methT (pv 0) CL_Channel M_Channel_check_there (takes_of rfl rfl rfl rfl) (hr.mono (by decide)) (pa_cons (pv 1) pa_nil)))
    (pss_one (ps_ret (pe_bm PySem.F.plainAttrs_list PySem.F.slot_list_pop PySem.F.type_list_pop mt_popAt (pe_fld (pv 0) rfl) (pa_cons (pv 1) pa_nil))))), ?_⟩), g, F.kp, F.bindsN fun _ _ _ _ _ _ us hl => match us, hl with | [_, _], _ => rfl⟩
  · obtain ⟨c, dx, u, ps, k, rfl, _⟩ := h
    rfl
  · obtain ⟨c, dx, u, ps, k, rfl, hc, hk, q1, q2⟩ := h
    repeat walk_at "h"
    refine i_MethT ?_
    repeat walk_at "h"
    refine ⟨c, dx, _, rfl, hc.at_, rfl, ?_⟩
    repeat walk_at "h"
    refine ⟨c, dx, u, ps, k, rfl, hc, hk, fun li => ?_, q2⟩
    obtain ⟨q, hq⟩ : ∃ q, ps[k]? = some q := ⟨_, List.getElem?_eq_getElem li⟩
    have iq := hc.rw.its q (mem_of_at hq)
    repeat walk_at "h"
    refine ⟨c, C, dx, _, .ref u, rfl, hc.at_, S.cls, S.na, rfl, ?_⟩
    refine ⟨.inl ⟨rfl, _, SqL.of hc.rw.top⟩, ?_⟩
    repeat walk_at "h"
    refine ⟨u, _, (k : Nat), k, _, rfl, rfl, hc.rw.top, by omega, by omega, sx (by rw [refs_len]; exact li), refs_at hq, ?_⟩
    exact q1 li q hq _ (hc.rw.out k) (by rw [upd_ne (hc.rw.ne q (mem_of_at hq))]; exact iq)
end

/-! ### deeds at a row -/
section
abbrev Rs := List (List Int)
inductive Deed where
  | lose (k : Nat)
  | dbl (k : Nat)
  | exch (i j : Nat)
  | cut (k n : Nat)
  | dam (k s : Nat) (o : Int)
  | take (k : Nat)
def Deed.vals : Deed → List V
  | .lose k => [.str (Str.ofString "lose"), .int (k : Nat)]
  | .dbl k => [.str (Str.ofString "double"), .int (k : Nat)]
  | .exch i j => [.str (Str.ofString "exchange"), .int (i : Nat), .int (j : Nat)]
  | .cut k n => [.str (Str.ofString "cut"), .int (k : Nat), .int (n : Nat)]
  | .dam k s o => [.str (Str.ofString "damage"), .int (k : Nat), .int (s : Nat), .int o]
  | .take k => [.str (Str.ofString "take"), .int (k : Nat)]
def rowsOf (ps : Rw) : Rs := ps.map (·.2)
def Deed.miss (n : Nat) : Deed → Option Nat
  | .lose k | .dbl k | .cut k _ | .dam k _ _ | .take k => if n ≤ k then some k else none
  | .exch i j => if n ≤ i then some i else if n ≤ j then some j else none
def idle (r : List Int) (s : Nat) (o : Int) : Bool := r[s]? == none || r[s]? == some o
def Deed.eff (R : Rs) : Deed → Rs
  | .lose k => R.eraseIdx k
  | .dbl k => R ++ [R.getD k []]
  | .exch i j => (R.set i (R.getD j [])).set j (R.getD i [])
  | .cut k n => R.set k ((R.getD k []).take n)
  | .dam k s o => if idle (R.getD k []) s o then R else R.set k ((R.getD k []).set s o)
  | .take k => R.eraseIdx k
def Deed.tell (R : Rs) : Deed → Dt
  | .dam k s o => .bl (!idle (R.getD k []) s o)
  | .take k => .lst ((R.getD k []).map .num)
  | _ => .non
/-- the numbers of a deed -/
def Deed.ok : Deed → Prop
  | .lose k | .dbl k | .take k => k < 10000
  | .exch i j => i < 10000 ∧ j < 10000
  | .cut k n => k < 10000 ∧ n < 1000
  | .dam k s o => k < 10000 ∧ s < 1000 ∧ 0 ≤ o ∧ o < 1000
theorem rows_at {ps : Rw} {k : Nat} {q : Addr × List Int} (h : ps[k]? = some q) : (rowsOf ps).getD k [] = q.2 := by
  unfold rowsOf
  rw [List.getD_eq_getElem?_getD, List.getElem?_map, h]; rfl
theorem rows_len (ps : Rw) : (rowsOf ps).length = ps.length := by simp [rowsOf]
theorem rows_erase (ps : Rw) (k : Nat) : rowsOf (ps.eraseIdx k) = (rowsOf ps).eraseIdx k := by
  unfold rowsOf
  refine List.ext_getElem? fun i => ?_
  rw [List.getElem?_map, List.getElem?_eraseIdx, List.getElem?_eraseIdx]
  split <;> rw [List.getElem?_map]
theorem rows_set (ps : Rw) (k : Nat) (p : Addr × List Int) : rowsOf (ps.set k p) = (rowsOf ps).set k p.2 := by simp [rowsOf, List.map_set]
theorem rows_app (ps : Rw) (p : Addr × List Int) : rowsOf (ps ++ [p]) = rowsOf ps ++ [p.2] := by simp [rowsOf]
theorem idle_iff {r : List Int} {s : Nat} {o : Int} : idle r s o = true ↔ (r[s]? = none ∨ r[s]? = some o) := by
  unfold idle
  rw [Bool.or_eq_true, beq_iff_eq, beq_iff_eq]
variable {P : Program} {w : World} {K : PySem.W.Frag} {mg : Str → Option Value} {base : Heap} {C NT : Addr}
theorem ints_dt {K : PySem.W.Frag} {H : Hp} : ∀ ns : List Int, DtsAt K H (ns.map V.int) (ns.map Dt.num)
  | [] => .nil
  | n :: ns => .cons (.num n) (ints_dt ns)
def spDo (K : PySem.W.Frag) (C NT : Addr) : Sp := fun vs H Q E => ∃ (c dx u t : Addr) (ps : Rw) (d : Deed), vs = [.ref c, .ref t] ∧ ChAt C H c dx u ps ∧ TupAt K H t d.vals ∧ d.ok ∧ ps.length ≤ 900 ∧ (∀ p ∈ ps, p.2.length ≤ 900) ∧
  (d.miss ps.length = none → ∀ ps' H1 v, RwStep H u ps H1 ps' → rowsOf ps' = d.eff (rowsOf ps) → DtAt K H1 v (d.tell (rowsOf ps)) → Q v H1) ∧ (∀ m, d.miss ps.length = some m → OutE NT H (m : Nat) E)
theorem cal_law_do (F : Df K mg d_law_do) (CL_Channel : Cls K C)
    (M_Channel_lose : MthX P w K mg base lv_Channel_lose C "lose" ["self", "place"] (spLose C NT)) (M_Channel_double : MthX P w K mg base lv_Channel_double C "double" ["self", "place"] (spDouble C NT)) (M_Channel_exchange : MthX P w K mg base lv_Channel_exchange C "exchange" ["self", "place", "other"] (spExch C NT))
    (M_Channel_damage : MthX P w K mg base lv_Channel_damage C "damage" ["self", "place", "spot", "octet"] (spDamage C NT)) (M_Channel_cut : MthX P w K mg base lv_Channel_cut C "cut" ["self", "place", "length"] (spCut C NT)) (M_Channel_take : MthX P w K mg base lv_Channel_take C "take" ["self", "place"] (spTake C NT)) : CalX P w K mg base lv_law_do "_law_do" ["channel", "deed"] (spDo K C NT) := by
  obtain ⟨f, fd, F, g⟩ := F
  refine ⟨f, fd, F.ok sc_law_do (fun vs H Q E h => ?_) (fun cdv A outer s H vs Q E hr h => ⟨_,
    (pss_cons (ps_if (pt_cmpR op_eq (pe_ix (ix_tupK (K := K) rfl) (pv 1) pe_int (fun _ _ => rfl)) pe_str (nomark _))
      (pss_one (ps_expr (pc_methT (pv 0) CL_Channel M_Channel_lose (takes_of rfl rfl rfl rfl) (hr.mono (by decide)) (pa_cons (pe_ix (ix_tupK (K := K) rfl) (pv 1) pe_int (fun _ _ => rfl)) pa_nil))))
      (pss_one (ps_if (pt_cmpR op_eq (pe_ix (ix_tupK (K := K) rfl) (pv 1) pe_int (fun _ _ => rfl)) pe_str (nomark _))
          (pss_one (ps_expr (pc_methT (pv 0) CL_Channel M_Channel_double (takes_of rfl rfl rfl rfl) (hr.mono (by decide)) (pa_cons (pe_ix (ix_tupK (K := K) rfl) (pv 1) pe_int (fun _ _ => rfl)) pa_nil))))
          (pss_one (ps_if (pt_cmpR op_eq (pe_ix (ix_tupK (K := K) rfl) (pv 1) pe_int (fun _ _ => rfl)) pe_str (nomark _))
              (pss_one (ps_expr (pc_methT (pv 0) CL_Channel M_Channel_exchange (takes_of rfl rfl rfl rfl) (hr.mono (by decide)) (pa_cons (pe_ix (ix_tupK (K := K) rfl) (pv 1) pe_int (fun _ _ => rfl)) (pa_cons (pe_ix (ix_tupK (K := K) rfl) (pv 1) pe_int (fun _ _ => rfl)) pa_nil)))))
              (pss_one (ps_if (pt_cmpR op_eq (pe_ix (ix_tupK (K := K) rfl) (pv 1) pe_int (fun _ _ => rfl)) pe_str (nomark _))
                  (pss_one (ps_expr (pc_methT (pv 0) CL_Channel M_Channel_cut (takes_of rfl rfl rfl rfl) (hr.mono (by decide)) (pa_cons (pe_ix (ix_tupK (K := K) rfl) (pv 1) pe_int (fun _ _ => rfl)) (pa_cons (pe_ix (ix_tupK (K := K) rfl) (pv 1) pe_int (fun _ _ => rfl)) pa_nil)))))
                  (pss_one (ps_if (pt_cmpR op_eq (pe_ix (ix_tupK (K := K) rfl) (pv 1) pe_int (fun _ _ => rfl)) pe_str (nomark _))
                      (pss_one (ps_ret (pc_methT (pv 0) CL_Channel M_Channel_damage (takes_of rfl rfl rfl rfl) (hr.mono (by decide)) (pa_cons (pe_ix (ix_tupK (K := K) rfl) (pv 1) pe_int (fun _ _ => rfl)) (pa_cons (pe_ix (ix_tupK (K := K) rfl) (pv 1) pe_int (fun _ _ => rfl)) (pa_cons (pe_ix (ix_tupK (K := K) rfl) (pv 1) pe_int (fun _ _ => rfl)) pa_nil))))))
                      (pss_one (ps_if (pt_cmpR op_eq (pe_ix (ix_tupK (K := K) rfl) (pv 1) pe_int (fun _ _ => rfl)) pe_str (nomark _))
                          (pss_one (ps_ret (pc_methT (pv 0) CL_Channel M_Channel_take (takes_of rfl rfl rfl rfl) (hr.mono (by decide)) (pa_cons (pe_ix (ix_tupK (K := K) rfl) (pv 1) pe_int (fun _ _ => rfl)) pa_nil))))
                          pss_nil)))))))))))
    (pss_one (ps_ret pe_non))), ?_⟩), g, F.kp, F.bindsN fun _ _ _ _ _ _ us hl => match us, hl with | [_, _], _ => rfl⟩
  · obtain ⟨c, dx, u, t, ps, d, rfl, _⟩ := h
    rfl
  · obtain ⟨c, dx, u, t, ps, d, rfl, hc, ht, ok, lp, li, q1, q2⟩ := h
    have out : ∀ k : Nat, (∀ n, d.miss n = if n ≤ k then some k else none) → ps.length ≤ k → OutE NT H (k : Nat) E := fun k hm l => q2 k (by rw [hm, if_pos l])
    have inn : ∀ k : Nat, (∀ n, d.miss n = if n ≤ k then some k else none) → k < ps.length → d.miss ps.length = none := fun k hm l => by rw [hm, if_neg (by omega)]
    cases d with
    | lose k =>
      have ok : k < 10000 := ok
      repeat (first | walk_at "h" | refine i_IxT ht.sqt (at_of (j := 0) rfl rfl) ?_ | refine i_iteD (fun c => absurd c (by decide)) (fun _ => ?_) | refine i_iteD (fun _ => ?_) (fun c => absurd rfl c))
      refine i_MethT ?_
      repeat walk_at "h"
      refine ⟨c, dx, _, rfl, hc.at_, rfl, ?_⟩
      repeat walk_at "h"
      refine i_IxT ht.sqt (at_of (j := 1) rfl rfl) ?_
      repeat walk_at "h"
      refine ⟨c, dx, u, ps, k, rfl, hc, by omega, fun l H1 st => ?_, out k fun _ => rfl⟩
      exact q1 (inn k (fun _ => rfl) l) _ H1 _ st (rows_erase ps k) .non
    | dbl k =>
      have ok : k < 10000 := ok
      repeat (first | walk_at "h" | refine i_IxT ht.sqt (at_of (j := 0) rfl rfl) ?_ | refine i_iteD (fun c => absurd c (by decide)) (fun _ => ?_) | refine i_iteD (fun _ => ?_) (fun c => absurd rfl c))
      refine i_MethT ?_
      repeat walk_at "h"
      refine ⟨c, dx, _, rfl, hc.at_, rfl, ?_⟩
      repeat walk_at "h"
      refine i_IxT ht.sqt (at_of (j := 1) rfl rfl) ?_
      repeat walk_at "h"
      refine ⟨c, dx, u, ps, k, rfl, hc, by omega, lp, li, fun l q hq p H1 st => ?_, out k fun _ => rfl⟩
      exact q1 (inn k (fun _ => rfl) l) _ H1 _ st (by rw [rows_app, Deed.eff, rows_at hq]) .non
    | exch i j =>
      obtain ⟨oi, oj⟩ : i < 10000 ∧ j < 10000 := ok
      repeat (first | walk_at "h" | refine i_IxT ht.sqt (at_of (j := 0) rfl rfl) ?_ | refine i_iteD (fun c => absurd c (by decide)) (fun _ => ?_) | refine i_iteD (fun _ => ?_) (fun c => absurd rfl c))
      refine i_MethT ?_
      repeat walk_at "h"
      refine ⟨c, dx, _, rfl, hc.at_, rfl, ?_⟩
      repeat walk_at "h"
      refine i_IxT ht.sqt (at_of (j := 1) rfl rfl) ?_
      repeat walk_at "h"
      refine i_IxT ht.sqt (at_of (j := 2) rfl rfl) ?_
      repeat walk_at "h"
      refine ⟨c, dx, u, ps, i, j, rfl, hc, by omega, by omega, fun l => ⟨fun l2 p q hp hq H1 st => ?_, fun l2 => ?_⟩, fun l => ?_⟩
      · refine q1 ?_ _ H1 _ st ?_ .non
        · show (if ps.length ≤ i then some i else if ps.length ≤ j then some j else none) = none
          rw [if_neg (by omega), if_neg (by omega)]
        · rw [rows_set, rows_set, Deed.eff, rows_at hp, rows_at hq]
      · refine q2 j ?_
        show (if ps.length ≤ i then some i else if ps.length ≤ j then some j else none) = some j
        rw [if_neg (by omega), if_pos l2]
      · refine q2 i ?_
        show (if ps.length ≤ i then some i else if ps.length ≤ j then some j else none) = some i
        rw [if_pos l]
    | cut k n =>
      obtain ⟨ok, on⟩ : k < 10000 ∧ n < 1000 := ok
      repeat (first | walk_at "h" | refine i_IxT ht.sqt (at_of (j := 0) rfl rfl) ?_ | refine i_iteD (fun c => absurd c (by decide)) (fun _ => ?_) | refine i_iteD (fun _ => ?_) (fun c => absurd rfl c))
      refine i_MethT ?_
      repeat walk_at "h"
      refine ⟨c, dx, _, rfl, hc.at_, rfl, ?_⟩
      repeat walk_at "h"
      refine i_IxT ht.sqt (at_of (j := 1) rfl rfl) ?_
      repeat walk_at "h"
      refine i_IxT ht.sqt (at_of (j := 2) rfl rfl) ?_
      repeat walk_at "h"
      refine ⟨c, dx, u, ps, k, n, rfl, hc, by omega, fun l q hq H1 st => ?_, out k fun _ => rfl⟩
      exact q1 (inn k (fun _ => rfl) l) _ H1 _ st (by rw [rows_set, Deed.eff, rows_at hq]) .non
    | dam k s o =>
      obtain ⟨ok, os, _⟩ : k < 10000 ∧ s < 1000 ∧ 0 ≤ o ∧ o < 1000 := ok
      repeat (first | walk_at "h" | refine i_IxT ht.sqt (at_of (j := 0) rfl rfl) ?_ | refine i_iteD (fun c => absurd c (by decide)) (fun _ => ?_) | refine i_iteD (fun _ => ?_) (fun c => absurd rfl c))
      refine i_MethT ?_
      repeat walk_at "h"
      refine ⟨c, dx, _, rfl, hc.at_, rfl, ?_⟩
      repeat walk_at "h"
      refine i_IxT ht.sqt (at_of (j := 1) rfl rfl) ?_
      repeat walk_at "h"
      refine i_IxT ht.sqt (at_of (j := 2) rfl rfl) ?_
      repeat walk_at "h"
      refine i_IxT ht.sqt (at_of (j := 3) rfl rfl) ?_
      repeat walk_at "h"
      refine ⟨c, dx, u, ps, k, s, o, rfl, hc, by omega, fun l q hq => ⟨fun z => ?_, fun x hx ne H1 st => ?_⟩, out k fun _ => rfl⟩
      · have e : idle ((rowsOf ps).getD k []) s o = true := by rw [rows_at hq]; exact idle_iff.mpr z
        refine q1 (inn k (fun _ => rfl) l) ps H _ (.same hc.rw) ?_ ?_
        · rw [Deed.eff, if_pos e]
        · rw [Deed.tell, e]; exact .bl false
      · have e : idle ((rowsOf ps).getD k []) s o = false := Bool.eq_false_iff.mpr fun z => by
          rw [rows_at hq, idle_iff, hx] at z
          rcases z with z | z
          · cases z
          · exact ne (Option.some.inj z)
        refine q1 (inn k (fun _ => rfl) l) _ H1 _ st ?_ ?_
        · rw [rows_set, Deed.eff, if_neg (by rw [e]; exact Bool.false_ne_true), rows_at hq]
        · rw [Deed.tell, e]; exact .bl true
    | take k =>
      have ok : k < 10000 := ok
      repeat (first | walk_at "h" | refine i_IxT ht.sqt (at_of (j := 0) rfl rfl) ?_ | refine i_iteD (fun c => absurd c (by decide)) (fun _ => ?_) | refine i_iteD (fun _ => ?_) (fun c => absurd rfl c))
      refine i_MethT ?_
      repeat walk_at "h"
      refine ⟨c, dx, _, rfl, hc.at_, rfl, ?_⟩
      repeat walk_at "h"
      refine i_IxT ht.sqt (at_of (j := 1) rfl rfl) ?_
      repeat walk_at "h"
      refine ⟨c, dx, u, ps, k, rfl, hc, by omega, fun l q hq H1 st e => ?_, out k fun _ => rfl⟩
      exact q1 (inn k (fun _ => rfl) l) _ H1 _ st (rows_erase ps k) (by rw [Deed.tell, rows_at hq]; exact .lst (SqL.of e) (ints_dt _))
end

section
variable {P : Program} {w : World} {K : PySem.W.Frag} {mg : Str → Option Value} {base : Heap}
theorem miss_k {n k : Nat} (h : (if n ≤ k then some k else none) = none) : k < n := by
  by_cases c : n ≤ k
  · rw [if_pos c] at h; cases h
  · omega
theorem cut_to (xs : List V) (n : Nat) : cutV xs none (some (n : Int)) = xs.take n := by
  unfold cutV
  simp only [HT.sIx_none, HT.sIx_nat, List.drop_zero, Nat.sub_zero]
  by_cases c : n ≤ xs.length
  · rw [Nat.min_eq_left c]
  · rw [Nat.min_eq_right (by omega), List.take_of_length_le (Nat.le_refl _), List.take_of_length_le (by omega)]
theorem cut_from (xs : List V) (n : Nat) : cutV xs (some (n : Int)) none = xs.drop n := by
  unfold cutV
  simp only [HT.sIx_none, HT.sIx_nat]
  by_cases c : n ≤ xs.length
  · rw [Nat.min_eq_left c, List.take_of_length_le (by rw [List.length_drop]; omega)]
  · rw [Nat.min_eq_right (by omega), List.drop_of_length_le (Nat.le_refl _), List.drop_of_length_le (by omega)]; simp
def spDue (K : PySem.W.Frag) : Sp := fun vs H Q _ => ∃ (u t : Addr) (ps : Rw) (d : Deed), vs = [.ref u, .ref t] ∧ Rws H u ps ∧ TupAt K H t d.vals ∧ d.ok ∧ ps.length ≤ 900 ∧ (∀ p ∈ ps, p.2.length ≤ 900) ∧ d.miss ps.length = none ∧
  ∀ ps' H1 v, RwStep H u ps H1 ps' → rowsOf ps' = d.eff (rowsOf ps) → (∀ M H2, Stp M H1 H2 → (∀ a ∈ adrs u ps, a ∉ M) → DtAt K H2 v (d.tell (rowsOf ps))) → Q v H1
theorem cal_law_due (F : Df K mg d_law_due) (B : Blt mg) : Cal P w K mg base lv_law_due "_law_due" ["row", "deed"] (spDue K) := by
  obtain ⟨f, fd, F, g⟩ := F
  refine ⟨f, fd, F.ok sc_law_due (fun vs H Q E h => ?_) (fun cdv A outer s H vs Q E hr h => ⟨_, PSs.nox
    (pss_cons (ps_set (i := 2) sc_law_due.nd rfl (Or.inl rfl) (pe_ix (ix_tupK (K := K) rfl) (pv 1) pe_int (fun _ _ => rfl)))
    (pss_cons (ps_if (pt_cmpR op_eq (pe_ix (ix_tupK (K := K) rfl) (pv 1) pe_int (fun _ _ => rfl)) pe_str (nomark _))
      (pss_one (ps_expr (pe_bm PySem.F.plainAttrs_list PySem.F.slot_list_pop PySem.F.type_list_pop mt_popAt (pv 0) (pa_cons (pv 2) pa_nil))))
      (pss_one (ps_if (pt_cmpR op_eq (pe_ix (ix_tupK (K := K) rfl) (pv 1) pe_int (fun _ _ => rfl)) pe_str (nomark _))
          (pss_one (ps_expr (pe_bm PySem.F.plainAttrs_list PySem.F.slot_list_append PySem.F.type_list_append mt_append (pv 0) (pa_cons (pe_callTy call_list_of (by rfl) B.list (by decide +kernel) (pa_cons (pe_ix (ix_listK (K := K) rfl) (pv 0) (pv 2) (fun _ _ => rfl)) pa_nil)) pa_nil))))
          (pss_one (ps_if (pt_cmpR op_eq (pe_ix (ix_tupK (K := K) rfl) (pv 1) pe_int (fun _ _ => rfl)) pe_str (nomark _))
              (pss_one (ps_asg (pe_tup (pa_cons (pe_ix (ix_listK (K := K) rfl) (pv 0) (pe_ix (ix_tupK (K := K) rfl) (pv 1) pe_int (fun _ _ => rfl)) (fun _ _ => rfl)) (pa_cons (pe_ix (ix_listK (K := K) rfl) (pv 0) (pv 2) (fun _ _ => rfl)) pa_nil))) (pg_tup (by rfl) (pgs_cons (pg_sub (pv 0) (pv 2) set_list) (pgs_cons (pg_sub (pv 0) (pe_ix (ix_tupK (K := K) rfl) (pv 1) pe_int (fun _ _ => rfl)) set_list) pgs_nil)))))
              (pss_one (ps_if (pt_cmpR op_eq (pe_ix (ix_tupK (K := K) rfl) (pv 1) pe_int (fun _ _ => rfl)) pe_str (nomark _))
                  (pss_one (ps_asg (pe_slice sl_list (pe_ix (ix_listK (K := K) rfl) (pv 0) (pv 2) (fun _ _ => rfl)) po_none (po_some (pe_ix (ix_tupK (K := K) rfl) (pv 1) pe_int (fun _ _ => rfl)))) (pg_sub (pv 0) (pv 2) set_list)))
                  (pss_one (ps_if (pt_cmpR op_eq (pe_ix (ix_tupK (K := K) rfl) (pv 1) pe_int (fun _ _ => rfl)) pe_str (nomark _))
                      (pss_one (ps_ret (pe_bm PySem.F.plainAttrs_list PySem.F.slot_list_pop PySem.F.type_list_pop mt_popAt (pv 0) (pa_cons (pv 2) pa_nil))))
                      (pss_one (ps_if (PW.pt (pw_or (pt_cmpR op_ge (pe_ix (ix_tupK (K := K) rfl) (pv 1) pe_int (fun _ _ => rfl)) (pe_callB call_len_seq (by rfl) B.len boot_len (pa_cons (pe_ix (ix_listK (K := K) rfl) (pv 0) (pv 2) (fun _ _ => rfl)) pa_nil)) (nomark _)) (pw_or1 (pt_cmpR op_eq (pe_ix (ix_listK (K := K) rfl) (pe_ix (ix_listK (K := K) rfl) (pv 0) (pv 2) (fun _ _ => rfl)) (pe_ix (ix_tupK (K := K) rfl) (pv 1) pe_int (fun _ _ => rfl)) (fun _ _ => rfl)) (pe_ix (ix_tupK (K := K) rfl) (pv 1) pe_int (fun _ _ => rfl)) (nomark _)))))
                          (pss_one (ps_ret pe_bl))
                          (pss_cons (ps_asg (pe_op op_cat (pe_op op_cat (pe_slice sl_list (pe_ix (ix_listK (K := K) rfl) (pv 0) (pv 2) (fun _ _ => rfl)) po_none (po_some (pe_ix (ix_tupK (K := K) rfl) (pv 1) pe_int (fun _ _ => rfl)))) (pe_lst (pa_cons (pe_ix (ix_tupK (K := K) rfl) (pv 1) pe_int (fun _ _ => rfl)) pa_nil))) (pe_slice sl_list (pe_ix (ix_listK (K := K) rfl) (pv 0) (pv 2) (fun _ _ => rfl)) (po_some (pe_op op_add (pe_ix (ix_tupK (K := K) rfl) (pv 1) pe_int (fun _ _ => rfl)) pe_int)) po_none)) (pg_sub (pv 0) (pv 2) set_list))
                            (pss_one (ps_ret pe_bl))))))))))))))
    (pss_one (ps_ret pe_non)))), ?_⟩), g, F.kp, F.bindsN fun _ _ _ _ _ _ us hl => match us, hl with | [_, _], _ => rfl⟩
  · obtain ⟨u, t, ps, d, rfl, _⟩ := h
    rfl
  · obtain ⟨u, t, ps, d, rfl, hc, ht, ok, lp, li, hm, q⟩ := h
    have geti : ∀ k, k < ps.length → ∃ q, ps[k]? = some q := fun k l => ⟨_, List.getElem?_eq_getElem l⟩
    cases d with
    | lose k =>
      have l := miss_k hm
      have ok : k < 10000 := ok
      repeat (first | walk_at "h" | refine i_IxT ht.sqt (at_of (j := 0) rfl rfl) ?_ | refine i_IxT ht.sqt (at_of (j := 1) rfl rfl) ?_ | refine i_iteD (fun c => absurd c (by decide)) (fun _ => ?_) | refine i_iteD (fun _ => ?_) (fun c => absurd rfl c))
      obtain ⟨r, hr⟩ := geti k l
      refine ⟨.inl ⟨rfl, _, SqL.of hc.top⟩, ?_⟩
      repeat walk_at "h"
      refine ⟨u, _, (k : Nat), k, _, rfl, rfl, hc.top, by omega, by omega, sx (by rw [refs_len]; exact l), refs_at hr, ?_⟩
      exact q _ _ _ (hc.out k) (rows_erase ps k) fun _ _ _ _ => .non
    | dbl k =>
      have l := miss_k hm
      have ok : k < 10000 := ok
      obtain ⟨r, hr⟩ := geti k l
      repeat (first | walk_at "h" | refine i_IxT ht.sqt (at_of (j := 0) rfl rfl) ?_ | refine i_IxT ht.sqt (at_of (j := 1) rfl rfl) ?_ | refine i_iteD (fun c => absurd c (by decide)) (fun _ => ?_) | refine i_iteD (fun _ => ?_) (fun c => absurd rfl c))
      refine ⟨.inl ⟨rfl, _, SqL.of hc.top⟩, ?_⟩
      repeat walk_at "h"
      refine i_IxL (SqL.of hc.top) (at_of (j := k) (by omega) (refs_at hr)) ?_
      repeat walk_at "h"
      have ir := hc.its r (mem_of_at hr)
      refine ⟨r.1, _, rfl, .inl (SqL.of ir), fun p np => ?_⟩
      have s1 : Stp [] H (upd H p (lstI r.2)) := .new np
      have e1 : upd H p (lstI r.2) p = some (lstI r.2) := upd_same
      show tNil _ (upd H p (lstI r.2)) _
      generalize upd H p (lstI r.2) = H1 at s1 e1 ⊢
      have hc1 := hc.grow s1
      repeat walk_at "h"
      refine ⟨u, _, .ref p, rfl, rfl, hc1.top, by unfold refs; rw [List.length_map]; exact Nat.lt_of_le_of_lt lp (by decide), ?_⟩
      exact q _ _ _ (hc.put s1 np e1) (by rw [rows_app, Deed.eff, rows_at hr]) fun _ _ _ _ => .non
    | exch i j =>
      obtain ⟨oi, oj⟩ : i < 10000 ∧ j < 10000 := ok
      have hm : (if ps.length ≤ i then some i else if ps.length ≤ j then some j else none) = none := hm
      have li : i < ps.length := by
        by_cases c : ps.length ≤ i
        · rw [if_pos c] at hm; cases hm
        · omega
      have lj : j < ps.length := by rw [if_neg (by omega)] at hm; exact miss_k hm
      obtain ⟨a, ha⟩ := geti i li
      obtain ⟨b, hb⟩ := geti j lj
      repeat (first | walk_at "h" | refine i_IxT ht.sqt (at_of (j := 0) rfl rfl) ?_ | refine i_IxT ht.sqt (at_of (j := 1) rfl rfl) ?_ | refine i_IxT ht.sqt (at_of (j := 2) rfl rfl) ?_ | refine i_iteD (fun c => absurd c (by decide)) (fun _ => ?_) | refine i_iteD (fun _ => ?_) (fun c => absurd rfl c))
      refine i_IxL (SqL.of hc.top) (at_of (j := j) (by omega) (refs_at hb)) ?_
      repeat walk_at "h"
      refine i_IxL (SqL.of hc.top) (at_of (j := i) (by omega) (refs_at ha)) ?_
      repeat walk_at "h"
      refine ⟨(by decide : 2 ≤ sizeLine), fun p np => ?_⟩
      have s1 : Stp [] H (upd H p (.tup [.ref b.1, .ref a.1])) := .new np
      have e1 : upd H p (.tup [.ref b.1, .ref a.1]) p = some (.tup [.ref b.1, .ref a.1]) := upd_same
      generalize upd H p (.tup [.ref b.1, .ref a.1]) = H1 at s1 e1 ⊢
      have hc1 := hc.grow s1
      have ht1 := ht.stp s1
      refine i_gTup (SqT.of e1) rfl ?_
      repeat walk_at "h"
      refine i_SetAt ?_
      repeat walk_at "h"
      refine ⟨u, _, _, i, rfl, rfl, hc1.top, ix_n (by rw [refs_len]; exact li), ?_⟩
      have su : Stp [u] H1 (upd H1 u (.lst ((refs ps).set i (.ref b.1)))) := .wr (by simp) hc1.top fun _ z => by cases z
      have t1 : upd H1 u (.lst ((refs ps).set i (.ref b.1))) u = some (.lst ((refs ps).set i (.ref b.1))) := upd_same
      have ht2 := ht1.stp su
      generalize upd H1 u (.lst ((refs ps).set i (.ref b.1))) = H2 at su t1 ht2 ⊢
      repeat walk_at "h"
      refine i_SetAt ?_
      repeat walk_at "h"
      refine i_IxT ht2.sqt (at_of (j := 2) rfl rfl) ?_
      refine ⟨u, _, _, j, rfl, rfl, t1, ix_n (by rw [List.length_set, refs_len]; exact lj), ?_⟩
      refine ⟨rfl, ?_⟩
      refine q _ _ _ (hc.swap ha hb upd_same (((s1.mono (by simp)).trans su).write (by simp) t1 fun _ z => by cases z)) ?_ fun _ _ _ _ => .non
      rw [rows_set, rows_set, Deed.eff, rows_at ha, rows_at hb]
    | cut k n =>
      have l := miss_k hm
      obtain ⟨ok, on⟩ : k < 10000 ∧ n < 1000 := ok
      obtain ⟨r, hr⟩ := geti k l
      have ir := hc.its r (mem_of_at hr)
      repeat (first | walk_at "h" | refine i_IxT ht.sqt (at_of (j := 0) rfl rfl) ?_ | refine i_IxT ht.sqt (at_of (j := 1) rfl rfl) ?_ | refine i_IxT ht.sqt (at_of (j := 2) rfl rfl) ?_ | refine i_IxL (SqL.of hc.top) (at_of (j := k) (by omega) (refs_at hr)) ?_ | refine i_iteD (fun c => absurd c (by decide)) (fun _ => ?_) | refine i_iteD (fun _ => ?_) (fun c => absurd rfl c))
      refine i_SlL (SqL.of ir) fun p np => ?_
      have e : cutV (r.2.map V.int) none (some (n : Int)) = (r.2.take n).map V.int := by rw [cut_to, List.map_take]
      rw [e]
      have s1 : Stp [] H (upd H p (lstI (r.2.take n))) := .new np
      have e1 : upd H p (lstI (r.2.take n)) p = some (lstI (r.2.take n)) := upd_same
      show gSub _ _ _ _ _ (upd H p (lstI (r.2.take n))) _
      generalize upd H p (lstI (r.2.take n)) = H1 at s1 e1 ⊢
      have hc1 := hc.grow s1
      refine i_SetAt ?_
      repeat walk_at "h"
      refine ⟨u, _, _, k, rfl, rfl, hc1.top, ix_n (by rw [refs_len]; exact l), ?_⟩
      exact q _ _ _ (hc.repl l s1 np e1) (by rw [rows_set, Deed.eff, rows_at hr]) fun _ _ _ _ => .non
    | dam k s o =>
      have l := miss_k hm
      obtain ⟨ok, os, _⟩ : k < 10000 ∧ s < 1000 ∧ 0 ≤ o ∧ o < 1000 := ok
      obtain ⟨r, hr⟩ := geti k l
      have ir := hc.its r (mem_of_at hr)
      repeat (first | walk_at "h" | refine i_IxT ht.sqt (at_of (j := 0) rfl rfl) ?_ | refine i_IxT ht.sqt (at_of (j := 1) rfl rfl) ?_ | refine i_IxT ht.sqt (at_of (j := 2) rfl rfl) ?_ | refine i_IxL (SqL.of hc.top) (at_of (j := k) (by omega) (refs_at hr)) ?_ | refine i_iteD (fun c => absurd c (by decide)) (fun _ => ?_) | refine i_iteD (fun _ => ?_) (fun c => absurd rfl c))
      refine ⟨r.1, _, rfl, .inl (SqL.of ir), ?_⟩
      rw [List.length_map]
      repeat walk_at "h"
      have gd := rows_at hr
      have idl : idle r.2 s o = true → Q (.bl false) H := fun e => q ps H _ (.same hc) (by rw [Deed.eff, gd, if_pos e]) fun _ _ _ _ => by rw [Deed.tell, gd, e]; exact .bl false
      refine i_iteD (fun c => ?_) (fun c => ?_)
      · repeat walk_at "h"
        exact idl (idle_iff.mpr (.inl (List.getElem?_eq_none (by omega))))
      · have ls : s < r.2.length := by omega
        obtain ⟨x, hx⟩ : ∃ x, r.2[s]? = some x := ⟨_, List.getElem?_eq_getElem ls⟩
        repeat (first | walk_at "h" | refine i_IxT ht.sqt (at_of (j := 2) rfl rfl) ?_ | refine i_IxT ht.sqt (at_of (j := 3) rfl rfl) ?_ | refine i_IxL (SqL.of hc.top) (at_of (j := k) (by omega) (refs_at hr)) ?_ | refine i_IxL (SqL.of ir) (at_of (j := s) (by omega) (by rw [List.getElem?_map, hx]; rfl)) ?_)
        refine i_iteD (fun c => ?_) (fun c => ?_)
        · repeat walk_at "h"
          cases c
          exact idl (idle_iff.mpr (.inr hx))
        · have ni : idle r.2 s o = false := Bool.eq_false_iff.mpr fun z => by
            rw [idle_iff, hx] at z
            rcases z with z | z
            · cases z
            · exact c (by rw [Option.some.inj z])
          repeat (first | walk_at "h" | refine i_IxT ht.sqt (at_of (j := 2) rfl rfl) ?_ | refine i_IxT ht.sqt (at_of (j := 3) rfl rfl) ?_ | refine i_IxL (SqL.of hc.top) (at_of (j := k) (by omega) (refs_at hr)) ?_)
          refine i_SlL (SqL.of ir) fun p1 n1 => ?_
          rw [cut_to]
          have s1 : Stp [] H (upd H p1 (.lst ((r.2.map V.int).take s))) := .new n1
          have e1 : upd H p1 (.lst ((r.2.map V.int).take s)) p1 = some (.lst ((r.2.map V.int).take s)) := upd_same
          generalize upd H p1 (.lst ((r.2.map V.int).take s)) = H1 at s1 e1 ⊢
          have ht1 := ht.stp s1
          repeat walk_at "h"
          refine i_IxT ht1.sqt (at_of (j := 3) rfl rfl) ?_
          repeat walk_at "h"
          refine ⟨(by decide : 1 ≤ sizeLine), fun p2 n2 => ?_⟩
          have s2 : Stp [] H1 (upd H1 p2 (.lst [.int o])) := .new n2
          have e2 : upd H1 p2 (.lst [.int o]) p2 = some (.lst [.int o]) := upd_same
          generalize upd H1 p2 (.lst [.int o]) = H2 at s2 e2 ⊢
          have lr := li r (mem_of_at hr)
          refine ⟨p1, p2, _, _, rfl, rfl, s2.keep _ _ e1 (by simp), e2, ?_, fun p3 n3 => ?_⟩
          · rw [List.length_take, List.length_map, List.length_singleton]
            exact Nat.le_trans (show min s r.2.length + 1 ≤ 2000 by omega) (by decide)
          have s3 : Stp [] H2 (upd H2 p3 (.lst ((r.2.map V.int).take s ++ [.int o]))) := .new n3
          have e3 : upd H2 p3 (.lst ((r.2.map V.int).take s ++ [.int o])) p3 = some (.lst ((r.2.map V.int).take s ++ [.int o])) := upd_same
          generalize upd H2 p3 (.lst ((r.2.map V.int).take s ++ [.int o])) = H3 at s3 e3 ⊢
          have s03 := (s1.trans s2).trans s3
          have hc3 := hc.grow s03
          have ht3 := ht.stp s03
          have ir3 := s03.keep _ _ ir (by simp)
          repeat walk_at "h"
          refine i_IxL (SqL.of hc3.top) (at_of (j := k) (by omega) (refs_at hr)) ?_
          repeat walk_at "h"
          refine i_IxT ht3.sqt (at_of (j := 2) rfl rfl) ?_
          repeat walk_at "h"
          refine i_SlL (SqL.of ir3) fun p4 n4 => ?_
          rw [show ((s : Int) + 1) = ((s + 1 : Nat) : Int) from rfl, cut_from]
          have s4 : Stp [] H3 (upd H3 p4 (.lst ((r.2.map V.int).drop (s + 1)))) := .new n4
          have e4 : upd H3 p4 (.lst ((r.2.map V.int).drop (s + 1))) p4 = some (.lst ((r.2.map V.int).drop (s + 1))) := upd_same
          generalize upd H3 p4 (.lst ((r.2.map V.int).drop (s + 1))) = H4 at s4 e4 ⊢
          refine ⟨p3, p4, _, _, rfl, rfl, s4.keep _ _ e3 (by simp), e4, ?_, fun p5 n5 => ?_⟩
          · rw [List.length_append, List.length_take, List.length_drop, List.length_map, List.length_singleton]
            exact Nat.le_trans (show min s r.2.length + 1 + (r.2.length - (s + 1)) ≤ 4000 by omega) (by decide)
          have ee : (r.2.map V.int).take s ++ [V.int o] ++ (r.2.map V.int).drop (s + 1) = (r.2.set s o).map V.int := by
            rw [List.set_eq_take_append_cons_drop, if_pos ls, List.map_append, List.map_cons, List.map_take, List.map_drop]; simp
          rw [ee]
          have s5 : Stp [] H4 (upd H4 p5 (lstI (r.2.set s o))) := .new n5
          have e5 : upd H4 p5 (lstI (r.2.set s o)) p5 = some (lstI (r.2.set s o)) := upd_same
          show gSub _ _ _ _ _ (upd H4 p5 (lstI (r.2.set s o))) _
          have s05 := (s03.trans s4).trans s5
          generalize upd H4 p5 (lstI (r.2.set s o)) = H5 at s5 e5 s05 ⊢
          have hc5 := hc.grow s05
          refine i_SetAt ?_
          repeat walk_at "h"
          refine ⟨u, _, _, k, rfl, rfl, hc5.top, ix_n (by rw [refs_len]; exact l), ?_⟩
          repeat walk_at "h"
          refine q _ _ _ (hc.repl l s05 ((s03.trans s4).free n5 (by simp)) e5) (by rw [rows_set, Deed.eff, gd, if_neg (by rw [ni]; exact Bool.false_ne_true)]) fun _ _ _ _ => ?_
          rw [Deed.tell, gd, ni]; exact .bl true
    | take k =>
      have l := miss_k hm
      have ok : k < 10000 := ok
      obtain ⟨r, hr⟩ := geti k l
      have ir := hc.its r (mem_of_at hr)
      repeat (first | walk_at "h" | refine i_IxT ht.sqt (at_of (j := 0) rfl rfl) ?_ | refine i_IxT ht.sqt (at_of (j := 1) rfl rfl) ?_ | refine i_iteD (fun c => absurd c (by decide)) (fun _ => ?_) | refine i_iteD (fun _ => ?_) (fun c => absurd rfl c))
      refine ⟨.inl ⟨rfl, _, SqL.of hc.top⟩, ?_⟩
      repeat walk_at "h"
      refine ⟨u, _, (k : Nat), k, _, rfl, rfl, hc.top, by omega, by omega, sx (by rw [refs_len]; exact l), refs_at hr, ?_⟩
      refine q _ _ _ (hc.out k) (rows_erase ps k) fun M H2 s n => ?_
      rw [Deed.tell, rows_at hr]
      exact .lst (SqL.of (s.keep _ _ (by rw [upd_ne (hc.ne r (mem_of_at hr))]; exact ir) (n _ (in_adrs (mem_of_at hr))))) (ints_dt _)
end

/-! ### the same by repr -/
section
variable {P : Program} {w : World} {K : PySem.W.Frag} {mg : Str → Option Value} {base : Heap}
/-! short data: their repr fits a line -/
mutual
def Dt.brief : Dt → Bool
  | .non => true
  | .bl _ => true
  | .num i => decide (i.natAbs < 10 ^ 12)
  | .txt x => x.cps.toList.all fun c => decide (c < 16 ^ 8)
  | .tup ds => Dt.briefAll ds
  | .lst ds => Dt.briefAll ds
def Dt.briefAll : List Dt → Bool
  | [] => true
  | d :: ds => Dt.brief d && Dt.briefAll ds
end
mutual
theorem Dt.brief_ok : ∀ d : Dt, d.brief = true → d.py.leavesShort 13 = true ∧ d.py.showable = true
  | .non, _ => ⟨rfl, rfl⟩
  | .bl _, _ => ⟨rfl, rfl⟩
  | .num i, h => by
    have h : i.natAbs < 10 ^ 12 := by simpa [Dt.brief] using h
    refine ⟨?_, ?_⟩
    · have e := int_text_length_le10 (a := i) (k := 12) (by decide) h
      show decide ((PyData.shown (.int i)).length ≤ 13) = true
      refine decide_eq_true ?_
      show (Str.ofString (toString i)).length ≤ 13
      rw [PySem.ofString_length]
      omega
    · have : i.natAbs < 2 ^ 70 := Nat.lt_of_lt_of_le h (by decide)
      simp only [Dt.py, PyData.showable, decide_eq_true_eq]
      by_cases z : i.natAbs = 0
      · rw [z]; decide
      · have := (Nat.log2_lt z).mpr this
        omega
  | .txt x, h => ⟨by simpa [Dt.py, PyData.leavesShort, Dt.brief] using h, rfl⟩
  | .tup ds, h => by
    have := Dt.briefAll_ok ds (by simpa [Dt.brief] using h)
    exact ⟨by simpa [Dt.py, PyData.leavesShort] using this.1, by simpa [Dt.py, PyData.showable] using this.2⟩
  | .lst ds, h => by
    have := Dt.briefAll_ok ds (by simpa [Dt.brief] using h)
    exact ⟨by simpa [Dt.py, PyData.leavesShort] using this.1, by simpa [Dt.py, PyData.showable] using this.2⟩
theorem Dt.briefAll_ok : ∀ ds : List Dt, Dt.briefAll ds = true → PyData.leavesShortAll 13 (Dt.pys ds) = true ∧ PyData.showableAll (Dt.pys ds) = true
  | [], _ => ⟨rfl, rfl⟩
  | d :: ds, h => by
    rw [Dt.briefAll, Bool.and_eq_true] at h
    have h1 := Dt.brief_ok d h.1
    have h2 := Dt.briefAll_ok ds h.2
    simp only [Dt.pys, PyData.leavesShortAll, PyData.showableAll, h1.1, h1.2, h2.1, h2.2, Bool.and_self, and_self]
end
mutual
def Dt.mass : Dt → Nat
  | .txt x => x.cps.size
  | .tup ds => Dt.massAll ds
  | .lst ds => Dt.massAll ds
  | .non | .bl _ | .num _ => 0
def Dt.massAll : List Dt → Nat
  | [] => 0
  | d :: ds => Dt.mass d + 1 + Dt.massAll ds
end
mutual
theorem Dt.mass_py : ∀ d : Dt, d.py.bulk = d.mass
  | .non | .bl _ | .num _ | .txt _ => rfl
  | .tup ds => by simp only [Dt.py, PyData.bulk, Dt.mass, Dt.massAll_py ds]
  | .lst ds => by simp only [Dt.py, PyData.bulk, Dt.mass, Dt.massAll_py ds]
theorem Dt.massAll_py : ∀ ds : List Dt, PyData.bulkAll (Dt.pys ds) = Dt.massAll ds
  | [] => rfl
  | d :: ds => by simp only [Dt.pys, PyData.bulkAll, Dt.massAll, Dt.mass_py d, Dt.massAll_py ds]
end
theorem Dt.shows_of {d : Dt} (h : d.brief = true) (m : d.mass ≤ 2 ^ 20) (dp : d.depth ≤ 60) : d.Shows := by
  obtain ⟨h1, h2⟩ := Dt.brief_ok d h
  exact ⟨h2, PyData.shown_fits_bulk (B := 13) (by decide) (by decide) h1 (by rw [Dt.mass_py]; exact m), dp⟩
theorem massAll_map {α : Type} (f : α → Dt) (n : Nat) : ∀ l : List α, (∀ x ∈ l, (f x).mass ≤ n) → Dt.massAll (l.map f) ≤ (n + 1) * l.length
  | [], _ => Nat.zero_le _
  | x :: l, h => by
    have h1 := h x (by simp)
    have h2 := massAll_map f n l fun y hy => h y (by simp [hy])
    rw [List.map_cons, Dt.massAll, List.length_cons, Nat.mul_add, Nat.mul_one]
    omega
theorem briefAll_map {α : Type} (f : α → Dt) : ∀ l : List α, (∀ x ∈ l, (f x).brief = true) → Dt.briefAll (l.map f) = true
  | [], _ => rfl
  | x :: l, h => by
    rw [List.map_cons, Dt.briefAll, h x (by simp), briefAll_map f l fun y hy => h y (by simp [hy])]; rfl
theorem depthAll_map {α : Type} (f : α → Dt) (n : Nat) : ∀ l : List α, (∀ x ∈ l, (f x).depth ≤ n) → Dt.depthAll (l.map f) ≤ n
  | [], _ => Nat.zero_le _
  | x :: l, h => by
    have h1 := h x (by simp)
    have h2 := depthAll_map f n l fun y hy => h y (by simp [hy])
    rw [List.map_cons, Dt.depthAll]
    omega
def spSame (K : PySem.W.Frag) : Sp := fun vs H Q _ => ∃ (v y : V) (d : Dt), vs = [v, y] ∧ DtAt K H v d ∧ DtAt K H y d ∧ d.Shows ∧ Q (.bl true) H
theorem cal_law_same (F : Df K mg d_law_same) (B : Blt mg) (B_repr : mg "repr" = none) : CalG P w K mg base lv_law_same "_law_same" ["one", "other"] (spSame K) := by
  obtain ⟨f, fd, F, g⟩ := F
  refine ⟨f, fd, GT.FunD.okG F sc_law_same (fun vs H Q E h => ?_) (fun cdv A outer s H vs Q E hr hG h => ⟨_, PSs.nox
    (pss_one (ps_ret (pe_cmpR op_eq (pe_callB (call_repr (K := K) rfl hG hr.units) (by rfl) B_repr (by decide +kernel) (pa_cons (pv 0) pa_nil)) (pe_callB (call_repr (K := K) rfl hG hr.units) (by rfl) B_repr (by decide +kernel) (pa_cons (pv 1) pa_nil)) (nomark _)))), ?_⟩), g, F.kp, F.bindsN fun _ _ _ _ _ _ us hl => match us, hl with | [_, _], _ => rfl⟩
  · obtain ⟨v, y, d, rfl, _⟩ := h
    rfl
  · obtain ⟨v, y, d, rfl, hv, hy, hs, q⟩ := h
    repeat walk_at "h"
    refine ⟨v, d, rfl, hv, hs, ?_⟩
    repeat walk_at "h"
    refine ⟨y, d, rfl, hy, hs, ?_⟩
    refine i_Eq rfl ?_
    rw [decide_eq_true rfl]
    exact q
end

section
variable {P : Program} {w : World} {K : PySem.W.Frag} {mg : Str → Option Value} {base : Heap} {C NT GE CE : Addr}
def missI : Option Nat → Int
  | some m => (m : Nat)
  | none => -1
def Deed.places : Deed → List Nat
  | .lose k | .dbl k | .cut k _ | .dam k _ _ | .take k => [k]
  | .exch i j => [i, j]
theorem miss_find (d : Deed) (n : Nat) : d.miss n = d.places.find? (fun j => decide (n ≤ j)) := by
  cases d with
  | exch i j =>
    simp only [Deed.miss, Deed.places, List.find?_cons, List.find?_nil]
    by_cases a : n ≤ i <;> by_cases b : n ≤ j <;> simp [a, b]
  | lose k | dbl k | take k | cut k _ | dam k _ _ =>
    simp only [Deed.miss, Deed.places, List.find?_cons, List.find?_nil]
    by_cases a : n ≤ k <;> simp [a]
def spMissing (K : PySem.W.Frag) : Sp := fun vs H Q _ => ∃ (u t : Addr) (xs : List V) (d : Deed), vs = [.ref u, .ref t] ∧ SqL K H u xs ∧ TupAt K H t d.vals ∧ ∀ H1, Stp [] H H1 → Q (.int (missI (d.miss xs.length))) H1
theorem cal_law_missing (F : Df K mg d_law_missing) (B : Blt mg) : Cal P w K mg base lv_law_missing "_law_missing" ["row", "deed"] (spMissing K) := by
  obtain ⟨f, fd, F, g⟩ := F
  refine ⟨f, fd, F.ok sc_law_missing (fun vs H Q E h => ?_) (fun cdv A outer s H vs Q E hr h => ⟨_, PSs.nox
    (pss_cons (ps_set (i := 2) sc_law_missing.nd rfl (Or.inl rfl) (pe_lst (pa_cons (pe_ix (ix_tupK (K := K) rfl) (pv 1) pe_int (fun _ _ => rfl)) pa_nil)))
    (C8.pss_cut (ps_if (pt_cmpR op_eq (pe_ix (ix_tupK (K := K) rfl) (pv 1) pe_int (fun _ _ => rfl)) pe_str (nomark _))
      (pss_one (ps_expr (pe_bm PySem.F.plainAttrs_list PySem.F.slot_list_append PySem.F.type_list_append mt_append (pv 2) (pa_cons (pe_ix (ix_tupK (K := K) rfl) (pv 1) pe_int (fun _ _ => rfl)) pa_nil))))
      pss_nil)
    (pss_cons (ps_for PassesOwn.never rfl (pi_list (pv 2)) (pg_name (i := 3) sc_law_missing.nd rfl (Or.inl rfl))
      (pss_one (ps_if (pt_cmpR op_ge (pv 3) (pe_callB call_len_seq (by rfl) B.len boot_len (pa_cons (pv 0) pa_nil)) (nomark _))
          (pss_one (ps_ret (pv 3)))
          pss_nil)))
    (pss_one (ps_ret (pe_un un_neg pe_int)))))), ?_⟩), g, F.kp, F.bindsN fun _ _ _ _ _ _ us hl => match us, hl with | [_, _], _ => rfl⟩
  · obtain ⟨u, t, xs, d, rfl, _⟩ := h
    rfl
  · obtain ⟨u, t, xs, d, rfl, hu, ht, q⟩ := h
    have n0 : ∃ nm k, d.vals[0]? = some (.str nm) ∧ d.vals[1]? = some (.int (k : Nat)) ∧ ((nm = Str.ofString "exchange" ∧ ∃ j, d.vals[2]? = some (.int (j : Nat)) ∧ d.places = [k, j]) ∨ (nm ≠ Str.ofString "exchange" ∧ d.places = [k])) := by
      cases d with
      | exch i j => exact ⟨_, i, rfl, rfl, .inl ⟨rfl, j, rfl, rfl⟩⟩
      | _ => exact ⟨_, _, rfl, rfl, .inr ⟨by decide, rfl⟩⟩
    obtain ⟨nm, k, v0, v1, alt⟩ := n0
    repeat (first | walk_at "h" | refine i_IxT ht.sqt (at_of (j := 1) rfl v1) ?_)
    refine ⟨(by decide : 1 ≤ sizeLine), fun p np => ?_⟩
    have s1 : Stp [] H (upd H p (.lst [.int (k : Nat)])) := .new np
    have e1 : upd H p (.lst [.int (k : Nat)]) p = some (.lst [.int (k : Nat)]) := upd_same
    generalize upd H p (.lst [.int (k : Nat)]) = H1 at s1 e1 ⊢
    have ht1 := ht.stp s1
    refine ⟨fun σ2 H2 => σ2 = [some (.ref u), some (.ref t), some (.ref p), none] ∧ Stp [] H H2 ∧ H2 p = some (.lst (d.places.map fun j => V.int (j : Nat))), ?_, ?_⟩
    · repeat (first | walk_at "h" | refine i_IxT ht1.sqt (at_of (j := 0) rfl v0) ?_)
      rcases alt with ⟨rfl, j, v2, ep⟩ | ⟨ne, ep⟩
      · refine i_iteD (fun _ => ?_) (fun c => absurd rfl c)
        repeat walk_at "h"
        refine ⟨.inl ⟨rfl, _, SqL.of e1⟩, ?_⟩
        repeat walk_at "h"
        refine i_IxT ht1.sqt (at_of (j := 2) rfl v2) ?_
        repeat walk_at "h"
        refine ⟨p, _, _, rfl, rfl, e1, (by decide : 1 < sizeLine), ?_⟩
        exact ⟨rfl, s1.mut np, by rw [upd_same, ep]; rfl⟩
      · refine i_iteD (fun c => absurd (by cases c; rfl) ne) (fun _ => ?_)
        exact ⟨rfl, s1, by rw [ep]; exact e1⟩
    · rintro σ2 H2 ⟨rfl, s2, e2⟩
      refine ⟨_, rfl, p, rfl, ⟨_, SqL.of e2⟩, for_list (xs := d.places.map fun j => V.int (j : Nat)) (fun i σ H' => H' = H2 ∧ ∃ y, σ = [some (.ref u), some (.ref t), some (.ref p), y] ∧ (d.places.take i).find? (fun j => decide (xs.length ≤ j)) = none)
        ⟨rfl, none, rfl, rfl⟩ (fun i σ H' _ h => by rw [h.1]; exact SqL.of e2) ?_ ?_⟩
      · rintro i y σ H' hy ⟨rfl, y3, rfl, hn⟩
        rw [List.getElem?_map] at hy
        obtain ⟨j, hj, rfl⟩ := Option.map_eq_some_iff.mp hy
        repeat walk_at "h"
        refine ⟨u, xs, rfl, .inl (s2.seq hu (by simp)), ?_⟩
        repeat walk_at "h"
        have tk : d.places.take (i + 1) = d.places.take i ++ [j] := by rw [List.take_add_one, hj]; rfl
        refine i_iteD (fun c => ?_) (fun c => ?_)
        · repeat walk_at "h"
          have em : d.miss xs.length = some j := by
            rw [miss_find, ← List.take_append_drop (i + 1) d.places, tk, List.find?_append, List.find?_append, hn]
            simp only [List.find?_singleton, Option.none_or]
            rw [if_pos (decide_eq_true (by omega))]; rfl
          have := q H' s2
          rw [em] at this
          exact this
        · refine ⟨rfl, _, rfl, ?_⟩
          rw [tk, List.find?_append, hn, Option.none_or, List.find?_singleton, if_neg (by simp; omega)]
      · rintro σ H' ⟨rfl, y3, rfl, hn⟩
        repeat walk_at "h"
        rw [List.length_map, List.take_length] at hn
        have := q H' s2
        rw [miss_find, hn] at this
        exact this
def spTold (K : PySem.W.Frag) (C NT : Addr) : Sp := fun vs H Q _ => ∃ (c dx u t : Addr) (ps : Rw) (d : Deed), vs = [.ref c, .ref t] ∧ ChAt C H c dx u ps ∧ TupAt K H t d.vals ∧ d.ok ∧ ps.length ≤ 900 ∧ (∀ p ∈ ps, p.2.length ≤ 900) ∧
  (d.miss ps.length = none → ∀ ps' H1 v, RwStep H u ps H1 ps' → rowsOf ps' = d.eff (rowsOf ps) → DtAt K H1 v (d.tell (rowsOf ps)) → Q v H1) ∧
  (∀ m, d.miss ps.length = some m → ∀ v H1, Stp [] H H1 → DtAt K H1 v (.tup [.txt (Str.ofString "nothing"), .num (m : Nat)]) → Q v H1)
theorem cal_law_told (F : Df K mg d_law_told) (B : Blt mg) (B_ValueError : mg "ValueError" = none) (G_GraphtwinsError : mg "GraphtwinsError" = some (.ref GE)) (G_NothingThere : mg "NothingThere" = some (.ref NT)) (G_CodeError : mg "CodeError" = some (.ref CE))
    (T : ErrC K NT) (nf : PySem.W.findIn K (.ref NT) "place" = some none) (ex : PySem.W.exmOne K (.ref NT) (.ref GE) = some true)
    (k1 : PySem.W.kitOne K (.ref NT) (.ref NT) = some true) (k2 : PySem.W.kitOne K (.ref NT) (.type "ValueError") = some true) (k3 : PySem.W.kitOne K (.ref NT) (.ref CE) = some false)
    (C_law_do : CalX P w K mg base lv_law_do "_law_do" ["channel", "deed"] (spDo K C NT)) : Cal P w K mg base lv_law_told "_law_told" ["channel", "deed"] (spTold K C NT) := by
  obtain ⟨f, fd, F, g⟩ := F
  refine ⟨f, fd, F.ok sc_law_told (fun vs H Q E h => ?_) (fun cdv A outer s H vs Q E hr h => ⟨_, PSs.nox
    (pss_one (ps_try_as (i := 2) rfl rfl sc_law_told.nd rfl rfl ⟨by rfl, by decide, .inl G_GraphtwinsError⟩ takes0 (fun W pn xe tk po => (pss_one (ps_ret (pc_callT C_law_do tk (hr.mono (by decide)) (by rfl) (pa_cons (pv 0) (pa_cons (pv 1) pa_nil)))))) (fun a oe cls d pn hz hf => (pss_cons (ps_if (PW.pt (pw_and (pt_val (pe_callB (call_isD (K := K) rfl hz hf) (by rfl) B.isinstance (by decide +kernel) (pa_cons (pv 2) (pa_cons (pe_gt (by rfl) G_NothingThere) pa_nil)))) (pw_and (pt_val (pe_callB (call_isD (K := K) rfl hz hf) (by rfl) B.isinstance (by decide +kernel) (pa_cons (pv 2) (pa_cons (pe_bltn (v := .ty "ValueError") (by rfl) B_ValueError (by decide +kernel) rfl) pa_nil)))) (pw_and1 (pt_not (pt_val (pe_callB (call_isD (K := K) rfl hz hf) (by rfl) B.isinstance (by decide +kernel) (pa_cons (pv 2) (pa_cons (pe_gt (by rfl) G_CodeError) pa_nil)))))))))
          (pss_one (ps_ret (pe_tup (pa_cons pe_str (pa_cons (pe_xfK (K := K) rfl hz hf (pv 2)) pa_nil)))))
          pss_nil)
        (pss_one (ps_ret (pe_tup (pa_cons pe_str (pa_cons pe_int pa_nil))))))))), ?_⟩), g, F.kp, F.bindsN fun _ _ _ _ _ _ us hl => match us, hl with | [_, _], _ => rfl⟩
  · obtain ⟨c, dx, u, t, ps, d, rfl, _⟩ := h
    rfl
  · obtain ⟨c, dx, u, t, ps, d, rfl, hc, ht, ok, lp, li, q1, q2⟩ := h
    repeat walk_at "h"
    refine i_CallT ?_
    repeat walk_at "h"
    refine ⟨c, dx, u, t, ps, d, rfl, hc, ht, ok, lp, li, fun hm ps' H1 v st e dv => q1 hm ps' H1 v st e dv, fun m hm dd hd => ?_⟩
    have s1 : Stp [] H (upd H dd (.xd [(placeS, .int (m : Nat))])) := .new hd
    have e1 : upd H dd (.xd [(placeS, .int (m : Nat))]) dd = some (.xd [(placeS, .int (m : Nat))]) := upd_same
    generalize upd H dd (.xd [(placeS, .int (m : Nat))]) = H1 at s1 e1 ⊢
    refine ⟨true, ex, fun _ a ha => ?_, fun z => Bool.noConfusion z⟩
    repeat walk_at "h"
    refine ⟨NT, dd, _, .ref NT, .ref NT, true, rfl, rfl, T.is_, rfl, e1, .own NT, k1, ?_⟩
    repeat walk_at "h"
    refine iteT ?_
    repeat walk_at "h"
    refine ⟨NT, dd, _, .ty "ValueError", .type "ValueError", true, rfl, rfl, T.is_, rfl, e1, .ty _, k2, ?_⟩
    repeat walk_at "h"
    refine iteT ?_
    repeat walk_at "h"
    refine ⟨NT, dd, _, .ref CE, .ref CE, false, rfl, rfl, T.is_, rfl, e1, .own CE, k3, ?_⟩
    repeat walk_at "h"
    refine iteT ?_
    repeat walk_at "h"
    exact ⟨_, rfl, NT, rfl, rfl, T.xf, nf, dd, _, _, rfl, e1, rfl, (by decide : 2 ≤ sizeLine), fun p np => q2 m hm _ _ (s1.add np) (.tup (.inl upd_same) (.cons (.txt _) (.cons (.num _) .nil)))⟩
end

section
variable {P : Program} {w : World} {K : PySem.W.Frag} {mg : Str → Option Value} {base : Heap}
def okL (r : List Int) : Prop := r.length ≤ 12 ∧ ∀ x ∈ r, 0 ≤ x ∧ x < 1000
def spOctets (K : PySem.W.Frag) : Sp := fun vs H Q _ => ∃ (b dg : Addr), vs = [.ref b] ∧ Box K b dg H ∧
  ∀ (p : Addr) (ns : List Int) (H1 : Hp), H p = none → H1 p = some (lstI ns) → okL ns → Stp [b] H H1 → Box K b dg H1 → Q (.ref p) H1
theorem cal_law_octets (F : Df K mg d_law_octets) (B : Blt mg) (C_law_draw : Cal P w K mg base lv_law_draw "_law_draw" ["box", "many"] (spDraw K)) : Cal P w K mg base lv_law_octets "_law_octets" ["box"] (spOctets K) := by
  obtain ⟨f, fd, F, g⟩ := F
  refine ⟨f, fd, F.ok sc_law_octets (fun vs H Q E h => ?_) (fun cdv A outer s H vs Q E hr h => ⟨_, PSs.nox
    (pss_one (ps_ret (pe_lc (own := [("k", 1)]) (g := gName 1) (by rfl) sc_law_octets.nd (pi_range1 rfl B.range (pa_cons (pc_call C_law_draw (hr.mono (by decide)) (by rfl) (pa_cons (pv 0) (pa_cons pe_int pa_nil))) pa_nil)) (blkOk_by (N := ["box", "k"]) (own := [("k", 1)]) (sc := defScope s_law_octets) (by decide +kernel)) (fun _ _ _ _ _ => (pg_name (i := 1) sc_law_octets.nd rfl (Or.inl rfl))) (fun _ _ _ _ _ => pts_nil) (fun _ _ _ _ _ => (pe_op op_mod (pe_callTy call_int1 (by rfl) B.int boot_int (pa_cons (pc_call C_law_draw (hr.mono (by decide)) (by rfl) (pa_cons (pv 0) (pa_cons pe_int pa_nil))) pa_nil)) pe_int))))), ?_⟩), g, F.kp, F.bindsN fun _ _ _ _ _ _ us hl => match us, hl with | [_], _ => rfl⟩
  · obtain ⟨b, dg, rfl, _⟩ := h
    rfl
  · obtain ⟨b, dg, rfl, bx, q⟩ := h
    repeat walk_at "h"
    refine i_Lc ?_
    repeat walk_at "h"
    refine ⟨b, dg, 13, rfl, by decide, bx, fun k H1 k0 k1 s1 B1 => ?_⟩
    refine ⟨k, rfl, by omega, by omega, fun p np => ?_⟩
    have pb := B1.nin np
    have pb' : b ≠ p := by simpa using fun z : b = p => pb (by simp [z])
    have pdg := B1.dgn np
    refine lc_range (lo := 0) (n := k.toNat) (fun i H' => Stp [b] H1 H' ∧ Box K b dg H' ∧ ∃ ns : List Int, H' p = some (lstI ns) ∧ (∀ x ∈ ns, 0 ≤ x ∧ x < 1000) ∧ ns.length = i) ⟨.new np, B1.grow (.new np), [], upd_same, by simp, rfl⟩ ?_ ?_
    · rintro j H2 hj ⟨s2, B2, ns, p2, nin, nl⟩
      repeat walk_at "h"
      refine ⟨rfl, i_Yes ?_⟩
      refine i_ite (fun _ => ?_) (fun z => nomatch z)
      repeat walk_at "h"
      refine ⟨b, dg, 1000, rfl, by decide, B2, fun n H3 n0 n1 s3 B3 => ?_⟩
      repeat walk_at "h"
      refine .inl ⟨n, rfl, ?_⟩
      repeat walk_at "h"
      have p3 := s3.keep _ _ p2 pb
      have s4 : Stp [p] H3 (upd H3 p (.lst (ns.map V.int ++ [.int (n % 256)]))) := .wr (by simp) p3 fun _ z => nomatch z
      refine ⟨_, p3, by rw [List.length_map]; exact Nat.lt_of_le_of_lt (show ns.length ≤ 100 by omega) (by decide), (s2.trans s3).mut np, B3.stp s4 (by simpa using pb') (by simpa using pdg), ns ++ [n % 256], by rw [upd_same, map_snoc]; rfl, fun x hx => ?_, by rw [List.length_append, List.length_singleton, nl]⟩
      rcases List.mem_append.mp hx with y | y
      · exact nin x y
      · rw [List.mem_singleton.mp y]
        have := Int.emod_nonneg n (show (256 : Int) ≠ 0 by decide)
        have := Int.emod_lt_of_pos n (show (0 : Int) < 256 by decide)
        omega
    · rintro H2 ⟨s2, B2, ns, p2, nin, nl⟩
      exact q p ns H2 (s1.free np pb) p2 ⟨by omega, nin⟩ (s1.trans s2) B2
def rsD (R : Rs) : Dt := .lst (R.map fun r => .lst (r.map .num))
theorem Rws.dts {K : PySem.W.Frag} {H : Hp} : ∀ ps : Rw, (∀ p ∈ ps, H p.1 = some (lstI p.2)) → DtsAt K H (refs ps) ((rowsOf ps).map fun r => Dt.lst (r.map .num))
  | [], _ => .nil
  | p :: ps, h => .cons (.lst (SqL.of (h p (by simp))) (ints_dt _)) (Rws.dts ps fun q hq => h q (by simp [hq]))
theorem Rws.dt {K : PySem.W.Frag} {H : Hp} {u : Addr} {ps : Rw} (h : Rws H u ps) : DtAt K H (.ref u) (rsD (rowsOf ps)) := .lst (SqL.of h.top) (Rws.dts ps h.its)
theorem rsD_nil (R : Rs) : Dt.beq (rsD R) (.lst []) = decide (R = []) := by
  unfold rsD
  cases R with
  | nil => rfl
  | cons a l => simp [Dt.beq, Dt.beqAll]
def Wd (z : Str) : Prop := z = Str.ofString "exchange" ∨ z = Str.ofString "cut" ∨ z = Str.ofString "damage" ∨ z = Str.ofString "lose" ∨ z = Str.ofString "double" ∨ z = Str.ofString "take"
/-- the words of the deeds as they are drawn -/
def words8 : List V := [.str (Str.ofString "lose"), .str (Str.ofString "double"), .str (Str.ofString "exchange"), .str (Str.ofString "cut"), .str (Str.ofString "damage"), .str (Str.ofString "damage"), .str (Str.ofString "damage"), .str (Str.ofString "take")]
def spDeed (K : PySem.W.Frag) : Sp := fun vs H Q _ => ∃ (b dg u : Addr) (ps : Rw), vs = [.ref b, .ref u] ∧ Box K b dg H ∧ Rws H u ps ∧ ps.length ≤ 900 ∧ (∀ p ∈ ps, okL p.2) ∧ b ∉ adrs u ps ∧ dg ∉ adrs u ps ∧
  ∀ (d : Deed) (t : Addr) (H1 : Hp), TupAt K H1 t d.vals → d.ok → Stp [b] H H1 → Box K b dg H1 → Q (.ref t) H1
theorem cal_law_deed (F : Df K mg d_law_deed) (B : Blt mg) (C_law_draw : Cal P w K mg base lv_law_draw "_law_draw" ["box", "many"] (spDraw K)) : Cal P w K mg base lv_law_deed "_law_deed" ["box", "row"] (spDeed K) := by
  obtain ⟨f, fd, F, g⟩ := F
  refine ⟨f, fd, F.ok sc_law_deed (fun vs H Q E h => ?_) (fun cdv A outer s H vs Q E hr h => ⟨_, PSs.nox
    (pss_cons (ps_set (i := 2) sc_law_deed.nd rfl (Or.inl rfl) (pe_ix (ix_listK (K := K) rfl) (pe_lst (pa_cons pe_str (pa_cons pe_str (pa_cons pe_str (pa_cons pe_str (pa_cons pe_str (pa_cons pe_str (pa_cons pe_str (pa_cons pe_str pa_nil))))))))) (pc_call C_law_draw (hr.mono (by decide)) (by rfl) (pa_cons (pv 0) (pa_cons pe_int pa_nil))) (fun _ _ => rfl)))
    (pss_cons (ps_set (i := 3) sc_law_deed.nd rfl (Or.inl rfl) (pe_op op_mod (pe_callTy call_int1 (by rfl) B.int boot_int (pa_cons (pc_call C_law_draw (hr.mono (by decide)) (by rfl) (pa_cons (pv 0) (pa_cons pe_int pa_nil))) pa_nil)) (pe_op op_add (pe_op op_add (pe_callB call_len_seq (by rfl) B.len boot_len (pa_cons (pv 1) pa_nil)) (pe_callTy call_int1 (by rfl) B.int boot_int (pa_cons (pe_cmpR op_eq (pc_call C_law_draw (hr.mono (by decide)) (by rfl) (pa_cons (pv 0) (pa_cons pe_int pa_nil))) pe_int (nomark _)) pa_nil))) (pe_callTy call_int1 (by rfl) B.int boot_int (pa_cons (pe_cmpR (op_eqTK (K := K) rfl hr.units) (pv 1) (pe_lst pa_nil) (nomark _)) pa_nil)))))
    (pss_cons (ps_if (pt_cmpR op_eq (pv 2) pe_str (nomark _))
      (pss_one (ps_ret (pe_tup (pa_cons (pv 2) (pa_cons (pv 3) (pa_cons (pe_op op_mod (pe_callTy call_int1 (by rfl) B.int boot_int (pa_cons (pc_call C_law_draw (hr.mono (by decide)) (by rfl) (pa_cons (pv 0) (pa_cons pe_int pa_nil))) pa_nil)) (pe_op op_add (pe_callB call_len_seq (by rfl) B.len boot_len (pa_cons (pv 1) pa_nil)) pe_int)) pa_nil))))))
      pss_nil)
    (pss_cons (ps_if (pt_cmpR op_eq (pv 2) pe_str (nomark _))
      (pss_one (ps_ret (pe_tup (pa_cons (pv 2) (pa_cons (pv 3) (pa_cons (pc_call C_law_draw (hr.mono (by decide)) (by rfl) (pa_cons (pv 0) (pa_cons pe_int pa_nil))) pa_nil))))))
      pss_nil)
    (pss_cons (ps_if (pt_cmpR op_ne (pv 2) pe_str (nomark _))
      (pss_one (ps_ret (pe_tup (pa_cons (pv 2) (pa_cons (pv 3) pa_nil)))))
      pss_nil)
    (pss_cons (ps_set (i := 4) sc_law_deed.nd rfl (Or.inl rfl) (pc_call C_law_draw (hr.mono (by decide)) (by rfl) (pa_cons (pv 0) (pa_cons pe_int pa_nil))))
    (pss_cons (ps_set (i := 5) sc_law_deed.nd rfl (Or.inl rfl) (pe_op op_mod (pe_callTy call_int1 (by rfl) B.int boot_int (pa_cons (pc_call C_law_draw (hr.mono (by decide)) (by rfl) (pa_cons (pv 0) (pa_cons pe_int pa_nil))) pa_nil)) pe_int))
    (pss_cons (ps_if (PW.pt (pw_and (pt_cmpR op_lt (pv 3) (pe_callB call_len_seq (by rfl) B.len boot_len (pa_cons (pv 1) pa_nil)) (nomark _)) (pw_and (pt_cmpR op_lt (pv 4) (pe_callB call_len_seq (by rfl) B.len boot_len (pa_cons (pe_ix (ix_listK (K := K) rfl) (pv 1) (pv 3) (fun _ _ => rfl)) pa_nil)) (nomark _)) (pw_and1 (pt_cmpR op_eq (pc_call C_law_draw (hr.mono (by decide)) (by rfl) (pa_cons (pv 0) (pa_cons pe_int pa_nil))) pe_int (nomark _))))))
      (pss_one (ps_set (i := 5) sc_law_deed.nd rfl (Or.inl rfl) (pe_ix (ix_listK (K := K) rfl) (pe_ix (ix_listK (K := K) rfl) (pv 1) (pv 3) (fun _ _ => rfl)) (pv 4) (fun _ _ => rfl))))
      pss_nil)
    (pss_one (ps_ret (pe_tup (pa_cons (pv 2) (pa_cons (pv 3) (pa_cons (pv 4) (pa_cons (pv 5) pa_nil))))))))))))))), ?_⟩), g, F.kp, F.bindsN fun _ _ _ _ _ _ us hl => match us, hl with | [_, _], _ => rfl⟩
  · obtain ⟨b, dg, u, ps, rfl, _⟩ := h
    rfl
  · obtain ⟨b, dg, u, ps, rfl, bx, hu, lp, li, nb, nd, q⟩ := h
    repeat walk_at "h"
    refine ⟨(by decide : 8 ≤ sizeLine), fun p0 np0 => ?_⟩
    have s0 : Stp [] H (upd H p0 (.lst words8)) := .new np0
    have e0 : upd H p0 (.lst words8) p0 = some (.lst words8) := upd_same
    show tCall _ _ _ _ _ (upd H p0 (.lst words8)) _
    generalize upd H p0 (.lst words8) = H0 at s0 e0 ⊢
    have b0 := bx.grow s0
    have pb0 := bx.nin np0
    repeat walk_at "h"
    refine ⟨b, dg, 8, rfl, by decide, b0, fun n H1 n0 n1 s1 b1 => ?_⟩
    obtain ⟨z, hz, wz⟩ : ∃ z, words8[n.toNat]? = some (.str z) ∧ Wd z := by
      have : n.toNat < 8 := by omega
      have h : ∀ m < 8, ∃ z, words8[m]? = some (.str z) ∧ Wd z := by
        intro m hm
        match m, hm with
        | 0, _ => exact ⟨_, rfl, by simp [Wd]⟩
        | 1, _ => exact ⟨_, rfl, by simp [Wd]⟩
        | 2, _ => exact ⟨_, rfl, by simp [Wd]⟩
        | 3, _ => exact ⟨_, rfl, by simp [Wd]⟩
        | 4, _ => exact ⟨_, rfl, by simp [Wd]⟩
        | 5, _ => exact ⟨_, rfl, by simp [Wd]⟩
        | 6, _ => exact ⟨_, rfl, by simp [Wd]⟩
        | 7, _ => exact ⟨_, rfl, by simp [Wd]⟩
      exact h _ this
    refine i_IxL (SqL.of (s1.keep _ _ e0 pb0)) (at_of (j := n.toNat) (by omega) hz) ?_
    have s01 := (s0.mono (M' := [b]) (by simp)).trans s1
    clear s1 b0
    repeat walk_at "h"
    refine ⟨b, dg, 900, rfl, by decide, b1, fun x H2 x0 x1 s2 b2 => ?_⟩
    have s02 := s01.trans s2
    have hu2 := hu.stp s02 fun a ha => by simpa using fun z : a = b => nb (by rw [← z]; exact ha)
    refine .inl ⟨x, rfl, ?_⟩
    repeat walk_at "h"
    refine ⟨u, _, rfl, .inl (SqL.of hu2.top), ?_⟩
    rw [refs_len]
    repeat walk_at "h"
    refine ⟨b, dg, 5, rfl, by decide, b2, fun y H3 y0 y1 s3 b3 => ?_⟩
    have s03 := s02.trans s3
    have hu3 := hu.stp s03 fun a ha => by simpa using fun z : a = b => nb (by rw [← z]; exact ha)
    repeat walk_at "h"
    refine .inr ⟨_, rfl, ?_⟩
    repeat walk_at "h"
    refine ⟨Nat.zero_le _, fun p4 np4 => ?_⟩
    have s4 : Stp [] H3 (upd H3 p4 (.lst [])) := .new np4
    have e4 : upd H3 p4 (.lst []) p4 = some (.lst []) := upd_same
    generalize upd H3 p4 (.lst []) = H4 at s4 e4 ⊢
    have s04 := s03.trans (s4.mono (by simp))
    have b4 := b3.grow s4
    have hu4 := hu3.grow s4
    refine i_EqT hu4.dt (.lst (SqL.of e4) .nil) ?_ ?_ ?_
    · rw [rsD_nil]
      repeat walk_at "h"
      refine .inr ⟨_, rfl, ?_⟩
      generalize hm : ((ps.length : Nat) : Int) + (if decide (V.int y = V.int 0) = true then 1 else 0) = m1
      have m1n : (ps.length : Int) ≤ m1 ∧ m1 ≤ ps.length + 1 := by rw [← hm]; split <;> omega
      generalize hm2 : (if decide (rowsOf ps = []) = true then (1 : Int) else 0) = m2
      have m2n : 0 < m1 + m2 ∧ m2 ≤ 1 := by
        rw [← hm2]
        split
        · omega
        · rename_i h
          have : ps ≠ [] := fun z => h (by rw [z]; rfl)
          have := List.length_pos_iff.mpr this
          omega
      refine ⟨m1, m2, rfl, rfl, ?_⟩
      refine i_I m2n.1 ?_
      obtain ⟨k, hk⟩ := Int.eq_ofNat_of_zero_le (Int.emod_nonneg x (show m1 + m2 ≠ 0 by omega))
      have kl : (k : Int) ≤ 1000 := by
        rw [← hk]
        have := Int.emod_lt_of_pos x m2n.1
        omega
      rw [hk]
      clear hm hm2 m1n m2n hk
      repeat walk_at "h"
      have s5 : Stp [b] H H4 := s04
      refine i_iteD (fun e => ?_) (fun n1 => ?_)
      · obtain rfl : z = Str.ofString "exchange" := by cases e; rfl
        repeat walk_at "h"
        refine ⟨b, dg, 900, rfl, by decide, b4, fun x2 H5 _ _ s5 b5 => ?_⟩
        have hu5 := hu4.stp s5 fun a ha => by simpa using fun z : a = b => nb (by rw [← z]; exact ha)
        refine .inl ⟨x2, rfl, ?_⟩
        repeat walk_at "h"
        refine ⟨u, _, rfl, .inl (SqL.of hu5.top), ?_⟩
        rw [refs_len]
        repeat walk_at "h"
        obtain ⟨j, hj⟩ := Int.eq_ofNat_of_zero_le (Int.emod_nonneg x2 (show (ps.length : Int) + 1 ≠ 0 by omega))
        have jl : (j : Int) ≤ 1000 := by
          rw [← hj]
          have := Int.emod_lt_of_pos x2 (show (0 : Int) < ps.length + 1 by omega)
          omega
        refine ⟨(by decide : 3 ≤ sizeLine), fun t nt => ?_⟩
        exact q (.exch k j) t _ (.inl (by rw [upd_same, hj]; rfl)) ⟨by omega, by omega⟩ ((s04.trans s5).add nt) (b5.grow (.new nt))
      repeat walk_at "h"
      refine i_iteD (fun e => ?_) (fun n2 => ?_)
      · obtain rfl : z = Str.ofString "cut" := by cases e; rfl
        repeat walk_at "h"
        refine ⟨b, dg, 15, rfl, by decide, b4, fun x2 H5 j0 j1 s5 b5 => ?_⟩
        obtain ⟨j, hj⟩ := Int.eq_ofNat_of_zero_le j0
        refine ⟨(by decide : 3 ≤ sizeLine), fun t nt => ?_⟩
        exact q (.cut k j) t _ (.inl (by rw [upd_same, hj]; rfl)) ⟨by omega, by omega⟩ ((s04.trans s5).add nt) (b5.grow (.new nt))
      repeat walk_at "h"
      refine i_iteN (fun e => ?_) (fun e => ?_)
      · repeat walk_at "h"
        refine ⟨(by decide : 2 ≤ sizeLine), fun t nt => ?_⟩
        have s6 := s04.add nt (o := .tup [.str z, .int (k : Nat)])
        have b6 := b4.grow (.new nt (o := .tup [.str z, .int (k : Nat)]))
        rcases wz with rfl | rfl | rfl | rfl | rfl | rfl
        · exact absurd rfl n1
        · exact absurd rfl n2
        · exact absurd rfl e
        · exact q (.lose k) t _ (.inl upd_same) (show k < 10000 by omega) s6 b6
        · exact q (.dbl k) t _ (.inl upd_same) (show k < 10000 by omega) s6 b6
        · exact q (.take k) t _ (.inl upd_same) (show k < 10000 by omega) s6 b6
      · obtain rfl : z = Str.ofString "damage" := by cases e; rfl
        repeat walk_at "h"
        refine ⟨b, dg, 14, rfl, by decide, b4, fun x2 H5 j0 j1 s5 b5 => ?_⟩
        obtain ⟨j, hj⟩ := Int.eq_ofNat_of_zero_le j0
        rw [hj]
        have s05 := s04.trans s5
        repeat walk_at "h"
        refine ⟨b, dg, 1000, rfl, by decide, b5, fun x3 H6 o0 o1 s6 b6 => ?_⟩
        have s06 := s05.trans s6
        have hu6 := hu.stp s06 fun a ha => by simpa using fun z : a = b => nb (by rw [← z]; exact ha)
        refine .inl ⟨x3, rfl, ?_⟩
        repeat walk_at "h"
        have on := Int.emod_nonneg x3 (show (256 : Int) ≠ 0 by decide)
        have ol := Int.emod_lt_of_pos x3 (show (0 : Int) < 256 by decide)
        generalize x3 % 256 = o at on ol ⊢
        have fin : ∀ (o : Int) (H7 : Hp), 0 ≤ o → o < 1000 → Stp [b] H H7 → Box K b dg H7 → ∀ t, H7 t = none → Q (.ref t) (upd H7 t (.tup [.str (Str.ofString "damage"), .int (k : Nat), .int (j : Nat), .int o])) := fun o H7 z0 z1 s7 b7 t nt =>
          q (.dam k j o) t _ (.inl upd_same) ⟨by omega, by omega, z0, z1⟩ (s7.add nt) (b7.grow (.new nt))
        refine ⟨u, _, rfl, .inl (SqL.of hu6.top), ?_⟩
        rw [refs_len]
        repeat walk_at "h"
        refine i_iteD (fun c1 => ?_) (fun _ => ?_)
        · have kl : k < ps.length := by omega
          obtain ⟨r, hr⟩ : ∃ r, ps[k]? = some r := ⟨_, List.getElem?_eq_getElem kl⟩
          have ir := hu6.its r (mem_of_at hr)
          have okr := li r (mem_of_at hr)
          repeat walk_at "h"
          refine i_IxL (SqL.of hu6.top) (at_of (j := k) (by omega) (refs_at hr)) ?_
          repeat walk_at "h"
          refine ⟨r.1, _, rfl, .inl (SqL.of ir), ?_⟩
          rw [List.length_map]
          repeat walk_at "h"
          refine i_iteD (fun c2 => ?_) (fun _ => ?_)
          · obtain ⟨x, hx⟩ : ∃ x, r.2[j]? = some x := ⟨_, List.getElem?_eq_getElem (show j < r.2.length by omega)⟩
            repeat walk_at "h"
            refine ⟨b, dg, 4, rfl, by decide, b6, fun x4 H7 _ _ s7 b7 => ?_⟩
            have s07 := s06.trans s7
            have hu7 := hu.stp s07 fun a ha => by simpa using fun z : a = b => nb (by rw [← z]; exact ha)
            repeat walk_at "h"
            refine i_iteD (fun c3 => ?_) (fun _ => ?_)
            · repeat walk_at "h"
              refine i_IxL (SqL.of hu7.top) (at_of (j := k) (by omega) (refs_at hr)) ?_
              repeat walk_at "h"
              refine i_IxL (SqL.of (hu7.its r (mem_of_at hr))) (at_of (j := j) (by omega) (by rw [List.getElem?_map, hx]; rfl)) ?_
              repeat walk_at "h"
              have := okr.2 x (mem_of_at hx)
              exact ⟨(by decide : 4 ≤ sizeLine), fin x H7 (by omega) (by omega) s07 b7⟩
            · repeat walk_at "h"
              exact ⟨(by decide : 4 ≤ sizeLine), fin o H7 on (by omega) s07 b7⟩
          · refine iteF ?_
            repeat walk_at "h"
            exact ⟨(by decide : 4 ≤ sizeLine), fin o H6 on (by omega) s06 b6⟩
        · refine iteF ?_
          repeat walk_at "h"
          exact ⟨(by decide : 4 ≤ sizeLine), fin o H6 on (by omega) s06 b6⟩
    · unfold rsD
      rw [Dt.depth]
      have := depthAll_map (fun r : List Int => Dt.lst (r.map .num)) 1 (rowsOf ps) fun r _ => by
        rw [Dt.depth]
        have := depthAll_map Dt.num 0 r fun _ _ => by simp [Dt.depth]
        omega
      omega
    · simp [Dt.depth, Dt.depthAll]
end

section
variable {P : Program} {w : World} {K : PySem.W.Frag} {mg : Str → Option Value} {base : Heap} {C NT : Addr}
/-! ### the law -/
def spCInit (C : Addr) : Sp := fun vs H Q _ => ∃ (x dx : Addr), vs = [.ref x] ∧ H x = some (.ins C dx []) ∧ ∀ (u : Addr) (H1 : Hp), H u = none → ChAt C H1 x dx u [] → Stp [x] H H1 → Q .non H1
theorem mki_Channel_init (F : Dfi K mg C "Channel" d_Channel_init) (S : ChC K C) : Mki P w K mg base lv_Channel_init C "Channel" ["self"] (spCInit C) := by
  obtain ⟨f, fd, F, g⟩ := F
  refine ⟨f, fd, F.ok sc_Channel_init (fun vs H Q E h => ?_) (fun cdv A outer s H vs Q E hr h => ⟨_, PSs.nox
    (pss_one (ps_fld (pv 0) (pe_lst pa_nil) rfl)), ?_⟩), g, F.kp, F.bindsN fun _ _ _ _ _ _ us hl => match us, hl with | [_], _ => rfl⟩
  · obtain ⟨x, dx, rfl, _⟩ := h
    rfl
  · obtain ⟨x, dx, rfl, hx, q⟩ := h
    repeat walk_at "h"
    refine ⟨Nat.zero_le _, fun u nu => ?_⟩
    have s1 : Stp [] H (upd H u (.lst [])) := .new nu
    have e1 : upd H u (.lst []) u = some (.lst []) := upd_same
    generalize upd H u (.lst []) = H1 at s1 e1 ⊢
    have x1 := s1.keep _ _ hx (by simp)
    have ux : u ≠ x := by rintro rfl; rw [e1] at x1; cases x1
    repeat walk_at "h"
    refine ⟨x, C, dx, [], rfl, x1, S.cls, S.na, by decide, ?_⟩
    refine q u _ nu ⟨upd_same, ⟨by rw [upd_ne ux]; exact e1, by simp, by simp, by simp⟩⟩ ((s1.mono (by simp)).write (by simp) x1 fun _ z => nomatch z)
/-- the box, the channel with the row ps, the law's row qs, apart from one another -/
structure LS (K : PySem.W.Frag) (C : Addr) (H : Hp) (b dg c dx u v : Addr) (ps qs : Rw) : Prop where
  bx : Box K b dg H
  ch : ChAt C H c dx u ps
  rw : Rws H v qs
  d1 : ∀ a ∈ adrs u ps, a ∉ adrs v qs
  d2 : b ∉ adrs u ps ∧ b ∉ adrs v qs
  d3 : dg ∉ adrs u ps ∧ dg ∉ adrs v qs
section
variable {H H1 : Hp} {b dg c dx u v : Addr} {ps qs ps1 qs1 : Rw}
theorem adrs_mem {a : Addr} (h : a ∈ adrs u ps) : a = u ∨ ∃ p ∈ ps, p.1 = a := by
  simp only [adrs, List.mem_cons, List.mem_map] at h
  exact h
theorem Box.lsts {b dg : Addr} {H : Hp} (B : Box K b dg H) : (H b ≠ none) ∧ H dg ≠ none := by
  obtain ⟨⟨z, h, _⟩, ⟨ns, e⟩, _⟩ := B
  exact ⟨by rw [h]; simp, by rw [e]; simp⟩
theorem RwStep.out (s : RwStep H u ps H1 ps1) {a : Addr} (h : a ∉ adrs u ps) (n : H a ≠ none) : a ∉ adrs u ps1 := fun z => by
  rcases adrs_mem z with rfl | ⟨p, hp, rfl⟩
  · exact h (by simp [adrs])
  · rcases s.nw p hp with e | ⟨q, hq, e⟩
    · exact n e
    · exact h (by rw [← e]; exact in_adrs hq)
theorem LS.stepC (L : LS K C H b dg c dx u v ps qs) (s : RwStep H u ps H1 ps1) : LS K C H1 b dg c dx u v ps1 qs := by
  have nv : ∀ a ∈ adrs v qs, a ∉ adrs u ps := fun a ha z => L.d1 a z ha
  refine ⟨L.bx.stp s.st L.d2.1 L.d3.1, L.ch.step s, L.rw.stp s.st nv, fun a ha z => ?_, ⟨s.out L.d2.1 L.bx.lsts.1, L.d2.2⟩, ⟨s.out L.d3.1 L.bx.lsts.2, L.d3.2⟩⟩
  obtain ⟨xs, e⟩ := L.rw.there a z
  exact s.out (nv a z) (by rw [e]; simp) ha
theorem LS.stepR (L : LS K C H b dg c dx u v ps qs) (s : RwStep H v qs H1 qs1) : LS K C H1 b dg c dx u v ps qs1 := by
  refine ⟨L.bx.stp s.st L.d2.2 L.d3.2, L.ch.stp s.st (L.rw.not fun xs z => by rw [L.ch.at_] at z; cases z) L.d1, s.rw, fun a ha z => ?_, ⟨L.d2.1, s.out L.d2.2 L.bx.lsts.1⟩, ⟨L.d3.1, s.out L.d3.2 L.bx.lsts.2⟩⟩
  obtain ⟨xs, e⟩ := L.ch.rw.there a ha
  exact s.out (L.d1 a ha) (by rw [e]; simp) z
theorem LS.draw (L : LS K C H b dg c dx u v ps qs) (s : Stp [b] H H1) (B : Box K b dg H1) : LS K C H1 b dg c dx u v ps qs := by
  have cb : c ≠ b := by
    rintro rfl
    obtain ⟨⟨z, h, _⟩, _⟩ := L.bx
    rw [L.ch.at_] at h
    cases h
  exact ⟨B, L.ch.stp s (by simpa using cb) fun a ha => by simpa using fun z : a = b => L.d2.1 (by rw [← z]; exact ha), L.rw.stp s fun a ha => by simpa using fun z : a = b => L.d2.2 (by rw [← z]; exact ha), L.d1, L.d2, L.d3⟩
theorem LS.grow (L : LS K C H b dg c dx u v ps qs) (s : Stp [] H H1) : LS K C H1 b dg c dx u v ps qs := L.draw (s.mono (by simp)) (L.bx.grow s)
end
/-- rows of short lists -/
def okR (R : Rs) (n : Nat) : Prop := R.length ≤ n ∧ ∀ r ∈ R, okL r
theorem okL_dt {r : List Int} (h : okL r) : (Dt.lst (r.map .num)).brief = true ∧ (Dt.lst (r.map .num)).mass ≤ 12 ∧ (Dt.lst (r.map .num)).depth ≤ 1 := by
  refine ⟨?_, ?_, ?_⟩
  · rw [Dt.brief]
    exact briefAll_map Dt.num r fun x hx => by
      have := h.2 x hx
      rw [Dt.brief]
      exact decide_eq_true (by omega)
  · rw [Dt.mass]
    have := massAll_map Dt.num 0 r fun _ _ => by simp [Dt.mass]
    have := h.1
    omega
  · rw [Dt.depth]
    have := depthAll_map Dt.num 0 r fun _ _ => by simp [Dt.depth]
    omega
theorem okR_shows {R : Rs} {n : Nat} (h : okR R n) (hn : n ≤ 900) : (rsD R).Shows := by
  unfold rsD
  refine Dt.shows_of ?_ ?_ ?_
  · rw [Dt.brief]
    exact briefAll_map _ R fun r hr => (okL_dt (h.2 r hr)).1
  · rw [Dt.mass]
    have := massAll_map (fun r : List Int => Dt.lst (r.map .num)) 12 R fun r hr => (okL_dt (h.2 r hr)).2.1
    have := h.1
    omega
  · rw [Dt.depth]
    have := depthAll_map (fun r : List Int => Dt.lst (r.map .num)) 1 R fun r hr => (okL_dt (h.2 r hr)).2.2
    omega
theorem okL_nil : okL [] := ⟨by simp, by simp⟩
theorem okL_getD {R : Rs} {n : Nat} (h : okR R n) (k : Nat) : okL (R.getD k []) := by
  rw [List.getD_eq_getElem?_getD]
  cases e : R[k]? with
  | none => exact okL_nil
  | some r => exact h.2 r (mem_of_at e)
theorem Dt.shows_num (i : Int) (h : i.natAbs < 10 ^ 12) : (Dt.num i).Shows := Dt.shows_of (by rw [Dt.brief]; exact decide_eq_true h) (by simp [Dt.mass]) (by simp [Dt.depth])
theorem tell_shows {R : Rs} {n : Nat} (h : okR R n) (d : Deed) : (d.tell R).Shows := by
  cases d with
  | take k =>
    have z := okL_dt (okL_getD h k)
    exact Dt.shows_of z.1 (Nat.le_trans z.2.1 (by decide)) (Nat.le_trans z.2.2 (by decide))
  | dam k s o => exact Dt.shows_of rfl (by simp [Dt.mass, Deed.tell]) (by simp [Dt.depth, Deed.tell])
  | lose k | dbl k | cut k n | exch i j => exact Dt.shows_of rfl (by simp [Dt.mass, Deed.tell]) (by simp [Dt.depth, Deed.tell])
theorem mem_set {α : Type} {l : List α} {k : Nat} {a x : α} (h : x ∈ l.set k a) : x ∈ l ∨ x = a := List.mem_or_eq_of_mem_set h
theorem eff_ok {R : Rs} {n : Nat} (h : okR R n) (d : Deed) (ok : d.ok) : okR (d.eff R) (n + 1) := by
  have g := okL_getD h
  have l := h.1
  cases d with
  | lose k | take k =>
    refine ⟨?_, fun r hr => h.2 r ((List.eraseIdx_sublist R k).subset hr)⟩
    have := List.length_eraseIdx_le R k
    show (R.eraseIdx k).length ≤ _
    omega
  | dbl k =>
    refine ⟨?_, fun r hr => ?_⟩
    · show (R ++ [R.getD k []]).length ≤ _
      rw [List.length_append, List.length_singleton]; omega
    · rcases List.mem_append.mp hr with hr | hr
      · exact h.2 r hr
      · rw [List.mem_singleton.mp hr]; exact g k
  | exch i j =>
    refine ⟨?_, fun r hr => ?_⟩
    · show ((R.set i (R.getD j [])).set j (R.getD i [])).length ≤ _
      rw [List.length_set, List.length_set]; omega
    · rcases mem_set hr with hr | rfl
      · rcases mem_set hr with hr | rfl
        · exact h.2 r hr
        · exact g j
      · exact g i
  | cut k m =>
    refine ⟨?_, fun r hr => ?_⟩
    · show (R.set k ((R.getD k []).take m)).length ≤ _
      rw [List.length_set]; omega
    · rcases mem_set hr with hr | rfl
      · exact h.2 r hr
      · refine ⟨?_, fun x hx => (g k).2 x (List.mem_of_mem_take hx)⟩
        have := (g k).1
        rw [List.length_take]; omega
  | dam k s o =>
    obtain ⟨_, _, o0, o1⟩ : k < 10000 ∧ s < 1000 ∧ 0 ≤ o ∧ o < 1000 := ok
    unfold Deed.eff
    dsimp only
    split
    · exact ⟨by omega, h.2⟩
    · refine ⟨by rw [List.length_set]; omega, fun r hr => ?_⟩
      rcases mem_set hr with hr | rfl
      · exact h.2 r hr
      · refine ⟨by rw [List.length_set]; exact (g k).1, fun x hx => ?_⟩
        rcases mem_set hx with hx | rfl
        · exact (g k).2 x hx
        · exact ⟨o0, o1⟩
theorem at_last (l : List V) (x : V) : atI (l ++ [x]) (-1) = some x := by
  have e : ixN (l ++ [x]).length (-1) = some l.length := by
    unfold ixN
    rw [List.length_append, List.length_singleton, if_neg (by decide), if_pos (by omega)]
    congr 1
    omega
  unfold atI
  rw [e]
  simp
def spLaw (K : PySem.W.Frag) : Sp := fun vs H Q _ => ∃ (a : Addr) (ns : List Int), vs = [.ref a] ∧ SqL K H a (ns.map V.int) ∧ ∀ H', Q (.bl true) H'

theorem jt_or {σ : L2.St} {H : Hp} {QT : Bool → Hp → Prop} {c b : Bool} {tt : TT} (h : Tl tt σ H b) (q : QT (c || b) H) : if c = true then QT true H else tt σ H QT := by
  cases c
  · exact h _ q
  · exact q
theorem miss_lt {d : Deed} {n m : Nat} (ok : d.ok) (h : d.miss n = some m) : m < 10000 := by
  cases d with
  | lose k | dbl k | take k =>
    have ok : k < 10000 := ok
    have h : (if n ≤ k then some k else none) = some m := h
    split at h <;> cases h
    exact ok
  | cut k j =>
    have ok : k < 10000 ∧ j < 1000 := ok
    have h : (if n ≤ k then some k else none) = some m := h
    split at h <;> cases h
    exact ok.1
  | dam k s o =>
    have ok : k < 10000 ∧ s < 1000 ∧ 0 ≤ o ∧ o < 1000 := ok
    have h : (if n ≤ k then some k else none) = some m := h
    split at h <;> cases h
    exact ok.1
  | exch i j =>
    have ok : i < 10000 ∧ j < 10000 := ok
    have h : (if n ≤ i then some i else if n ≤ j then some j else none) = some m := h
    split at h
    · cases h; exact ok.1
    · split at h <;> cases h
      exact ok.2
theorem same_num {H : Hp} {Q : VK} {E : XK} {i j : Int} (e : i = j) (h : i.natAbs < 10 ^ 12) (q : Q (.bl true) H) : spSame K [.int i, .int j] H Q E := by
  subst e
  exact ⟨_, _, .num i, rfl, .num i, .num i, Dt.shows_num i h, q⟩
/-- behind a turn -/
def Mid (K : PySem.W.Frag) (C : Addr) (a b c v : Addr) (n : Nat) : L2.St → Hp → Prop := fun σ H => ∃ (dg dx u : Addr) (ps qs : Rw) (x4 x5 x6 x7 x8 x9 : Option V), σ = [some (.ref a), some (.ref b), some (.ref c), some (.ref v), x4, x5, x6, x7, x8, x9] ∧
  LS K C H b dg c dx u v ps qs ∧ rowsOf ps = rowsOf qs ∧ okR (rowsOf qs) n
theorem ok_law {f : Addr} {fd : FuncData} (F : FunD K d_law.name d_law.qual d_law.params d_law.body d_law.scope [] [] f fd) (B : Blt mg) (S : ChC K C) (CL_Channel : Cls K C) (C_law_box : Cal P w K mg base lv_law_box "_law_box" ["script", "first", "last"] (spBox K)) (C_law_draw : Cal P w K mg base lv_law_draw "_law_draw" ["box", "many"] (spDraw K)) (I_Channel : Mki P w K mg base lv_Channel_init C "Channel" ["self"] (spCInit C))
    (M_Channel_put : Mth P w K mg base lv_Channel_put C "put" ["self", "octets"] (spPut C)) (C_law_octets : Cal P w K mg base lv_law_octets "_law_octets" ["box"] (spOctets K)) (C_law_deed : Cal P w K mg base lv_law_deed "_law_deed" ["box", "row"] (spDeed K)) (C_law_missing : Cal P w K mg base lv_law_missing "_law_missing" ["row", "deed"] (spMissing K)) (C_law_due : Cal P w K mg base lv_law_due "_law_due" ["row", "deed"] (spDue K)) (C_law_told : Cal P w K mg base lv_law_told "_law_told" ["channel", "deed"] (spTold K C NT)) (C_law_same : CalG P w K mg base lv_law_same "_law_same" ["one", "other"] (spSame K)) :
    GT.FnG P w K mg base CX0 lv_law f fd ["script"] (spLaw K) := by
  refine GT.FunD.okG F sc_law (fun vs H Q E h => ?_) (fun cdv A outer s H vs Q E hr hG h => ⟨_, PSs.nox
    (pss_cons (ps_set (i := 1) sc_law.nd rfl (Or.inl rfl) (pc_call C_law_box (hr.mono (by decide)) (by rfl) (pa_cons (pv 0) (pa_cons pe_int (pa_cons pe_int pa_nil)))))
    (pss_cons (ps_set (i := 2) sc_law.nd rfl (Or.inl rfl) (pc_make0 I_Channel (hr.mono (by decide)) (by rfl)))
    (pss_cons (ps_set (i := 3) sc_law.nd rfl (Or.inl rfl) (pe_lst pa_nil))
    (pss_cons (ps_if (pt_not (pt_val (pc_callG C_law_same hG (hr.mono (by decide)) (by rfl) (pa_cons (pe_fld (pv 2) rfl) (pa_cons (pe_lst pa_nil) pa_nil)))))
      (pss_one (ps_ret pe_bl))
      pss_nil)
    (pss_cons (ps_for PassesOwn.never rfl (pi_range1 rfl B.range (pa_cons (pe_op op_add pe_int (pc_call C_law_draw (hr.mono (by decide)) (by rfl) (pa_cons (pv 1) (pa_cons pe_int pa_nil)))) pa_nil)) (pg_name (i := 4) sc_law.nd rfl (Or.inl rfl))
      (C8.pss_cut (ps_if (PW.pt (pw_or (pt_cmpR op_eq (pc_call C_law_draw (hr.mono (by decide)) (by rfl) (pa_cons (pv 1) (pa_cons pe_int pa_nil))) pe_int (nomark _)) (pw_or1 (pt_cmpR op_lt (pv 4) pe_int (nomark _)))))
          (pss_cons (ps_set (i := 5) sc_law.nd rfl (Or.inl rfl) (pc_call C_law_octets (hr.mono (by decide)) (by rfl) (pa_cons (pv 1) pa_nil)))
            (pss_cons (ps_expr (pe_bm PySem.F.plainAttrs_list PySem.F.slot_list_append PySem.F.type_list_append mt_append (pv 3) (pa_cons (pe_callTy call_list_of (by rfl) B.list (by decide +kernel) (pa_cons (pv 5) pa_nil)) pa_nil)))
            (pss_one (ps_if (PW.pt (pw_or (pt_not (pt_val (pc_callG C_law_same hG (hr.mono (by decide)) (by rfl) (pa_cons (pc_meth (pv 2) CL_Channel M_Channel_put (hr.mono (by decide)) (pa_cons (pv 5) pa_nil)) (pa_cons (pe_callB call_len_seq (by rfl) B.len boot_len (pa_cons (pv 3) pa_nil)) pa_nil))))) (pw_or1 (pt_cmpR (op_neTK (K := K) rfl hr.units) (pv 5) (pe_ix (ix_listK (K := K) rfl) (pv 3) (pe_un un_neg pe_int) (fun _ _ => rfl)) (nomark _)))))
              (pss_one (ps_ret pe_bl))
              pss_nil))))
          (pss_cons (ps_set (i := 6) sc_law.nd rfl (Or.inl rfl) (pc_call C_law_deed (hr.mono (by decide)) (by rfl) (pa_cons (pv 1) (pa_cons (pv 3) pa_nil))))
            (pss_cons (ps_set (i := 7) sc_law.nd rfl (Or.inl rfl) (pc_call C_law_missing (hr.mono (by decide)) (by rfl) (pa_cons (pv 3) (pa_cons (pv 6) pa_nil))))
            (pss_cons (ps_set (i := 8) sc_law.nd rfl (Or.inl rfl) (pe_tup (pa_cons pe_str (pa_cons (pv 7) pa_nil))))
            (pss_cons (ps_if (pt_cmpR op_lt (pv 7) pe_int (nomark _))
              (pss_one (ps_set (i := 8) sc_law.nd rfl (Or.inl rfl) (pc_call C_law_due (hr.mono (by decide)) (by rfl) (pa_cons (pv 3) (pa_cons (pv 6) pa_nil)))))
              pss_nil)
            (pss_cons (ps_set (i := 9) sc_law.nd rfl (Or.inl rfl) (pc_call C_law_told (hr.mono (by decide)) (by rfl) (pa_cons (pv 2) (pa_cons (pv 6) pa_nil))))
            (pss_one (ps_if (pt_not (pt_val (pc_callG C_law_same hG (hr.mono (by decide)) (by rfl) (pa_cons (pv 9) (pa_cons (pv 8) pa_nil)))))
              (pss_one (ps_ret pe_bl))
              pss_nil))))))))
        (pss_one (ps_if (pt_not (pt_val (pc_callG C_law_same hG (hr.mono (by decide)) (by rfl) (pa_cons (pe_fld (pv 2) rfl) (pa_cons (pv 3) pa_nil)))))
          (pss_one (ps_ret pe_bl))
          pss_nil))))
    (pss_one (ps_ret pe_bl))))))), ?_⟩)
  · obtain ⟨a, ns, rfl, _⟩ := h
    rfl
  · obtain ⟨a, ns, rfl, hs, q⟩ := h
    repeat walk_at "h"
    refine ⟨a, ns, 0, 40, rfl, by decide, by decide, by decide, hs, fun b dg H1 nb ndg b1 s1 => ?_⟩
    repeat walk_at "h"
    refine fun c dx nc ndx ne => ⟨c, dx, rfl, upd_same, fun u H2 nu h2 s2 => ⟨rfl, ?_⟩⟩
    have b2 : Box K b dg H2 := by
      have s3 : Stp [] H1 (upd (upd H1 dx (.own c)) c (.ins C dx [])) := (Stp.new ndx).add (by rw [upd_ne (Ne.symm ne)]; exact nc)
      refine (b1.grow s3).stp s2 ?_ ?_
      · simp only [List.mem_singleton]
        rintro rfl
        exact b1.lsts.1 nc
      · simp only [List.mem_singleton]
        rintro rfl
        exact b1.lsts.2 nc
    have nbu : b ≠ u ∧ dg ≠ u := by
      have s3 : Stp [] H1 (upd (upd H1 dx (.own c)) c (.ins C dx [])) := (Stp.new ndx).add (by rw [upd_ne (Ne.symm ne)]; exact nc)
      have l := (b1.grow s3).lsts
      exact ⟨fun z => l.1 (by rw [z]; exact nu), fun z => l.2 (by rw [z]; exact nu)⟩
    clear s1 s2 b1 nu
    repeat walk_at "h"
    refine ⟨Nat.zero_le _, fun v nv => ?_⟩
    have s3 : Stp [] H2 (upd H2 v (.lst [])) := .new nv
    have e3 : upd H2 v (.lst []) v = some (.lst []) := upd_same
    generalize upd H2 v (.lst []) = H3 at s3 e3 ⊢
    have L3 : LS K C H3 b dg c dx u v [] [] := by
      have vb : v ≠ b ∧ v ≠ dg ∧ v ≠ u := ⟨fun z => b2.lsts.1 (by rw [← z]; exact nv), fun z => b2.lsts.2 (by rw [← z]; exact nv), fun z => by rw [z, h2.rw.top] at nv; cases nv⟩
      have h3 := h2.stp s3 (by simp) (by simp)
      refine ⟨b2.grow s3, h3, ⟨e3, by simp, by simp, by simp⟩, ?_, ?_, ?_⟩
      · simp only [adrs, List.map_nil, List.mem_singleton]
        rintro x rfl
        exact fun z => vb.2.2 z.symm
      · simp only [adrs, List.map_nil, List.mem_singleton]
        exact ⟨nbu.1, vb.1.symm⟩
      · simp only [adrs, List.map_nil, List.mem_singleton]
        exact ⟨nbu.2, vb.2.1.symm⟩
    clear h2 b2 s3 e3 nv
    repeat walk_at "h"
    refine ⟨c, C, dx, _, .ref u, rfl, L3.ch.at_, S.cls, S.na, rfl, ?_⟩
    repeat walk_at "h"
    refine ⟨Nat.zero_le _, fun p4 np4 => ?_⟩
    have s4 : Stp [] H3 (upd H3 p4 (.lst [])) := .new np4
    have e4 : upd H3 p4 (.lst []) p4 = some (.lst []) := upd_same
    generalize upd H3 p4 (.lst []) = H4 at s4 e4 ⊢
    have L4 := L3.grow s4
    refine ⟨.ref u, .ref p4, rsD [], rfl, L4.ch.rw.dt, .lst (SqL.of e4) .nil, okR_shows (n := 0) ⟨by simp, by simp⟩ (by decide), ?_⟩
    clear s4 e4 L3 np4
    repeat walk_at "h"
    refine iteF ?_
    repeat walk_at "h"
    refine ⟨b, dg, 33, rfl, by decide, L4.bx, fun k H5 k0 k1 s5 b5 => ?_⟩
    have L5 := L4.draw s5 b5
    clear L4 s5 b5
    repeat walk_at "h"
    refine ⟨8 + k, rfl, by omega, by omega, ?_⟩
    refine for_range (lo := 0) (n := (8 + k).toNat) (fun i σ H' => Mid K C a b c v i σ H') ⟨dg, dx, u, [], [], none, none, none, none, none, none, rfl, L5, rfl, ⟨by simp [rowsOf], by simp [rowsOf]⟩⟩ ?_ ?_
    · rintro i σ H6 hi ⟨dg, dx, u, ps, qs, x4, x5, x6, x7, x8, x9, rfl, L, eq, ok⟩
      clear L5 nbu
      have i41 : i ≤ 60 := by omega
      have lpq : ps.length = qs.length := by rw [← rows_len ps, eq, rows_len]
      have lq : qs.length ≤ i := by rw [← rows_len]; exact ok.1
      have okp : ∀ p ∈ ps, p.2.length ≤ 900 := fun p hp => by
        have : p.2 ∈ rowsOf qs := by rw [← eq]; exact List.mem_map.mpr ⟨p, hp, rfl⟩
        have := (ok.2 _ this).1
        omega
      have okq : ∀ p ∈ qs, okL p.2 := fun p hp => ok.2 _ (List.mem_map.mpr ⟨p, hp, rfl⟩)
      repeat walk_at "h"
      refine ⟨Mid K C a b c v (i + 1), ?_, ?_⟩
      · repeat walk_at "h"
        refine ⟨b, dg, 3, rfl, by decide, L.bx, fun k3 H7 _ _ s7 b7 => ?_⟩
        have L7 := L.draw s7 b7
        repeat walk_at "h"
        refine jt_or (tl_test (vl_I0 (vl_var rfl) vl_c)) ?_
        refine i_ite (fun _ => ?_) (fun _ => ?_)
        · repeat walk_at "h"
          refine ⟨b, dg, rfl, L7.bx, fun o ns H8 no e8 okn s8 b8 => ?_⟩
          have L8 := L7.draw s8 b8
          have ou : o ≠ u ∧ o ≠ v := ⟨fun z => (by rw [z, L7.ch.rw.top] at no; cases no), fun z => (by rw [z, L7.rw.top] at no; cases no)⟩
          repeat walk_at "h"
          refine ⟨.inl ⟨rfl, _, SqL.of L8.rw.top⟩, ?_⟩
          repeat walk_at "h"
          refine ⟨o, _, rfl, .inl (SqL.of e8), fun r nr => ?_⟩
          have s9 : Stp [] H8 (upd H8 r (lstI ns)) := .new nr
          have e9 : upd H8 r (lstI ns) r = some (lstI ns) := upd_same
          show tNil _ (upd H8 r (lstI ns)) _
          generalize upd H8 r (lstI ns) = H9 at s9 e9 ⊢
          have L9 := L8.grow s9
          have o9 := s9.keep _ _ e8 (by simp)
          repeat walk_at "h"
          refine ⟨v, _, .ref r, rfl, rfl, L9.rw.top, by rw [refs_len]; exact Nat.lt_of_le_of_lt lq (Nat.lt_of_le_of_lt i41 (by decide)), ?_⟩
          have st := L8.rw.put s9 nr e9
          have o10 : upd H9 v (.lst (refs qs ++ [.ref r])) o = some (lstI ns) := by rw [upd_ne ou.2]; exact o9
          generalize upd H9 v (.lst (refs qs ++ [.ref r])) = H10 at st o10 ⊢
          have L10 := L8.stepR st
          clear s9 e9 L9 o9
          repeat walk_at "h"
          refine ⟨c, dx, _, rfl, L10.ch.at_, rfl, ?_⟩
          repeat walk_at "h"
          refine ⟨c, dx, u, o, ps, ns, rfl, L10.ch, o10, by omega, by have := okn.1; omega, fun p' H11 st11 su11 => ?_⟩
          have L11 := L10.stepC st11
          have o11 := su11.keep _ _ o10 (by simpa using ou.1)
          repeat walk_at "h"
          refine ⟨v, _, rfl, .inl (SqL.of L11.rw.top), ?_⟩
          repeat walk_at "h"
          refine same_num (by rw [refs_len, List.length_append, lpq]; rfl) (by omega) ?_
          repeat walk_at "h"
          refine iteF ?_
          repeat walk_at "h"
          refine i_IxL (v := .ref r) (SqL.of L11.rw.top) (by unfold refs; rw [List.map_append]; exact at_last _ _) ?_
          have dl := okL_dt okn
          refine i_NeT (.lst (SqL.of o11) (ints_dt ns)) (.lst (SqL.of (L11.rw.its (r, ns) (by simp))) (ints_dt ns)) ?_ (Nat.le_trans dl.2.2 (by decide)) (Nat.le_trans dl.2.2 (by decide))
          rw [Dt.beq_self]
          repeat walk_at "h"
          refine iteF ?_
          refine ⟨dg, dx, u, _, _, _, _, _, _, _, _, rfl, L11, by rw [rows_app, rows_app, eq], ?_⟩
          rw [rows_app]
          refine ⟨by rw [List.length_append, List.length_singleton]; have := ok.1; omega, fun x hx => ?_⟩
          rcases List.mem_append.mp hx with y | y
          · exact ok.2 x y
          · rw [List.mem_singleton.mp y]; exact okn
        · repeat walk_at "h"
          refine ⟨b, dg, v, qs, rfl, L7.bx, L7.rw, by omega, okq, L7.d2.2, L7.d3.2, fun d t H8 ht okd s8 b8 => ?_⟩
          have L8 := L7.draw s8 b8
          repeat walk_at "h"
          refine ⟨v, t, refs qs, d, rfl, SqL.of L8.rw.top, ht, fun H9 s9 => ?_⟩
          rw [refs_len]
          have L9 := L8.grow s9
          have ht9 := ht.stp s9
          repeat walk_at "h"
          refine ⟨(by decide : 2 ≤ sizeLine), fun t2 nt2 => ?_⟩
          have s10 : Stp [] H9 (upd H9 t2 (.tup [.str (Str.ofString "nothing"), .int (missI (d.miss qs.length))])) := .new nt2
          have e10 : upd H9 t2 (.tup [.str (Str.ofString "nothing"), .int (missI (d.miss qs.length))]) t2 = some (.tup [.str (Str.ofString "nothing"), .int (missI (d.miss qs.length))]) := upd_same
          generalize upd H9 t2 (.tup [.str (Str.ofString "nothing"), .int (missI (d.miss qs.length))]) = H10 at s10 e10 ⊢
          have L10 := L9.grow s10
          have ht10 := ht9.stp s10
          have okq9 : ∀ p ∈ qs, p.2.length ≤ 900 := fun p hp => by have := (okq p hp).1; omega
          clear L L7 L8 L9 s7 s8 s9 s10 b7 b8 ht ht9
          cases hm : d.miss qs.length with
          | none =>
            rw [hm] at e10
            repeat walk_at "h"
            refine i_iteD (fun _ => ?_) (fun c => absurd (by decide) c)
            repeat walk_at "h"
            refine ⟨v, t, qs, d, rfl, L10.rw, ht10, okd, by omega, okq9, hm, fun qs' H11 dv st11 e11 keep => ?_⟩
            have L11 := L10.stepR st11
            have ht11 := ht10.stp st11.st
            repeat walk_at "h"
            refine ⟨c, dx, u, t, ps, d, rfl, L11.ch, ht11, okd, by omega, okp, fun hm2 ps' H12 tv st12 e12 dtv => ?_, fun m hm2 => by rw [lpq, hm] at hm2; cases hm2⟩
            have L12 := L11.stepC st12
            repeat walk_at "h"
            refine ⟨tv, dv, d.tell (rowsOf qs), rfl, by rw [← eq]; exact dtv, keep _ _ st12.st (fun x hx z => L10.d1 x z hx), tell_shows ok d, ?_⟩
            repeat walk_at "h"
            refine iteF ?_
            exact ⟨dg, dx, u, ps', qs', _, _, _, _, _, _, rfl, L12, by rw [e12, e11, eq], by rw [e11]; exact eff_ok ok d okd⟩
          | some m =>
            rw [hm] at e10
            repeat walk_at "h"
            refine i_iteD (fun c => absurd (show ((m : Nat) : Int) < 0 from c) (by omega)) (fun _ => ?_)
            repeat walk_at "h"
            refine ⟨c, dx, u, t, ps, d, rfl, L10.ch, ht10, okd, by omega, okp, fun hm2 => (by rw [lpq, hm] at hm2; cases hm2), fun m2 hm2 tv H12 s12 dtv => ?_⟩
            obtain rfl : m = m2 := by rw [lpq, hm] at hm2; exact Option.some.inj hm2
            have L12 := L10.grow s12
            repeat walk_at "h"
            refine ⟨tv, .ref t2, _, rfl, dtv, .tup ((show TupAt K H10 t2 _ from .inl e10).stp s12) (.cons (.txt _) (.cons (.num _) .nil)), ?_, ?_⟩
            · have := miss_lt okd hm
              refine Dt.shows_of ?_ ?_ ?_
              · rw [Dt.brief, Dt.briefAll, Dt.briefAll, Dt.brief, Dt.brief, Dt.briefAll, decide_eq_true (show ((m : Nat) : Int).natAbs < 10 ^ 12 by omega)]
                decide
              · simp only [Dt.mass, Dt.massAll]
                decide
              · simp [Dt.depth, Dt.depthAll]
            repeat walk_at "h"
            refine iteF ?_
            exact ⟨dg, dx, u, ps, qs, _, _, _, _, _, _, rfl, L12, eq, ⟨by have := ok.1; omega, ok.2⟩⟩
      · rintro σ2 H7 ⟨dg, dx, u, ps, qs, x4, x5, x6, x7, x8, x9, rfl, L, eq, ok⟩
        repeat walk_at "h"
        refine ⟨c, C, dx, _, .ref u, rfl, L.ch.at_, S.cls, S.na, rfl, ?_⟩
        repeat walk_at "h"
        refine ⟨.ref u, .ref v, rsD (rowsOf qs), rfl, by rw [← eq]; exact L.ch.rw.dt, L.rw.dt, okR_shows ok (by omega), ?_⟩
        repeat walk_at "h"
        refine iteF ?_
        exact ⟨dg, dx, u, ps, qs, _, _, _, _, _, _, rfl, L, eq, ok⟩
    · rintro σ H6 ⟨dg, dx, u, ps, qs, x4, x5, x6, x7, x8, x9, rfl, L, eq, ok⟩
      exact q H6
end

/-! ### what the head tells of the classes of errors -/
section
def exK (K : PySem.W.Frag) : Bool :=
  errB K (He.ga K "NothingThere") && (decide (PySem.W.findIn K (.ref (He.ga K "NothingThere")) "place" = some none) && (basB K (He.ga K "GraphtwinsError") &&
    (decide (PySem.W.exmOne K (.ref (He.ga K "NothingThere")) (.ref (He.ga K "GraphtwinsError")) = some true) && (decide (PySem.W.kitOne K (.ref (He.ga K "NothingThere")) (.ref (He.ga K "NothingThere")) = some true) &&
      (decide (PySem.W.kitOne K (.ref (He.ga K "NothingThere")) (.type "ValueError") = some true) && (decide (PySem.W.kitOne K (.ref (He.ga K "NothingThere")) (.ref (He.ga K "CodeError")) = some false) &&
        (decide (PySem.W.findIn K (.ref (He.ga K "NothingThere")) "__init__" = some (some (.ref (He.ma K (He.ga K "NothingThere") "__init__")))) && decide (PySem.W.typeIn K (.ref (He.ma K (He.ga K "NothingThere") "__init__")) = some (.type "function")))))))))
end

/-! ### the head: facts by names, the run -/
def fn : List He.DefD := [d_CodeError_init, d_NothingThere_init, d_Channel_init, d_Channel_put, d_Channel_lose, d_Channel_double, d_Channel_exchange, d_Channel_damage, d_Channel_cut, d_Channel_take, d_Channel_check_there, d_law_cell, d_law_row, d_law_box, d_law_draw, d_law_same, d_law_octets, d_law_do, d_law_told, d_law_missing, d_law_due, d_law_deed, d_law]
def fa0 : List He.Fa := [.glo "_law_cell", .glo "_law_row", .glo "_law_box", .glo "_law_draw", .glo "_law_same", .glo "_law_octets", .glo "_law_do", .glo "_law_told", .glo "_law_missing", .glo "_law_due", .glo "_law_deed", .glo "law", .free "len", .free "int", .free "range", .free "isinstance", .free "sorted", .free "list", .free "tuple", .free "dict", .free "str", .free "bool", .free "max", .free "min", .free "all", .free "any", .free "sum", .free "ord", .free "enumerate", .free "repr"]
def fa1 : List He.Fa := [.free "ValueError", .glo "GraphtwinsError", .glo "CodeError", .glo "NothingThere", .glo "Channel", .cls "Channel", .noat "Channel" "under_way", .mkr "Channel", .meth "Channel" "put", .meth "Channel" "lose", .meth "Channel" "double", .meth "Channel" "exchange", .meth "Channel" "damage", .meth "Channel" "cut", .meth "Channel" "take", .meth "Channel" "_check_there"]
def fa : List He.Fa := fa0 ++ fa1
def exB (K : PySem.W.Frag) : Bool := exK K
def tf : List He.Defn := []
abbrev R : PySem.W.OpenRow := PySem.W.OpenLaw.row PySem.Challenge.rw_graphtwins_k43_channels
abbrev hk : PySem.W.Hook := GT.hookS 5 fa fn [] tf exB
def ob (s : PySem.W.SharedT) : He.AlX := GT.obsS 5 fa fn [] tf exB (HandSHeadRun.getT s)
theorem ob_eq (s : PySem.W.SharedT) : ob s = hk.obs s.abs := GT.obsS_eq (HandSHeadRun.getT_eq s)
def loose0 : List PySem.Str := ["GraphtwinsError", "CodeError", "NothingThere", "Channel", "_law_cell", "_law_row", "_law_box", "_law_draw", "_law_same", "_law_octets", "_law_do", "_law_told", "_law_missing", "_law_due", "_law_deed"]
abbrev looseN : List PySem.Str := loose0
set_option maxHeartbeats 0 in
theorem run (w : World) : HandSHeadRun.RunEq R (PySem.W.view R.prog [18]) hk ob 3000 looseN w := by
  intro os
  kernel_rfl
theorem facts {P : Program} {w : World} {K : PySem.W.Frag} {h : Heap} {mg : Str → Option Value} {f : Addr} (X : K.In h) (G : h.Ns mainGlobals mg) (hfa : mg ("law" : Str) = some (.ref f)) (c : He.SaysX fa fn [] tf exB w h K) :
    ∃ fd : FuncData, (∀ (s : Shared) (v : Value), BindsTo s fd ⟨[v], []⟩ [("script", v)]) ∧ ∀ base : Heap, K.In base → base.Ns mainGlobals mg → GT.FnG P w K mg base CX0 lv_law f fd ["script"] (spLaw K) := by
  obtain ⟨fd_CodeError_init, F_CodeError_init⟩ := c.t.d.def_ 0 (d := d_CodeError_init) rfl
  obtain ⟨fd_NothingThere_init, F_NothingThere_init⟩ := c.t.d.def_ 1 (d := d_NothingThere_init) rfl
  obtain ⟨fd_Channel_init, F_Channel_init⟩ := c.t.d.def_ 2 (d := d_Channel_init) rfl
  obtain ⟨fd_Channel_put, F_Channel_put⟩ := c.t.d.def_ 3 (d := d_Channel_put) rfl
  obtain ⟨fd_Channel_lose, F_Channel_lose⟩ := c.t.d.def_ 4 (d := d_Channel_lose) rfl
  obtain ⟨fd_Channel_double, F_Channel_double⟩ := c.t.d.def_ 5 (d := d_Channel_double) rfl
  obtain ⟨fd_Channel_exchange, F_Channel_exchange⟩ := c.t.d.def_ 6 (d := d_Channel_exchange) rfl
  obtain ⟨fd_Channel_damage, F_Channel_damage⟩ := c.t.d.def_ 7 (d := d_Channel_damage) rfl
  obtain ⟨fd_Channel_cut, F_Channel_cut⟩ := c.t.d.def_ 8 (d := d_Channel_cut) rfl
  obtain ⟨fd_Channel_take, F_Channel_take⟩ := c.t.d.def_ 9 (d := d_Channel_take) rfl
  obtain ⟨fd_Channel_check_there, F_Channel_check_there⟩ := c.t.d.def_ 10 (d := d_Channel_check_there) rfl
  have D_law_cell : Df K mg d_law_cell := by obtain ⟨fd, F⟩ := c.t.d.def_ 11 (d := d_law_cell) rfl; exact ⟨_, fd, F, He.glo_ok X G (c.t.d.fact 0 (f := .glo "_law_cell") rfl)⟩
  have D_law_row : Df K mg d_law_row := by obtain ⟨fd, F⟩ := c.t.d.def_ 12 (d := d_law_row) rfl; exact ⟨_, fd, F, He.glo_ok X G (c.t.d.fact 1 (f := .glo "_law_row") rfl)⟩
  have D_law_box : Df K mg d_law_box := by obtain ⟨fd, F⟩ := c.t.d.def_ 13 (d := d_law_box) rfl; exact ⟨_, fd, F, He.glo_ok X G (c.t.d.fact 2 (f := .glo "_law_box") rfl)⟩
  have D_law_draw : Df K mg d_law_draw := by obtain ⟨fd, F⟩ := c.t.d.def_ 14 (d := d_law_draw) rfl; exact ⟨_, fd, F, He.glo_ok X G (c.t.d.fact 3 (f := .glo "_law_draw") rfl)⟩
  have D_law_same : Df K mg d_law_same := by obtain ⟨fd, F⟩ := c.t.d.def_ 15 (d := d_law_same) rfl; exact ⟨_, fd, F, He.glo_ok X G (c.t.d.fact 4 (f := .glo "_law_same") rfl)⟩
  have D_law_octets : Df K mg d_law_octets := by obtain ⟨fd, F⟩ := c.t.d.def_ 16 (d := d_law_octets) rfl; exact ⟨_, fd, F, He.glo_ok X G (c.t.d.fact 5 (f := .glo "_law_octets") rfl)⟩
  have D_law_do : Df K mg d_law_do := by obtain ⟨fd, F⟩ := c.t.d.def_ 17 (d := d_law_do) rfl; exact ⟨_, fd, F, He.glo_ok X G (c.t.d.fact 6 (f := .glo "_law_do") rfl)⟩
  have D_law_told : Df K mg d_law_told := by obtain ⟨fd, F⟩ := c.t.d.def_ 18 (d := d_law_told) rfl; exact ⟨_, fd, F, He.glo_ok X G (c.t.d.fact 7 (f := .glo "_law_told") rfl)⟩
  have D_law_missing : Df K mg d_law_missing := by obtain ⟨fd, F⟩ := c.t.d.def_ 19 (d := d_law_missing) rfl; exact ⟨_, fd, F, He.glo_ok X G (c.t.d.fact 8 (f := .glo "_law_missing") rfl)⟩
  have D_law_due : Df K mg d_law_due := by obtain ⟨fd, F⟩ := c.t.d.def_ 20 (d := d_law_due) rfl; exact ⟨_, fd, F, He.glo_ok X G (c.t.d.fact 9 (f := .glo "_law_due") rfl)⟩
  have D_law_deed : Df K mg d_law_deed := by obtain ⟨fd, F⟩ := c.t.d.def_ 21 (d := d_law_deed) rfl; exact ⟨_, fd, F, He.glo_ok X G (c.t.d.fact 10 (f := .glo "_law_deed") rfl)⟩
  have D_law : Df K mg d_law := by obtain ⟨fd, F⟩ := c.t.d.def_ 22 (d := d_law) rfl; exact ⟨_, fd, F, He.glo_ok X G (c.t.d.fact 11 (f := .glo "law") rfl)⟩
  have B : Blt mg := ⟨He.free_ok X G (c.t.d.fact 12 (f := .free "len") rfl), He.free_ok X G (c.t.d.fact 13 (f := .free "int") rfl), He.free_ok X G (c.t.d.fact 14 (f := .free "range") rfl), He.free_ok X G (c.t.d.fact 15 (f := .free "isinstance") rfl), He.free_ok X G (c.t.d.fact 16 (f := .free "sorted") rfl), He.free_ok X G (c.t.d.fact 17 (f := .free "list") rfl), He.free_ok X G (c.t.d.fact 18 (f := .free "tuple") rfl), He.free_ok X G (c.t.d.fact 19 (f := .free "dict") rfl), He.free_ok X G (c.t.d.fact 20 (f := .free "str") rfl), He.free_ok X G (c.t.d.fact 21 (f := .free "bool") rfl), He.free_ok X G (c.t.d.fact 22 (f := .free "max") rfl), He.free_ok X G (c.t.d.fact 23 (f := .free "min") rfl), He.free_ok X G (c.t.d.fact 24 (f := .free "all") rfl), He.free_ok X G (c.t.d.fact 25 (f := .free "any") rfl), He.free_ok X G (c.t.d.fact 26 (f := .free "sum") rfl), He.free_ok X G (c.t.d.fact 27 (f := .free "ord") rfl), He.free_ok X G (c.t.d.fact 28 (f := .free "enumerate") rfl)⟩
  have B_repr := He.free_ok X G (c.t.d.fact 29 (f := .free "repr") rfl)
  have B_ValueError := He.free_ok X G (c.t.d.fact 30 (f := .free "ValueError") rfl)
  have G_GraphtwinsError := He.glo_ok X G (c.t.d.fact 31 (f := .glo "GraphtwinsError") rfl)
  have G_CodeError := He.glo_ok X G (c.t.d.fact 32 (f := .glo "CodeError") rfl)
  have G_NothingThere := He.glo_ok X G (c.t.d.fact 33 (f := .glo "NothingThere") rfl)
  have G_Channel := He.glo_ok X G (c.t.d.fact 34 (f := .glo "Channel") rfl)
  have CLS_Channel := He.cls_ok (c.t.d.fact 35 (f := .cls "Channel") rfl)
  have NOAT_Channel_under_way := He.noat_ok (c.t.d.fact 36 (f := .noat "Channel" "under_way") rfl)
  have MKR_Channel := He.mkr_ok (c.t.d.fact 37 (f := .mkr "Channel") rfl)
  have METH_Channel_put := He.meth_ok (c.t.d.fact 38 (f := .meth "Channel" "put") rfl)
  have METH_Channel_lose := He.meth_ok (c.t.d.fact 39 (f := .meth "Channel" "lose") rfl)
  have METH_Channel_double := He.meth_ok (c.t.d.fact 40 (f := .meth "Channel" "double") rfl)
  have METH_Channel_exchange := He.meth_ok (c.t.d.fact 41 (f := .meth "Channel" "exchange") rfl)
  have METH_Channel_damage := He.meth_ok (c.t.d.fact 42 (f := .meth "Channel" "damage") rfl)
  have METH_Channel_cut := He.meth_ok (c.t.d.fact 43 (f := .meth "Channel" "cut") rfl)
  have METH_Channel_take := He.meth_ok (c.t.d.fact 44 (f := .meth "Channel" "take") rfl)
  have METH_Channel__check_there := He.meth_ok (c.t.d.fact 45 (f := .meth "Channel" "_check_there") rfl)
  have EX := c.more
  obtain ⟨fd, F⟩ := c.t.d.def_ 22 (d := d_law) rfl
  obtain ⟨_, _, _, gl⟩ := D_law
  have e : f = He.ga K "law" := by
    have h1 := hfa.symm.trans (He.glo_ok X G (c.t.d.fact 11 (f := .glo "law") rfl))
    injection h1 with h1
    injection h1
  subst e
  have ex : exK K = true := EX
  unfold exK at ex
  simp only [Bool.and_eq_true, decide_eq_true_eq] at ex
  obtain ⟨x1, x2, x3, x4, x5, x6, x7, x8, x9⟩ := ex
  have T := errB_ok x1
  have BC := basB_ok x3
  have DE : Dfe K (He.ga K "NothingThere") d_NothingThere_init := ⟨_, fd_NothingThere_init, F_NothingThere_init, x8, x9⟩
  have S : ChC K (He.ga K "Channel") := ⟨CLS_Channel, NOAT_Channel_under_way⟩
  have M_put : Dfm K (He.ga K "Channel") d_Channel_put := ⟨_, fd_Channel_put, F_Channel_put, METH_Channel_put⟩
  have M_check : Dfm K (He.ga K "Channel") d_Channel_check_there := ⟨_, fd_Channel_check_there, F_Channel_check_there, METH_Channel__check_there⟩
  have M_lose : Dfm K (He.ga K "Channel") d_Channel_lose := ⟨_, fd_Channel_lose, F_Channel_lose, METH_Channel_lose⟩
  have M_double : Dfm K (He.ga K "Channel") d_Channel_double := ⟨_, fd_Channel_double, F_Channel_double, METH_Channel_double⟩
  have M_exchange : Dfm K (He.ga K "Channel") d_Channel_exchange := ⟨_, fd_Channel_exchange, F_Channel_exchange, METH_Channel_exchange⟩
  have M_damage : Dfm K (He.ga K "Channel") d_Channel_damage := ⟨_, fd_Channel_damage, F_Channel_damage, METH_Channel_damage⟩
  have M_cut : Dfm K (He.ga K "Channel") d_Channel_cut := ⟨_, fd_Channel_cut, F_Channel_cut, METH_Channel_cut⟩
  have M_take : Dfm K (He.ga K "Channel") d_Channel_take := ⟨_, fd_Channel_take, F_Channel_take, METH_Channel_take⟩
  have DI : Dfi K mg (He.ga K "Channel") "Channel" d_Channel_init := ⟨_, fd_Channel_init, F_Channel_init, MKR_Channel, G_Channel⟩
  refine ⟨fd, fun s v => F.bindsA (ps := ["script"]) (fun _ _ _ _ _ _ us hl => match us, hl with | [_], _ => rfl) s [v] rfl, fun base _ _ => ?_⟩
  have EN := err_NothingThere (P := P) (w := w) (base := base) DE T x2 G_NothingThere G_GraphtwinsError BC
  have C1 := cal_cell (P := P) (w := w) (base := base) D_law_cell B
  have C2 := cal_row (P := P) (w := w) (base := base) D_law_row B
  have C3 := cal_box D_law_box B C1 C2
  have C4 := cal_draw (P := P) (w := w) (base := base) D_law_draw B
  have m0 := mth_Channel_put (P := P) (w := w) (mg := mg) (base := base) M_put B S
  have m1 := mth_Channel_check_there M_check B S EN
  have m2 := mth_Channel_lose M_lose CLS_Channel S m1
  have m3 := mth_Channel_double M_double CLS_Channel S m1 m0
  have m4 := mth_Channel_exchange M_exchange CLS_Channel S m1
  have m5 := mth_Channel_damage M_damage B CLS_Channel S m1
  have m6 := mth_Channel_cut M_cut CLS_Channel S m1
  have m7 := mth_Channel_take M_take CLS_Channel S m1
  have i0 := mki_Channel_init (P := P) (w := w) (base := base) DI S
  have L1 := cal_law_do D_law_do CLS_Channel m2 m3 m4 m5 m6 m7
  have L2 := cal_law_due (P := P) (w := w) (base := base) D_law_due B
  have L3 := cal_law_same (P := P) (w := w) (base := base) D_law_same B B_repr
  have L4 := cal_law_missing (P := P) (w := w) (base := base) D_law_missing B
  have L5 := cal_law_told D_law_told B B_ValueError G_GraphtwinsError G_NothingThere G_CodeError T x2 x4 x5 x6 x7 L1
  have L6 := cal_law_octets D_law_octets B C4
  have L7 := cal_law_deed D_law_deed B C4
  exact ok_law F B S CLS_Channel C3 C4 i0 m0 L6 L7 L4 L2 L5 L3
end GT
open PySem PySem.W PySem.Calls PyProof.Rows
set_option maxRecDepth 100000 in
set_option maxHeartbeats 0 in
theorem PySem.Challenge.cw_graphtwins_k43_channels_holds : PySem.Challenge.rw_graphtwins_k43_channels.Holds := by
  w_on; o_law
  refine HandSHeadRun.head_any (r := OpenLaw.row PySem.Challenge.rw_graphtwins_k43_channels) (q := view (OpenLaw.row PySem.Challenge.rw_graphtwins_k43_channels).prog [18]) (H := GT.hk) (ob := GT.ob) (M := 3000) (loose := GT.looseN) (d := HandSHeadRun.topDef (OpenLaw.row PySem.Challenge.rw_graphtwins_k43_channels).prog 18) (kwd := []) GT.ob_eq
    (by kernel_rfl) (fun s => by kernel_rfl) GT.run (by kernel_rfl) (by kernel_rfl) (by kernel_rfl) (by rfl) (by first | assumption | decide +kernel) (by decide +kernel) ⟨rfl, rfl, rfl, rfl, rfl, by decide +kernel⟩ ?hw ?hc
  case hw => w_witness2
  case hc =>
    refine GT.walk_ofG (l := PySem.Challenge.rw_graphtwins_k43_channels) (n := 63) (k := GT.lv_law) (x := "script") rfl (by decide) (by kernel_rfl) ⟨rfl, by decide, by decide⟩ ?F
    intro w mg fa h Y G hmg0
    obtain ⟨K, KX, c⟩ := Y
    have hmg : mg ("law" : PySem.Str) = some (.ref fa) := by
      have e : (HandSHeadRun.topDef (OpenLaw.row PySem.Challenge.rw_graphtwins_k43_channels).prog 18).name = ("law" : PySem.Str) := by kernel_rfl
      rw [← e]
      exact hmg0
    obtain ⟨fd, hb, hF⟩ := GT.facts (P := (PySem.Challenge.rw_graphtwins_k43_channels).prog) (w := w) KX G hmg c
    exact ⟨K, fd, GT.spLaw K, KX, hb, fun H a ns hl _ hS => ⟨a, ns, rfl, hS, fun _ => rfl⟩, hF⟩


