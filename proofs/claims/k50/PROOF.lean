import PyProof.Rows.All
import Wide.All
import OpenK.AllK
import Wide.FinOn
import HandS.ForMost
import HandS.Exc
import HandS.IsInst
import HandS.Style
import HandS.Flow
import HandS.Defaults
import HandS.Head0
import HandS.Head1
import HandS.Head2
import HandS.HeadEnd
import HandS.HeadHook1
import HandS.HeadHook2
import HandS.HeadHook3
import HandS.HeadHook4
import HandS.Codes
import HandS.SortKw
import HandS.ExcInit
import HandS.FStr
import HandS.Walk
import KE.KDictKeyed
import KE.KeyNested
import KE.SortData
import KE.SortKeyHeap
import KE.KDictWalk
import KE.DataCmp
import KE.DataMinMax
import HandS.Lambda
import HandS.EndTab
import HandS.HeadWalk
import HandS.DictComp
import HandS.DictEq
import HandS.TupLen
import HandS.Replace
import KE.KDictCopyH
import KE.KDictSum
import HandS.SetFor
import HandS.Strs
import HandS.Conv
import HandS.Text
import HandS.FStr
import HandS.ExcField
import HandS.ExcIs
import HandS.ExcOwn
import HandS.WordsExc
import HandS.TryOnly
import KE.DataFind
import HandS.Rev
import HandS.TupSets
import HandS.Codes
import PySem.Challenge.RW_graphtwins_k50_watches
set_option Elab.async false
set_option linter.all false
set_option maxRecDepth 100000
set_option maxHeartbeats 4000000
/-! ## errors of the program's own: classes over ValueError with an __init__ that calls the base's -/
namespace GT
open PySem PySem.Spec PyProof.Rows L2
/-- what the written part must say of such a class -/
def oexB (K : PySem.W.Frag) (C : Addr) : Bool := match K.lookup C with
  | some ⟨.type "type", _, .cls cd, sl⟩ => (match cd.mro, sl.toList with
    | .ref C' :: bm, [_, _, _, _, some (.builtin n), _] => C' == C && (n == "ValueError.__new__" && (!cd.hasDel && (cd.hasDict && HandSPX.refsVE bm)))
    | _, _ => false)
  | _ => false
theorem oexB_ok {K : PySem.W.Frag} {C : Addr} (q : oexB K C = true) : ∃ nm q N bs bm sn sub ab col dd k0 k1 k2 k3 k5, K.lookup C = some (excClassObj nm q C N bs bm true sn sub ab col dd k0 k1 k2 k3 k5 "ValueError.__new__") ∧ HandSPX.refsVE bm = true := by
  unfold oexB at q
  split at q
  · rename_i dd cd sl ho
    split at q
    · rename_i C' bm k0 k1 k2 k3 n k5 hm hs
      simp only [Bool.and_eq_true, beq_iff_eq, Bool.not_eq_true'] at q
      obtain ⟨rfl, rfl, h1, h2, h3⟩ := q
      obtain ⟨nm, bs, mro, ns, qn, hd, sn, sub, ab, col, del⟩ := cd
      dsimp only at hm h1 h2
      subst hm h1 h2
      have hsl : sl = #[k0, k1, k2, k3, some (.builtin "ValueError.__new__"), k5] := by
        obtain ⟨l⟩ := sl
        simp only at hs
        rw [hs]
      subst hsl
      exact ⟨nm, qn, ns, bs, bm, sn, sub, ab, col, dd, k0, k1, k2, k3, k5, ho, h3⟩
    · cases q
  · cases q
/-- all that is asked of an error's class C: made, its fields written and read, isinstance -/
structure ErrC (K : PySem.W.Frag) (C : Addr) : Prop where
  ox : OexC K C
  xf : XfC K C
  is_ : ExcC K C
def errB (K : PySem.W.Frag) (C : Addr) : Bool :=
  oexB K C && (decide (PySem.W.findIn K (.ref C) "__setattr__" = some (some (.builtin "object.__setattr__"))) && (decide (PySem.W.subIn K (.ref C) (.type "BaseException") = some true) && (decide (PySem.W.typeIn K (.ref C) = some (.type "type")) &&
    (PySem.W.keepIn K (.ref C) && (xfB K C && (decide (PySem.W.findIn K (.ref C) "__class__" = some (some (.builtin "object.__class__"))) && (decide (PySem.W.specialIn K (.builtin "object.__class__") "__get__" = some (some (.builtin "getset_descriptor.__get__"))) &&
      (decide (PySem.W.takesIn K (.builtin "object.__class__") = some true) && decide (PySem.W.mroIn K C (.type "object") = some true)))))))))
theorem errB_ok {K : PySem.W.Frag} {C : Addr} (q : errB K C = true) : ErrC K C := by
  unfold errB at q
  simp only [Bool.and_eq_true, decide_eq_true_eq] at q
  obtain ⟨h1, h2, h3, h4, h5, h6, h7, h8, h9, h10⟩ := q
  have x := xfB_ok h6
  exact ⟨⟨oexB_ok h1, h2, h3, h4, h5⟩, x, ⟨x.ga, x.gg, h3, x.hdC, h7, h8, h9, h10⟩⟩
/-- the class B whose __init__ is ValueError's -/
structure BasC (K : PySem.W.Frag) (B : Addr) : Prop where
  ga : PySem.W.specialIn K (.ref B) "__getattribute__" = some (some (.builtin "type.__getattribute__"))
  ty : PySem.W.typeIn K (.ref B) = some (.type "type")
  rd : PySem.W.readsIn K B (.type "type") = true
  vi : PySem.W.findCls K (.ref B) (.type "type") "__init__" = some (.val (.builtin "ValueError.__init__"))
def isVal (v : Value) : Option PySem.W.CFound → Bool
  | some (.val x) => x == v
  | _ => false
theorem isVal_ok {v : Value} {o : Option PySem.W.CFound} (h : isVal v o = true) : o = some (.val v) := by
  cases o with
  | none => cases h
  | some f =>
    cases f with
    | val x => rw [show x = v from beq_iff_eq.mp h]
    | get g a o t => cases h
def basB (K : PySem.W.Frag) (B : Addr) : Bool :=
  decide (PySem.W.specialIn K (.ref B) "__getattribute__" = some (some (.builtin "type.__getattribute__"))) && (decide (PySem.W.typeIn K (.ref B) = some (.type "type")) && (PySem.W.readsIn K B (.type "type") &&
    isVal (.builtin "ValueError.__init__") (PySem.W.findCls K (.ref B) (.type "type") "__init__")))
theorem basB_ok {K : PySem.W.Frag} {B : Addr} (q : basB K B = true) : BasC K B := by
  unfold basB at q
  simp only [Bool.and_eq_true, decide_eq_true_eq] at q
  exact ⟨q.1, q.2.1, q.2.2.1, isVal_ok q.2.2.2⟩
end GT

/-! ## the head's look, with the table of the interpreter's statics -/
namespace GT
open PySem PySem.Spec PyProof.Rows L2 He
def asS (g : Addr → Option Obj) (n : Nat) : List Addr := He.asD g n ++ [cStatics]
def obsS (n : Nat) (fa : List Fa) (fn : List DefD) (ts : List He.Tab) (tf : List Defn) (ex : PySem.W.Frag → Bool) (g : Addr → Option Obj) : AlX := (obsT fa fn ts (frT g (asS g n)), ex (frT g (asS g n)) && tabsB g tf (frT g (asS g n)))
theorem saysS_of {n : Nat} {fa : List Fa} {fn : List DefD} {ts : List He.Tab} {tf : List Defn} {ex : PySem.W.Frag → Bool} {w : World} {h : Heap} (e : obsS n fa fn ts tf ex h.get? = valX fn ts w) : SaysX fa fn ts tf ex w h (frT h.get? (asS h.get? n)) := by
  have e1 : obsT fa fn ts (frT h.get? (asS h.get? n)) = valT fn ts w := congrArg Prod.fst e
  have e2 : (ex (frT h.get? (asS h.get? n)) && tabsB h.get? tf (frT h.get? (asS h.get? n))) = true := congrArg Prod.snd e
  generalize hK : frT h.get? (asS h.get? n) = K at e1 e2 ⊢
  obtain ⟨h1, h2⟩ := ba e2
  have tab : ∀ p ∈ tf, PySem.W.codeHdIn K (cT K p).1 (cT K p).2 = true ∧ ∃ o, h.get? (cT K p).2 = some o ∧ emptyTab o = true := fun p hp => by
    obtain ⟨h3, h4⟩ := ba (List.all_eq_true.mp h2 p hp)
    refine ⟨h3, ?_⟩
    cases q : h.get? (cT K p).2 with
    | some o => rw [q] at h4; exact ⟨o, rfl, h4⟩
    | none => rw [q] at h4; cases h4
  refine ⟨e1, h1, fun p hp => (tab p hp).1, fun p hp => ?_, fun p hp => ?_⟩
  · obtain ⟨_, o, q, z⟩ := tab p hp
    have := frT_none (as := asS h.get? n) q z
    rw [hK] at this
    exact this
  · obtain ⟨_, o, q, z⟩ := tab p hp
    rw [q, emptyTab_eq z]
def hookS (n : Nat) (fa : List Fa) (fn : List DefD) (ts : List He.Tab) (tf : List Defn) (ex : PySem.W.Frag → Bool) : PySem.W.Hook where
  α := AlX
  obs := fun s => obsS n fa fn ts tf ex s.heap.get?
  val := fun w => valX fn ts w
  says := fun w h => ∃ K : PySem.W.Frag, K.In h ∧ SaysX fa fn ts tf ex w h K
  of := fun _ _ e => ⟨_, frT_in, saysS_of e⟩
  keeps := fun _ _ _ ⟨K, hK, c⟩ k => ⟨K, PySem.W.Frag.In.keeps hK k, ⟨c.t, c.more, c.hd, c.out, fun p hp => k _ _ (c.empty p hp)⟩⟩
theorem obsS_eq {n : Nat} {fa : List Fa} {fn : List DefD} {ts : List He.Tab} {tf : List Defn} {ex : PySem.W.Frag → Bool} {g : Addr → Option Obj} {s : Shared} (h : ∀ a, g a = s.heap.get? a) : obsS n fa fn ts tf ex g = (hookS n fa fn ts tf ex).obs s := by
  have e : g = s.heap.get? := funext h
  rw [e] <;> rfl
end GT

namespace GT
open PySem PySem.Spec PyProof.Rows L2
/-! ### the text -/
def topS (i : Nat) : Stmt := PySem.Challenge.pw_graphtwins_k50_watches.main.body.getD i (.Pass ⟨0, 0, 0, 0⟩)
abbrev s_reference : Stmt := topS 3
theorem sc_reference : FnScope ["name"] ["name"] (defScope s_reference) := ⟨rfl, rfl, rfl, by decide +kernel, rfl, by decide +kernel, by decide +kernel⟩
def d_reference : He.DefD := ⟨("reference", none), "reference", "reference", defArgs s_reference, defBody s_reference, defScope s_reference, [], []⟩
abbrev s_linked_name : Stmt := topS 4
theorem sc_linked_name : FnScope ["value"] ["value"] (defScope s_linked_name) := ⟨rfl, rfl, rfl, by decide +kernel, rfl, by decide +kernel, by decide +kernel⟩
def d_linked_name : He.DefD := ⟨("linked_name", none), "linked_name", "linked_name", defArgs s_linked_name, defBody s_linked_name, defScope s_linked_name, [], []⟩
abbrev s_Watcher_init : Stmt := inClass (topS 6) 0
theorem sc_Watcher_init : FnScope ["self", "state"] ["self", "state"] (defScope s_Watcher_init) := ⟨rfl, rfl, rfl, by decide +kernel, rfl, by decide +kernel, by decide +kernel⟩
def d_Watcher_init : He.DefD := ⟨("Watcher", some "__init__"), "__init__", "Watcher.__init__", defArgs s_Watcher_init, defBody s_Watcher_init, defScope s_Watcher_init, [], []⟩
abbrev s_Watcher_watch : Stmt := inClass (topS 6) 1
theorem sc_Watcher_watch : FnScope ["self", "path", "value"] ["self", "path"] (defScope s_Watcher_watch) := ⟨rfl, rfl, rfl, by decide +kernel, rfl, by decide +kernel, by decide +kernel⟩
def d_Watcher_watch : He.DefD := ⟨("Watcher", some "watch"), "watch", "Watcher.watch", defArgs s_Watcher_watch, defBody s_Watcher_watch, defScope s_Watcher_watch, [], []⟩
abbrev s_Watcher_news : Stmt := inClass (topS 6) 2
theorem sc_Watcher_news : FnScope ["self", "state", "values", "news", "path", "value", "new_value"] ["self", "state"] (defScope s_Watcher_news) := ⟨rfl, rfl, rfl, by decide +kernel, rfl, by decide +kernel, by decide +kernel⟩
def d_Watcher_news : He.DefD := ⟨("Watcher", some "news"), "news", "Watcher.news", defArgs s_Watcher_news, defBody s_Watcher_news, defScope s_Watcher_news, [], []⟩
abbrev s_Watcher_touched : Stmt := inClass (topS 6) 3
theorem sc_Watcher_touched : FnScope ["self", "changes", "cells", "_", "name", "field", "at", "path", "cell"] ["self", "changes"] (defScope s_Watcher_touched) := ⟨rfl, rfl, rfl, by decide +kernel, rfl, by decide +kernel, by decide +kernel⟩
def d_Watcher_touched : He.DefD := ⟨("Watcher", some "touched"), "touched", "Watcher.touched", defArgs s_Watcher_touched, defBody s_Watcher_touched, defScope s_Watcher_touched, [], []⟩
abbrev s_follow : Stmt := topS 7
theorem sc_follow : FnScope ["state", "path", "values", "field", "name"] ["state", "path"] (defScope s_follow) := ⟨rfl, rfl, rfl, by decide +kernel, rfl, by decide +kernel, by decide +kernel⟩
def d_follow : He.DefD := ⟨("follow", none), "follow", "follow", defArgs s_follow, defBody s_follow, defScope s_follow, [], []⟩
abbrev s_value_at : Stmt := topS 8
theorem sc_value_at : FnScope ["state", "path", "values"] ["state", "path"] (defScope s_value_at) := ⟨rfl, rfl, rfl, by decide +kernel, rfl, by decide +kernel, by decide +kernel⟩
def d_value_at : He.DefD := ⟨("value_at", none), "value_at", "value_at", defArgs s_value_at, defBody s_value_at, defScope s_value_at, [], []⟩
abbrev s_cells_of : Stmt := topS 9
theorem sc_cells_of : FnScope ["state", "path", "names", "value", "name", "field"] ["state", "path"] (defScope s_cells_of) := ⟨rfl, rfl, rfl, by decide +kernel, rfl, by decide +kernel, by decide +kernel⟩
def d_cells_of : He.DefD := ⟨("cells_of", none), "cells_of", "cells_of", defArgs s_cells_of, defBody s_cells_of, defScope s_cells_of, [], []⟩
abbrev s_is_later : Stmt := topS 11
theorem sc_is_later : FnScope ["stamp", "other"] ["stamp", "other"] (defScope s_is_later) := ⟨rfl, rfl, rfl, by decide +kernel, rfl, by decide +kernel, by decide +kernel⟩
def d_is_later : He.DefD := ⟨("is_later", none), "is_later", "is_later", defArgs s_is_later, defBody s_is_later, defScope s_is_later, [], []⟩
abbrev s_sorted_changes : Stmt := topS 12
theorem sc_sorted_changes : FnScope ["changes", "once", "change"] ["changes"] (defScope s_sorted_changes) := ⟨rfl, rfl, rfl, by decide +kernel, rfl, by decide +kernel, by decide +kernel⟩
def d_sorted_changes : He.DefD := ⟨("sorted_changes", none), "sorted_changes", "sorted_changes", defArgs s_sorted_changes, defBody s_sorted_changes, defScope s_sorted_changes, [], []⟩
abbrev s_State_init : Stmt := inClass (topS 14) 0
theorem sc_State_init : FnScope ["self"] ["self"] (defScope s_State_init) := ⟨rfl, rfl, rfl, by decide +kernel, rfl, by decide +kernel, by decide +kernel⟩
def d_State_init : He.DefD := ⟨("State", some "__init__"), "__init__", "State.__init__", defArgs s_State_init, defBody s_State_init, defScope s_State_init, [], []⟩
abbrev s_State_take : Stmt := inClass (topS 14) 1
theorem sc_State_take : FnScope ["self", "change", "stamp", "name", "field", "value"] ["self", "change"] (defScope s_State_take) := ⟨rfl, rfl, rfl, by decide +kernel, rfl, by decide +kernel, by decide +kernel⟩
def d_State_take : He.DefD := ⟨("State", some "take"), "take", "State.take", defArgs s_State_take, defBody s_State_take, defScope s_State_take, [], []⟩
abbrev s_State_value : Stmt := inClass (topS 14) 2
theorem sc_State_value : FnScope ["self", "name", "field"] ["self", "name", "field"] (defScope s_State_value) := ⟨rfl, rfl, rfl, by decide +kernel, rfl, by decide +kernel, by decide +kernel⟩
def d_State_value : He.DefD := ⟨("State", some "value"), "value", "State.value", defArgs s_State_value, defBody s_State_value, defScope s_State_value, [], []⟩
abbrev s_State_stamp : Stmt := inClass (topS 14) 3
theorem sc_State_stamp : FnScope ["self", "name", "field"] ["self", "name", "field"] (defScope s_State_stamp) := ⟨rfl, rfl, rfl, by decide +kernel, rfl, by decide +kernel, by decide +kernel⟩
def d_State_stamp : He.DefD := ⟨("State", some "stamp"), "stamp", "State.stamp", defArgs s_State_stamp, defBody s_State_stamp, defScope s_State_stamp, [], []⟩
abbrev s_State_fields : Stmt := inClass (topS 14) 4
theorem sc_State_fields : FnScope ["self", "name", "fields", "values", "field", "value", "cell"] ["self", "name"] (defScope s_State_fields) := ⟨rfl, rfl, rfl, by decide +kernel, rfl, by decide +kernel, by decide +kernel⟩
def d_State_fields : He.DefD := ⟨("State", some "fields"), "fields", "State.fields", defArgs s_State_fields, defBody s_State_fields, defScope s_State_fields, [], []⟩
abbrev s_State_names : Stmt := inClass (topS 14) 5
theorem sc_State_names : FnScope ["self", "mentioned", "name", "_", "value", "target"] ["self"] (defScope s_State_names) := ⟨rfl, rfl, rfl, by decide +kernel, rfl, by decide +kernel, by decide +kernel⟩
def d_State_names : He.DefD := ⟨("State", some "names"), "names", "State.names", defArgs s_State_names, defBody s_State_names, defScope s_State_names, [], []⟩
abbrev s_State_changes : Stmt := inClass (topS 14) 6
theorem sc_State_changes : FnScope ["self", "name", "field", "stamp", "value"] ["self"] (defScope s_State_changes) := ⟨rfl, rfl, rfl, by decide +kernel, rfl, by decide +kernel, by decide +kernel⟩
def d_State_changes : He.DefD := ⟨("State", some "changes"), "changes", "State.changes", defArgs s_State_changes, defBody s_State_changes, defScope s_State_changes, [], []⟩
abbrev s_law_cell : Stmt := topS 16
theorem sc_law_cell : FnScope ["script", "k"] ["script", "k"] (defScope s_law_cell) := ⟨rfl, rfl, rfl, by decide +kernel, rfl, by decide +kernel, by decide +kernel⟩
def d_law_cell : He.DefD := ⟨("_law_cell", none), "_law_cell", "_law_cell", defArgs s_law_cell, defBody s_law_cell, defScope s_law_cell, [], []⟩
abbrev s_law_row : Stmt := topS 17
theorem sc_law_row : FnScope ["cell", "k", "many", "row", "turn", "seed"] ["cell", "k", "many"] (defScope s_law_row) := ⟨rfl, rfl, rfl, by decide +kernel, rfl, by decide +kernel, by decide +kernel⟩
def d_law_row : He.DefD := ⟨("_law_row", none), "_law_row", "_law_row", defArgs s_law_row, defBody s_law_row, defScope s_law_row, [], []⟩
abbrev s_law_box : Stmt := topS 18
theorem sc_law_box : FnScope ["script", "first", "last", "row", "k"] ["script", "first", "last"] (defScope s_law_box) := ⟨rfl, rfl, rfl, by decide +kernel, rfl, by decide +kernel, by decide +kernel⟩
def d_law_box : He.DefD := ⟨("_law_box", none), "_law_box", "_law_box", defArgs s_law_box, defBody s_law_box, defScope s_law_box, [], []⟩
abbrev s_law_draw : Stmt := topS 19
theorem sc_law_draw : FnScope ["box", "many", "at"] ["box", "many"] (defScope s_law_draw) := ⟨rfl, rfl, rfl, by decide +kernel, rfl, by decide +kernel, by decide +kernel⟩
def d_law_draw : He.DefD := ⟨("_law_draw", none), "_law_draw", "_law_draw", defArgs s_law_draw, defBody s_law_draw, defScope s_law_draw, [], []⟩
abbrev s_law_same : Stmt := topS 20
theorem sc_law_same : FnScope ["one", "other"] ["one", "other"] (defScope s_law_same) := ⟨rfl, rfl, rfl, by decide +kernel, rfl, by decide +kernel, by decide +kernel⟩
def d_law_same : He.DefD := ⟨("_law_same", none), "_law_same", "_law_same", defArgs s_law_same, defBody s_law_same, defScope s_law_same, [], []⟩
abbrev s_law_pick : Stmt := topS 21
theorem sc_law_pick : FnScope ["box", "row"] ["box", "row"] (defScope s_law_pick) := ⟨rfl, rfl, rfl, by decide +kernel, rfl, by decide +kernel, by decide +kernel⟩
def d_law_pick : He.DefD := ⟨("_law_pick", none), "_law_pick", "_law_pick", defArgs s_law_pick, defBody s_law_pick, defScope s_law_pick, [], []⟩
abbrev s_law_target : Stmt := topS 22
theorem sc_law_target : FnScope ["value"] ["value"] (defScope s_law_target) := ⟨rfl, rfl, rfl, by decide +kernel, rfl, by decide +kernel, by decide +kernel⟩
def d_law_target : He.DefD := ⟨("_law_target", none), "_law_target", "_law_target", defArgs s_law_target, defBody s_law_target, defScope s_law_target, [], []⟩
abbrev s_law_worth : Stmt := topS 23
theorem sc_law_worth : FnScope ["box", "names", "kind"] ["box", "names"] (defScope s_law_worth) := ⟨rfl, rfl, rfl, by decide +kernel, rfl, by decide +kernel, by decide +kernel⟩
def d_law_worth : He.DefD := ⟨("_law_worth", none), "_law_worth", "_law_worth", defArgs s_law_worth, defBody s_law_worth, defScope s_law_worth, [], []⟩
abbrev s_law_cells : Stmt := topS 24
theorem sc_law_cells : FnScope ["changes", "cells", "change", "key"] ["changes"] (defScope s_law_cells) := ⟨rfl, rfl, rfl, by decide +kernel, rfl, by decide +kernel, by decide +kernel⟩
def d_law_cells : He.DefD := ⟨("_law_cells", none), "_law_cells", "_law_cells", defArgs s_law_cells, defBody s_law_cells, defScope s_law_cells, [], []⟩
abbrev s_law_state : Stmt := topS 25
theorem sc_law_state : FnScope ["changes", "state", "change"] ["changes"] (defScope s_law_state) := ⟨rfl, rfl, rfl, by decide +kernel, rfl, by decide +kernel, by decide +kernel⟩
def d_law_state : He.DefD := ⟨("_law_state", none), "_law_state", "_law_state", defArgs s_law_state, defBody s_law_state, defScope s_law_state, [], []⟩
abbrev s_law_walk : Stmt := topS 26
theorem sc_law_walk : FnScope ["cells", "path", "values", "asked", "field", "key", "value"] ["cells", "path"] (defScope s_law_walk) := ⟨rfl, rfl, rfl, by decide +kernel, rfl, by decide +kernel, by decide +kernel⟩
def d_law_walk : He.DefD := ⟨("_law_walk", none), "_law_walk", "_law_walk", defArgs s_law_walk, defBody s_law_walk, defScope s_law_walk, [], []⟩
abbrev s_law_once : Stmt := topS 27
theorem sc_law_once : FnScope ["rows", "found", "row"] ["rows"] (defScope s_law_once) := ⟨rfl, rfl, rfl, by decide +kernel, rfl, by decide +kernel, by decide +kernel⟩
def d_law_once : He.DefD := ⟨("_law_once", none), "_law_once", "_law_once", defArgs s_law_once, defBody s_law_once, defScope s_law_once, [], []⟩
abbrev s_law_paths : Stmt := topS 28
theorem sc_law_paths : FnScope ["box", "found", "turn", "path", "k"] ["box"] (defScope s_law_paths) := ⟨rfl, rfl, rfl, by decide +kernel, rfl, by decide +kernel, by decide +kernel⟩
def d_law_paths : He.DefD := ⟨("_law_paths", none), "_law_paths", "_law_paths", defArgs s_law_paths, defBody s_law_paths, defScope s_law_paths, [], []⟩
abbrev s_law_right : Stmt := topS 29
theorem sc_law_right : FnScope ["state", "cells", "paths", "path", "values", "asked", "value", "kept"] ["state", "cells", "paths"] (defScope s_law_right) := ⟨rfl, rfl, rfl, by decide +kernel, rfl, by decide +kernel, by decide +kernel⟩
def d_law_right : He.DefD := ⟨("_law_right", none), "_law_right", "_law_right", defArgs s_law_right, defBody s_law_right, defScope s_law_right, [], []⟩
abbrev s_law_local : Stmt := topS 30
theorem sc_law_local : FnScope ["state", "cells", "later", "after", "paths", "path", "asked", "moved", "key"] ["state", "cells", "later", "after", "paths"] (defScope s_law_local) := ⟨rfl, rfl, rfl, by decide +kernel, rfl, by decide +kernel, by decide +kernel⟩
def d_law_local : He.DefD := ⟨("_law_local", none), "_law_local", "_law_local", defArgs s_law_local, defBody s_law_local, defScope s_law_local, [], []⟩
abbrev s_law_more : Stmt := topS 31
theorem sc_law_more : FnScope ["box", "clock", "names", "found", "turn", "value"] ["box", "clock"] (defScope s_law_more) := ⟨rfl, rfl, rfl, by decide +kernel, rfl, by decide +kernel, by decide +kernel⟩
def d_law_more : He.DefD := ⟨("_law_more", none), "_law_more", "_law_more", defArgs s_law_more, defBody s_law_more, defScope s_law_more, [], []⟩
abbrev s_law_news : Stmt := topS 32
theorem sc_law_news : FnScope ["paths", "told", "cells", "found", "k", "value"] ["paths", "told", "cells"] (defScope s_law_news) := ⟨rfl, rfl, rfl, by decide +kernel, rfl, by decide +kernel, by decide +kernel⟩
def d_law_news : He.DefD := ⟨("_law_news", none), "_law_news", "_law_news", defArgs s_law_news, defBody s_law_news, defScope s_law_news, [], []⟩
abbrev s_law_touched : Stmt := topS 33
theorem sc_law_touched : FnScope ["paths", "many", "cells", "changes", "keys", "found", "k", "change", "key"] ["paths", "many", "cells", "changes"] (defScope s_law_touched) := ⟨rfl, rfl, rfl, by decide +kernel, rfl, by decide +kernel, by decide +kernel⟩
def d_law_touched : He.DefD := ⟨("_law_touched", none), "_law_touched", "_law_touched", defArgs s_law_touched, defBody s_law_touched, defScope s_law_touched, [], []⟩
abbrev s_law : Stmt := topS 34
theorem sc_law : FnScope ["script", "box", "paths", "changes", "cells", "state", "watcher", "told", "step", "more", "path", "fresh", "later", "after"] ["script"] (defScope s_law) := ⟨rfl, rfl, rfl, by decide +kernel, rfl, by decide +kernel, by decide +kernel⟩
def d_law : He.DefD := ⟨("law", none), "law", "law", defArgs s_law, defBody s_law, defScope s_law, [], []⟩
abbrev lv_wall : Nat := 1
abbrev lv_reference : Nat := 1
abbrev lv_linked_name : Nat := 1
abbrev lv_Watcher_init : Nat := 1
abbrev lv_Watcher_watch : Nat := 4
abbrev lv_Watcher_news : Nat := 4
abbrev lv_Watcher_touched : Nat := 4
abbrev lv_follow : Nat := 2
abbrev lv_value_at : Nat := 3
abbrev lv_cells_of : Nat := 3
abbrev lv_is_later : Nat := 1
abbrev lv_sorted_changes : Nat := 3
abbrev lv_State_init : Nat := 1
abbrev lv_State_take : Nat := 2
abbrev lv_State_value : Nat := 1
abbrev lv_State_stamp : Nat := 1
abbrev lv_State_fields : Nat := 2
abbrev lv_State_names : Nat := 2
abbrev lv_State_changes : Nat := 4
abbrev lv_law_cell : Nat := 1
abbrev lv_law_row : Nat := 1
abbrev lv_law_box : Nat := 2
abbrev lv_law_draw : Nat := 1
abbrev lv_law_same : Nat := 1
abbrev lv_law_pick : Nat := 2
abbrev lv_law_target : Nat := 1
abbrev lv_law_worth : Nat := 3
abbrev lv_law_cells : Nat := 1
abbrev lv_law_state : Nat := 3
abbrev lv_law_walk : Nat := 2
abbrev lv_law_once : Nat := 1
abbrev lv_law_paths : Nat := 2
abbrev lv_law_right : Nat := 4
abbrev lv_law_local : Nat := 4
abbrev lv_law_more : Nat := 4
abbrev lv_law_news : Nat := 3
abbrev lv_law_touched : Nat := 3
abbrev lv_law : Nat := 5

/-! ### what the head tells -/
section
def exK (K : PySem.W.Frag) : Bool := He.tupB K "ROOT" [.int 0, .int 0]
end
/-! ### the head: facts by names, the run -/
def fn : List He.DefD := [d_reference, d_linked_name, d_Watcher_init, d_Watcher_watch, d_Watcher_news, d_Watcher_touched, d_follow, d_value_at, d_cells_of, d_is_later, d_sorted_changes, d_State_init, d_State_take, d_State_value, d_State_stamp, d_State_fields, d_State_names, d_State_changes, d_law_cell, d_law_row, d_law_box, d_law_draw, d_law_same, d_law_pick, d_law_target, d_law_worth, d_law_cells, d_law_state, d_law_walk, d_law_once, d_law_paths, d_law_right, d_law_local, d_law_more, d_law_news, d_law_touched, d_law]
def fa0 : List He.Fa := [.glo "reference", .glo "linked_name", .glo "follow", .glo "value_at", .glo "cells_of", .glo "is_later", .glo "sorted_changes", .glo "_law_cell", .glo "_law_row", .glo "_law_box", .glo "_law_draw", .glo "_law_same", .glo "_law_pick", .glo "_law_target", .glo "_law_worth", .glo "_law_cells", .glo "_law_state", .glo "_law_walk", .glo "_law_once", .glo "_law_paths", .glo "_law_right", .glo "_law_local", .glo "_law_more", .glo "_law_news", .glo "_law_touched", .glo "law", .free "len", .free "int", .free "range", .free "isinstance"]
def fa1 : List He.Fa := [.free "sorted", .free "list", .free "tuple", .free "dict", .free "str", .free "bool", .free "max", .free "min", .free "all", .free "any", .free "sum", .free "ord", .free "enumerate", .free "repr", .free "zip", .glo "Watcher", .cls "Watcher", .noat "Watcher" "state", .noat "Watcher" "paths", .noat "Watcher" "told", .mkr "Watcher", .meth "Watcher" "watch", .meth "Watcher" "news", .meth "Watcher" "touched", .glo "State", .cls "State", .noat "State" "cells", .mkr "State", .meth "State" "take", .meth "State" "value"]
def fa2 : List He.Fa := [.meth "State" "stamp", .meth "State" "fields", .meth "State" "names", .meth "State" "changes", .glo "ROOT"]
def fa : List He.Fa := fa0 ++ fa1 ++ fa2
def exB (K : PySem.W.Frag) : Bool := exK K
def tf : List He.Defn := []
abbrev R : PySem.W.OpenRow := PySem.W.OpenLaw.row PySem.Challenge.rw_graphtwins_k50_watches
abbrev hk : PySem.W.Hook := GT.hookS 5 fa fn [] tf exB
def ob (s : PySem.W.SharedT) : He.AlX := GT.obsS 5 fa fn [] tf exB (HandSHeadRun.getT s)
theorem ob_eq (s : PySem.W.SharedT) : ob s = hk.obs s.abs := GT.obsS_eq (HandSHeadRun.getT_eq s)
def loose0 : List PySem.Str := ["_wall", "ROOT", "reference", "linked_name", "Watcher", "follow", "value_at", "cells_of", "is_later", "sorted_changes", "State", "_law_cell", "_law_row", "_law_box", "_law_draw", "_law_same", "_law_pick", "_law_target", "_law_worth", "_law_cells", "_law_state", "_law_walk", "_law_once", "_law_paths", "_law_right", "_law_local", "_law_more", "_law_news", "_law_touched"]
abbrev looseN : List PySem.Str := loose0
set_option maxHeartbeats 0 in
theorem run (w : World) : HandSHeadRun.RunEq R (PySem.W.view R.prog [34]) hk ob 6000 looseN w := by
  intro os
  kernel_rfl

end GT
/-! ## Part A: heaps that grow, readings step by step (nothing of one law) -/
namespace GT
open PySem PySem.Spec PyProof.Rows L2
/-! ### what a step of a program may change: the objects in M; tuples never -/
structure Stp (M : List Addr) (H H' : Hp) : Prop where
  keep : ∀ c o, H c = some o → c ∉ M → H' c = some o
  tups : ∀ c xs, H c = some (.tup xs) → H' c = some (.tup xs)
  tbls : ∀ c ps, H' c = some (.tbl ps) → ∃ qs, H c = some (.tbl qs)
theorem Stp.refl {M : List Addr} (H : Hp) : Stp M H H := ⟨fun _ _ h _ => h, fun _ _ h => h, fun _ ps h => ⟨ps, h⟩⟩
theorem Stp.trans {M : List Addr} {H H1 H2 : Hp} (a : Stp M H H1) (b : Stp M H1 H2) : Stp M H H2 :=
  ⟨fun c o h n => b.keep c o (a.keep c o h n) n, fun c xs h => b.tups c xs (a.tups c xs h), fun c ps h => let ⟨qs, e⟩ := b.tbls c ps h; a.tbls c qs e⟩
theorem Stp.mono {M M' : List Addr} {H H1 : Hp} (a : Stp M H H1) (h : ∀ c ∈ M, c ∈ M') : Stp M' H H1 :=
  ⟨fun c o e n => a.keep c o e fun z => n (h c z), a.tups, a.tbls⟩
/-- a new object -/
theorem Stp.new {M : List Addr} {H : Hp} {p : Addr} {o : HO} (n : H p = none) (nb : ∀ ps, o ≠ .tbl ps := by exact fun _ z => nomatch z) : Stp M H (upd H p o) :=
  ⟨fun c u h _ => by rw [upd_ne (ne_of_none h n)]; exact h, fun c xs h => by rw [upd_ne (ne_of_none h n)]; exact h, fun c ps h => by
    by_cases e : c = p
    · rw [e, upd_same] at h; exact absurd (Option.some.inj h) (nb ps)
    · rw [upd_ne e] at h; exact ⟨ps, h⟩⟩
theorem Stp.add {M : List Addr} {H H1 : Hp} {p : Addr} {o : HO} (a : Stp M H H1) (n : H1 p = none) (nb : ∀ ps, o ≠ .tbl ps := by exact fun _ z => nomatch z) : Stp M H (upd H1 p o) := a.trans (.new n nb)
/-- an object of M is written -/
theorem Stp.wr {M : List Addr} {H : Hp} {p : Addr} {o u : HO} (hm : p ∈ M) (hu : H p = some u) (nt : ∀ xs, u ≠ .tup xs) (nb : ∀ ps, o ≠ .tbl ps := by exact fun _ z => nomatch z) : Stp M H (upd H p o) :=
  ⟨fun c v h n => by rw [upd_ne (fun z => n (by rw [z]; exact hm))]; exact h,
   fun c xs h => by rw [upd_ne (fun z => nt xs (by rw [z, hu] at h; exact Option.some.inj h))]; exact h, fun c ps h => by
    by_cases e : c = p
    · rw [e, upd_same] at h; exact absurd (Option.some.inj h) (nb ps)
    · rw [upd_ne e] at h; exact ⟨ps, h⟩⟩
theorem Stp.write {M : List Addr} {H H1 : Hp} {p : Addr} {o u : HO} (a : Stp M H H1) (hm : p ∈ M) (hu : H1 p = some u) (nt : ∀ xs, u ≠ .tup xs) (nb : ∀ ps, o ≠ .tbl ps := by exact fun _ z => nomatch z) : Stp M H (upd H1 p o) := a.trans (.wr hm hu nt nb)
/-- an object that was not yet there at H is written -/
theorem Stp.mut {M : List Addr} {H H1 : Hp} {p : Addr} {o : HO} (a : Stp M H H1) (n : H p = none) (nb : ∀ ps, o ≠ .tbl ps := by exact fun _ z => nomatch z) : Stp M H (upd H1 p o) :=
  ⟨fun c v h m => by rw [upd_ne (ne_of_none h n)]; exact a.keep c v h m, fun c xs h => by rw [upd_ne (ne_of_none h n)]; exact a.tups c xs h, fun c ps h => by
    by_cases e : c = p
    · rw [e, upd_same] at h; exact absurd (Option.some.inj h) (nb ps)
    · rw [upd_ne e] at h; exact a.tbls c ps h⟩
/-- what is free behind was free before -/
theorem Stp.free {M : List Addr} {H H1 : Hp} (a : Stp M H H1) {p : Addr} (n : H1 p = none) (hM : p ∉ M) : H p = none := by
  cases q : H p with
  | none => rfl
  | some o => rw [a.keep p o q hM] at n; cases n
theorem Stp.nil {H H1 : Hp} (a : Stp [] H H1) : Same H H1 := fun c o h => a.keep c o h (by simp)
theorem Stp.seq {M : List Addr} {H H1 : Hp} (a : Stp M H H1) {K : PySem.W.Frag} {p : Addr} {xs : List V} (h : SqL K H p xs) (n : p ∉ M) : SqL K H1 p xs := by
  rcases h with (h | ⟨o, h⟩) | h
  · exact .inl (.inl (a.keep _ _ h n))
  · exact .inl (.inr ⟨o, a.keep _ _ h n⟩)
  · exact .inr h
/-! ### readings, one step each -/
section
variable {σ : L2.St} {H : Hp} {Q : VK} {QT : Bool → Hp → Prop} {QA : List V → Hp → Prop} {D : Ends} {v x y : V} {te ta tb tc : TE} {tt tu : TT} {t u : TS} {K : PySem.W.Frag}
theorem i_var {i : Nat} (h : σ[i]? = some (some v)) (q : Q v H) : tVar i σ H Q := ⟨v, h, q⟩
theorem i_C (q : Q v H) : tC v σ H Q := q
theorem i_Yes (q : QT true H) : tYes σ H QT := q
theorem i_Op {r : R2} (q : ta σ H fun x H1 => tb σ H1 fun y H2 => r x y H2 Q) : tOp r ta tb σ H Q := q
theorem i_Un {r : V → Hp → VK → Prop} (q : ta σ H fun x H1 => r x H1 Q) : tUn r ta σ H Q := q
theorem i_I0 {g : Int → Int → V} {i j : Int} (q : Q (g i j) H) : rI0 g (.int i) (.int j) H Q := ⟨i, j, rfl, rfl, q⟩
theorem i_I {C : Int → Int → Prop} {g : Int → Int → V} {i j : Int} (c : C i j) (q : Q (g i j) H) : rI C g (.int i) (.int j) H Q := ⟨i, j, rfl, rfl, c, q⟩
theorem i_U {g : Int → V} {i : Int} (q : Q (g i) H) : rU g (.int i) H Q := ⟨i, rfl, q⟩
theorem i_Eq (s : scal x y = true) (q : Q (.bl (decide (x = y))) H) : rEq x y H Q := ⟨s, q⟩
theorem i_Ne (s : scal x y = true) (q : Q (.bl (!decide (x = y))) H) : rNe x y H Q := ⟨s, q⟩
theorem i_Test (q : te σ H fun x H' => ∃ k, x = .bl k ∧ QT k H') : tTest te σ H QT := q
theorem i_B (q : te σ H fun x H' => ∃ k, x = .bl k ∧ QT k H') : tB te σ H QT := q
theorem i_bl {k : Bool} (q : QT k H) : ∃ c, V.bl k = V.bl c ∧ QT c H := ⟨k, rfl, q⟩
theorem i_And (q : tt σ H fun c H1 => if c = true then tu σ H1 QT else QT false H1) : tAnd tt tu σ H QT := q
theorem i_Or (q : tt σ H fun c H1 => if c = true then QT true H1 else tu σ H1 QT) : tOr tt tu σ H QT := q
theorem i_Not (q : tt σ H fun c H1 => QT (!c) H1) : tNot tt σ H QT := q
theorem i_Nil (q : QA [] H) : tNil σ H QA := q
theorem i_Cons {tr : TA} (q : ta σ H fun x H1 => tr σ H1 fun xs H2 => QA (x :: xs) H2) : tCons ta tr σ H QA := q
theorem i_Seq (q : t { D with nx := u D } σ H) : tSeq t u D σ H := q
theorem i_Asg {g : TG} (q : te σ H fun x H1 => g x σ H1 D.nx) : tAsg te g D σ H := q
theorem i_Name {i : Nat} {Qs : L2.St → Hp → Prop} (q : Qs (σ.set i (some v)) H) : gName i v σ H Qs := q
theorem i_Ret (q : te σ H D.rt) : tRet te D σ H := q
theorem i_IfS (q : tt σ H fun b H1 => if b = true then t D σ H1 else u D σ H1) : tIfS tt t u D σ H := q
theorem i_Drop (q : te σ H fun _ H1 => D.nx σ H1) : tDrop te D σ H := q
theorem i_Next (q : D.nx σ H) : tNext D σ H := q
theorem i_If (q : tt σ H fun c H1 => if c = true then ta σ H1 Q else tb σ H1 Q) : tIf tt ta tb σ H Q := q
theorem i_Call {sp : Sp} {dvs : List V} {E : XK} {tr : TA} (q : tr σ H fun vs H1 => sp (vs ++ dvs) H1 Q E) : tCall sp dvs E tr σ H Q := q
theorem i_CB {r : List V → Hp → VK → Prop} {tr : TA} (q : tr σ H fun vs H1 => r vs H1 Q) : tCB r tr σ H Q := q
theorem i_ite {b : Bool} {A B : Prop} (h1 : b = true → A) (h2 : b = false → B) : if b = true then A else B := by
  cases b
  · exact h2 rfl
  · exact h1 rfl
theorem i_iteD {c : Prop} [Decidable c] {A B : Prop} (h1 : c → A) (h2 : ¬ c → B) : if decide c = true then A else B := by
  by_cases h : c
  · rw [if_pos (decide_eq_true h)]; exact h1 h
  · rw [if_neg (fun z => h (of_decide_eq_true z))]; exact h2 h
theorem i_iteN {c : Prop} [Decidable c] {A B : Prop} (h1 : ¬ c → A) (h2 : c → B) : if (!decide c) = true then A else B := by
  by_cases h : c
  · rw [if_neg (by simp [h])]; exact h2 h
  · rw [if_pos (by simp [h])]; exact h1 h
theorem i_IxL {p : Addr} {xs : List V} {i : Int} (s : SqL K H p xs) (e : atI xs i = some v) (q : Q v H) : rIxL K (.ref p) (.int i) H Q := ⟨p, xs, i, v, rfl, rfl, s, e, q⟩
theorem i_IxT {p : Addr} {xs : List V} {i : Int} (s : SqT K H p xs) (e : atI xs i = some v) (q : Q v H) : rIxT K (.ref p) (.int i) H Q := ⟨p, xs, i, v, rfl, rfl, s, e, q⟩
theorem i_IxS {z : Str} {i : Int} {c : Nat} (s : z.length ≤ sizeLine) (e : atI z.cps.toList i = some c) (q : Q (.str ⟨#[c]⟩) H) : rIxS (.str z) (.int i) H Q := ⟨z, i, c, rfl, rfl, s, e, q⟩
theorem i_gTup {n : Nat} {tg : TGs} {Qs : L2.St → Hp → Prop} {a : Addr} {xs : List V} (s : SqT K H a xs) (e : xs.length = n) (q : tg xs σ H Qs) : gTup K n tg (.ref a) σ H Qs := ⟨a, xs, rfl, s, e, q⟩
theorem i_gNil {Qs : L2.St → Hp → Prop} (q : Qs σ H) : gNil [] σ H Qs := ⟨rfl, q⟩
theorem i_gCons {g : TG} {tg : TGs} {Qs : L2.St → Hp → Prop} {r : List V} (q : g v σ H fun σ' H' => tg r σ' H' Qs) : gCons g tg (v :: r) σ H Qs := ⟨v, r, rfl, q⟩
theorem i_Tup {tr : TA} (h : tr σ H fun xs H1 => xs.length ≤ sizeLine ∧ ∀ p, H1 p = none → Q (.ref p) (upd H1 p (.tup xs))) : tTup tr σ H Q := h
theorem i_Lst {tr : TA} (h : tr σ H fun xs H1 => xs.length ≤ sizeLine ∧ ∀ p, H1 p = none → Q (.ref p) (upd H1 p (.lst xs))) : tLst tr σ H Q := h
/-- a new tuple, a new list: the heap behind told by what is known of it -/
theorem i_NewT {M : List Addr} {H0 : Hp} {xs : List V} (s : Stp M H0 H) (l : xs.length ≤ sizeLine) (q : ∀ p H1, H p = none → H1 p = some (.tup xs) → Stp [] H H1 → Stp M H0 H1 → Q (.ref p) H1) :
    xs.length ≤ sizeLine ∧ ∀ p, H p = none → Q (.ref p) (upd H p (.tup xs)) := ⟨l, fun p n => q p _ n upd_same (.new n) (s.add n)⟩
theorem i_NewL {M : List Addr} {H0 : Hp} {xs : List V} (s : Stp M H0 H) (l : xs.length ≤ sizeLine) (q : ∀ p H1, H p = none → H1 p = some (.lst xs) → Stp [] H H1 → Stp M H0 H1 → Q (.ref p) H1) :
    xs.length ≤ sizeLine ∧ ∀ p, H p = none → Q (.ref p) (upd H p (.lst xs)) := ⟨l, fun p n => q p _ n upd_same (.new n) (s.add n)⟩
theorem i_Sl {r : V → Option Int → Option Int → Hp → VK → Prop} {tl th : TO} (q : te σ H fun x H1 => tl σ H1 fun l H2 => th σ H2 fun u H3 => r x l u H3 Q) : tSl r te tl th σ H Q := q
theorem i_NoPart {QO : Option Int → Hp → Prop} (q : QO none H) : tNoPart σ H QO := q
theorem i_Part {QO : Option Int → Hp → Prop} (q : te σ H fun x H1 => ∃ i, x = .int i ∧ QO (some i) H1) : tPart te σ H QO := q
theorem i_intV {k : Int} {A : Int → Prop} (q : A k) : ∃ c, V.int k = V.int c ∧ A c := ⟨k, rfl, q⟩
theorem i_SlS {z : Str} {lo hi : Option Int} (s : z.length ≤ sizeLine) (q : Q (.str (cutS z lo hi)) H) : rSlS (.str z) lo hi H Q := ⟨z, rfl, s, q⟩
theorem i_SlL {a : Addr} {xs : List V} {lo hi : Option Int} (s : SqL K H a xs) (q : ∀ p, H p = none → Q (.ref p) (upd H p (.lst (cutV xs lo hi)))) : rSlL K (.ref a) lo hi H Q := ⟨a, xs, rfl, s, q⟩
theorem i_Par {i j : Nat} {tr : TA} (q : tr σ H fun vs H1 => ∃ v w, vs = [v, w] ∧ D.nx ((σ.set i (some v)).set j (some w)) H1) : tPar i j tr D σ H := q
theorem i_Aug {i : Nat} {ti : TIp} (h : σ[i]? = some (some x)) (q : te σ H fun y H1 => ti x y H1 fun z H2 => D.nx (σ.set i (some z)) H2) : tAug i te ti D σ H := ⟨x, h, q⟩
theorem i_Chain {r r' : R2} (q : ta σ H fun x H1 => tb σ H1 fun y H2 => r x y H2 fun z H3 => ∃ k, z = .bl k ∧ (if k = true then tc σ H3 fun w' H4 => r' y w' H4 Q else Q (.bl false) H3)) : tChain r r' ta tb tc σ H Q := q
theorem i_AndV (q : ta σ H fun x H1 => ∃ c, x = .bl c ∧ if c = true then tb σ H1 Q else Q (.bl false) H1) : tAndV ta tb σ H Q := q
theorem i_OrV (q : ta σ H fun x H1 => ∃ c, x = .bl c ∧ if c = true then Q (.bl true) H1 else tb σ H1 Q) : tOrV ta tb σ H Q := q
theorem i_NotV (q : ta σ H fun x H1 => ∃ c, x = .bl c ∧ Q (.bl (!c)) H1) : tNotV ta σ H Q := q
theorem i_blV {k : Bool} {A : Bool → Prop} (q : A k) : ∃ c, V.bl k = V.bl c ∧ A c := ⟨k, rfl, q⟩
theorem qbl {a b : Bool} (q : Q (.bl a) H) (e : a = b) : Q (.bl b) H := by rw [← e]; exact q
theorem qv (q : Q x H) (e : x = y) : Q y H := by rw [← e]; exact q
theorem i_BM {T : String} {r : V → List V → Hp → VK → Prop} {tr : TA} (q : te σ H fun x H1 => tyV K T x H1 ∧ tr σ H1 fun xs H2 => r x xs H2 Q) : tBM K T r te tr σ H Q := q
theorem i_BM0 {T : String} {r : V → List V → Hp → VK → Prop} (q : te σ H fun x H1 => tyV K T x H1 ∧ r x [] H1 Q) : tBM0 K T r te σ H Q := q
end
end GT
namespace GT
open PySem PySem.Spec PyProof.Rows L2
/-! ### defs and their calls -/
/-- a def of the text stands behind the top under its name -/
def Df (K : PySem.W.Frag) (mg : Str → Option Value) (d : He.DefD) : Prop :=
  ∃ (f : Addr) (fd : FuncData), FunD K d.name d.qual d.params d.body d.scope [] [] f fd ∧ mg d.name = some (.ref f)
/-- the name x is a def that keeps sp and raises nothing -/
def Cal (P : Program) (w : World) (K : PySem.W.Frag) (mg : Str → Option Value) (base : Heap) (k : Nat) (x : Str) (ps : List Str) (sp : Sp) : Prop :=
  ∃ (f : Addr) (fd : FuncData), FnOk P w K mg base CX0 k f fd ps sp ∧ mg x = some (.ref f) ∧ PySem.W.keepIn K (.ref f) = true ∧ Binds K fd ps []
/-- the built-ins that are used are still the built-ins -/
structure Blt (mg : Str → Option Value) : Prop where
  len : mg "len" = none
  int : mg "int" = none
  range : mg "range" = none
  isinstance : mg "isinstance" = none
  sorted : mg "sorted" = none
  list : mg "list" = none
  tuple : mg "tuple" = none
  dict : mg "dict" = none
  str : mg "str" = none
  bool : mg "bool" = none
  max : mg "max" = none
  min : mg "min" = none
  all : mg "all" = none
  any : mg "any" = none
  sum : mg "sum" = none
  ord : mg "ord" = none
  enumerate : mg "enumerate" = none
section
variable {X : Cx} {e : Expr} {es : List Expr} {t : TA} {x : Str} {p pos : Pos} {ps : List Str} {sp : Sp} {k : Nat}
theorem pc_call (C : Cal X.prog X.w X.K X.mg X.base k x ps sp) (hr : Room k X.A) (hg : Gl X x) (ha : PA X (e :: es) t)
    (hdb : (x == ("__debug__" : Str)) = false := by decide) (he : starEach (e :: es) X.env = (false, eval e X.env) :: starEach es X.env := by rfl) (hpl : (backTo pos (starEach es X.env)).any (·.1) = false := by rfl) :
    PE X (.Call (.Name x p) (e :: es) [] pos) (tCall sp [] E0 t) := by
  obtain ⟨f, fd, F, hm, hk, hb⟩ := C
  exact pe_call F hr hg hm hk hb .nil pass0 ha hdb he hpl
end
end GT
namespace GT
open PySem PySem.Spec PyProof.Rows L2
section
variable {X : Cx} {x : Str} {pos : Pos}
theorem pe_gi {i : Int} (hg : Gl X x) (hm : ∃ t, X.mg x = some (.int i t)) (hd : (x == ("__debug__" : Str)) = false := by decide) : PE X (.Name x pos) (tC (.int i)) := by
  obtain ⟨t, hm⟩ := hm
  exact pe_glob hg hm ⟨t, rfl⟩ hd
theorem pe_gs {z : Str} (hg : Gl X x) (hm : ∃ t, X.mg x = some (.str z t)) (hd : (x == ("__debug__" : Str)) = false := by decide) : PE X (.Name x pos) (tC (.str z)) := by
  obtain ⟨t, hm⟩ := hm
  exact pe_glob hg hm ⟨t, rfl⟩ hd
theorem pe_gt {a : Addr} (hg : Gl X x) (hm : X.mg x = some (.ref a)) (hd : (x == ("__debug__" : Str)) = false := by decide) : PE X (.Name x pos) (tC (.ref a)) := pe_glob hg hm rfl hd
end
end GT
namespace GT
open PySem PySem.Spec PyProof.Rows L2
/-! ### parts that only reckon: their value at once -/
def Vl (te : TE) (σ : L2.St) (H : Hp) (v : V) : Prop := ∀ Q : VK, Q v H → te σ H Q
def Tl (tt : TT) (σ : L2.St) (H : Hp) (b : Bool) : Prop := ∀ Q : Bool → Hp → Prop, Q b H → tt σ H Q
section
variable {σ : L2.St} {H : Hp} {Q : VK} {QT : Bool → Hp → Prop} {v x y : V} {te ta tb tc : TE} {tt tu : TT} {a b : Bool} {i j k : Int}
theorem vl_var {n : Nat} (h : σ[n]? = some (some v)) : Vl (tVar n) σ H v := fun _ q => ⟨v, h, q⟩
theorem vl_c : Vl (tC v) σ H v := fun _ q => q
theorem vl_I0 {g : Int → Int → V} (ha : Vl ta σ H (.int i)) (hb : Vl tb σ H (.int j)) : Vl (tOp (rI0 g) ta tb) σ H (g i j) := fun _ q => ha _ (hb _ ⟨i, j, rfl, rfl, q⟩)
theorem vl_I {C : Int → Int → Prop} {g : Int → Int → V} (ha : Vl ta σ H (.int i)) (hb : Vl tb σ H (.int j)) (c : C i j) : Vl (tOp (rI C g) ta tb) σ H (g i j) := fun _ q => ha _ (hb _ ⟨i, j, rfl, rfl, c, q⟩)
theorem vl_U {g : Int → V} (ha : Vl ta σ H (.int i)) : Vl (tUn (rU g) ta) σ H (g i) := fun _ q => ha _ ⟨i, rfl, q⟩
theorem vl_eq (ha : Vl ta σ H x) (hb : Vl tb σ H y) (s : scal x y = true) : Vl (tOp rEq ta tb) σ H (.bl (decide (x = y))) := fun _ q => ha _ (hb _ ⟨s, q⟩)
theorem vl_ne (ha : Vl ta σ H x) (hb : Vl tb σ H y) (s : scal x y = true) : Vl (tOp rNe ta tb) σ H (.bl (!decide (x = y))) := fun _ q => ha _ (hb _ ⟨s, q⟩)
theorem vl_and (ha : Vl ta σ H (.bl a)) (hb : Vl tb σ H (.bl b)) : Vl (tAndV ta tb) σ H (.bl (a && b)) := fun _ q => ha _ ⟨a, rfl, by
  cases a
  · exact q
  · exact hb _ q⟩
theorem vl_or (ha : Vl ta σ H (.bl a)) (hb : Vl tb σ H (.bl b)) : Vl (tOrV ta tb) σ H (.bl (a || b)) := fun _ q => ha _ ⟨a, rfl, by
  cases a
  · exact hb _ q
  · exact q⟩
theorem vl_not (ha : Vl ta σ H (.bl a)) : Vl (tNotV ta) σ H (.bl (!a)) := fun _ q => ha _ ⟨a, rfl, q⟩
theorem vl_chain {p p' : Int → Int → Bool} (ha : Vl ta σ H (.int i)) (hb : Vl tb σ H (.int j)) (hc : Vl tc σ H (.int k)) :
    Vl (tChain (rI0 fun i j => .bl (p i j)) (rI0 fun i j => .bl (p' i j)) ta tb tc) σ H (.bl (p i j && p' j k)) := fun Q q => ha _ (hb _ ⟨i, j, rfl, rfl, _, rfl, by
  show if p i j = true then _ else _
  cases e : p i j
  · rw [e] at q; exact q
  · rw [e] at q; exact hc _ ⟨j, k, rfl, rfl, q⟩⟩)
theorem vl_ifx (ht : Tl tt σ H a) (ha : Vl ta σ H x) (hb : Vl tb σ H y) : Vl (tIf tt ta tb) σ H (if a = true then x else y) := fun Q q => ht _ (by
  cases a
  · exact hb _ q
  · exact ha _ q)
theorem tl_test (h : Vl te σ H (.bl b)) : Tl (tTest te) σ H b := fun _ q => h _ ⟨b, rfl, q⟩
theorem tl_B (h : Vl te σ H (.bl b)) : Tl (tB te) σ H b := fun _ q => h _ ⟨b, rfl, q⟩
theorem tl_and (h1 : Tl tt σ H a) (h2 : Tl tu σ H b) : Tl (tAnd tt tu) σ H (a && b) := fun _ q => h1 _ (by
  cases a
  · exact q
  · exact h2 _ q)
theorem tl_or (h1 : Tl tt σ H a) (h2 : Tl tu σ H b) : Tl (tOr tt tu) σ H (a || b) := fun _ q => h1 _ (by
  cases a
  · exact h2 _ q
  · exact q)
theorem tl_not (h1 : Tl tt σ H a) : Tl (tNot tt) σ H (!a) := fun _ q => h1 _ q
/-- a reading whose parts only reckon -/
theorem p_AndV (h : Vl (tAndV ta tb) σ H v) (q : Q v H) : tAndV ta tb σ H Q := h Q q
theorem p_OrV (h : Vl (tOrV ta tb) σ H v) (q : Q v H) : tOrV ta tb σ H Q := h Q q
theorem p_Chain {r r' : R2} (h : Vl (tChain r r' ta tb tc) σ H v) (q : Q v H) : tChain r r' ta tb tc σ H Q := h Q q
theorem p_If (h : Vl (tIf tt ta tb) σ H v) (q : Q v H) : tIf tt ta tb σ H Q := h Q q
theorem p_And (h : Tl (tAnd tt tu) σ H b) (q : QT b H) : tAnd tt tu σ H QT := h QT q
theorem p_Or (h : Tl (tOr tt tu) σ H b) (q : QT b H) : tOr tt tu σ H QT := h QT q
/-- behind a first part that does more -/
theorem j_and {c : Bool} {A : Prop} (h : Vl tb σ H (.bl b)) (e : Q (.bl false) H → A) (q : Q (.bl (c && b)) H) : if c = true then tb σ H Q else A := by
  cases c
  · exact e q
  · exact h _ q
theorem j_or {c : Bool} {A : Prop} (h : Vl tb σ H (.bl b)) (e : Q (.bl true) H → A) (q : Q (.bl (c || b)) H) : if c = true then A else tb σ H Q := by
  cases c
  · exact h _ q
  · exact e q
end
end GT

/-! ## data: None, bools, whole numbers, texts, tuples and lists of such; how they stand in a heap; == of them -/
namespace GT
open PySem PySem.Spec PyProof.Rows L2
inductive Dt where
  | non
  | bl (b : Bool)
  | num (i : Int)
  | txt (x : Str)
  | tup (ds : List Dt)
  | lst (ds : List Dt)
namespace Dt
mutual
/-- == of Python -/
def beq : Dt → Dt → Bool
  | .non, .non => true
  | .bl a, .bl b => a == b
  | .bl a, .num j => (if a then 1 else 0) == j
  | .num i, .bl b => i == (if b then 1 else 0)
  | .num a, .num b => decide (a = b)
  | .txt a, .txt b => decide (a = b)
  | .tup a, .tup b => beqAll a b
  | .lst a, .lst b => beqAll a b
  | .non, .bl _ | .non, .num _ | .non, .txt _ | .non, .tup _ | .non, .lst _ => false
  | .bl _, .non | .bl _, .txt _ | .bl _, .tup _ | .bl _, .lst _ => false
  | .num _, .non | .num _, .txt _ | .num _, .tup _ | .num _, .lst _ => false
  | .txt _, .non | .txt _, .bl _ | .txt _, .num _ | .txt _, .tup _ | .txt _, .lst _ => false
  | .tup _, .non | .tup _, .bl _ | .tup _, .num _ | .tup _, .txt _ | .tup _, .lst _ => false
  | .lst _, .non | .lst _, .bl _ | .lst _, .num _ | .lst _, .txt _ | .lst _, .tup _ => false
def beqAll : List Dt → List Dt → Bool
  | [], [] => true
  | a :: as, b :: bs => beq a b && beqAll as bs
  | [], _ :: _ => false
  | _ :: _, [] => false
end
mutual
theorem beq_self : ∀ a : Dt, beq a a = true
  | .non => rfl
  | .bl a => by simp [beq]
  | .num a => by simp [beq]
  | .txt a => by simp [beq]
  | .tup a => by rw [beq]; exact beqAll_self a
  | .lst a => by rw [beq]; exact beqAll_self a
theorem beqAll_self : ∀ a : List Dt, beqAll a a = true
  | [] => rfl
  | a :: as => by rw [beqAll, beq_self a, beqAll_self as]; rfl
end
mutual
def depth : Dt → Nat
  | .non => 0
  | .bl _ => 0
  | .num _ => 0
  | .txt _ => 0
  | .tup ks => depthAll ks + 1
  | .lst ks => depthAll ks + 1
def depthAll : List Dt → Nat
  | [] => 0
  | k :: ks => max (depth k) (depthAll ks)
end
mutual
/-- no list and no bool within -/
def flat : Dt → Bool
  | .non => true
  | .bl _ => false
  | .num _ => true
  | .txt _ => true
  | .tup ks => flatAll ks
  | .lst _ => false
def flatAll : List Dt → Bool
  | [] => true
  | k :: ks => flat k && flatAll ks
end
mutual
/-- as a key of a dict -/
def key : Dt → NestedKey
  | .non => .none
  | .bl b => .num (if b then 1 else 0)
  | .num i => .num i
  | .txt x => .text x
  | .tup ks => .tup (keys ks)
  | .lst _ => .none
def keys : List Dt → List NestedKey
  | [] => []
  | k :: ks => key k :: keys ks
end
mutual
/-- without bools: == is equality -/
def pure : Dt → Bool
  | .bl _ => false
  | .tup ks => pureAll ks
  | .lst ks => pureAll ks
  | _ => true
def pureAll : List Dt → Bool
  | [] => true
  | k :: ks => pure k && pureAll ks
end
mutual
theorem eq_of_beq : ∀ a b : Dt, pure a = true → pure b = true → beq a b = true → a = b
  | .non, .non, _, _, _ => rfl
  | .num a, .num b, _, _, h => by simp only [beq, decide_eq_true_eq] at h; rw [h]
  | .txt a, .txt b, _, _, h => by simp only [beq, decide_eq_true_eq] at h; rw [h]
  | .tup a, .tup b, pa, pb, h => by rw [beq] at h; rw [pure] at pa pb; rw [eq_of_beqAll a b pa pb h]
  | .lst a, .lst b, pa, pb, h => by rw [beq] at h; rw [pure] at pa pb; rw [eq_of_beqAll a b pa pb h]
  | .bl _, _, p, _, _ => by simp [pure] at p
  | _, .bl _, _, p, _ => by simp [pure] at p
  | .non, .num _, _, _, h | .non, .txt _, _, _, h | .non, .tup _, _, _, h | .non, .lst _, _, _, h => by simp [beq] at h
  | .num _, .non, _, _, h | .num _, .txt _, _, _, h | .num _, .tup _, _, _, h | .num _, .lst _, _, _, h => by simp [beq] at h
  | .txt _, .non, _, _, h | .txt _, .num _, _, _, h | .txt _, .tup _, _, _, h | .txt _, .lst _, _, _, h => by simp [beq] at h
  | .tup _, .non, _, _, h | .tup _, .num _, _, _, h | .tup _, .txt _, _, _, h | .tup _, .lst _, _, _, h => by simp [beq] at h
  | .lst _, .non, _, _, h | .lst _, .num _, _, _, h | .lst _, .txt _, _, _, h | .lst _, .tup _, _, _, h => by simp [beq] at h
theorem eq_of_beqAll : ∀ a b : List Dt, pureAll a = true → pureAll b = true → beqAll a b = true → a = b
  | [], [], _, _, _ => rfl
  | a :: as, b :: bs, pa, pb, h => by
    rw [beqAll, Bool.and_eq_true] at h
    rw [pureAll, Bool.and_eq_true] at pa pb
    rw [eq_of_beq a b pa.1 pb.1 h.1, eq_of_beqAll as bs pa.2 pb.2 h.2]
  | [], _ :: _, _, _, h => by simp [beqAll] at h
  | _ :: _, [], _, _, h => by simp [beqAll] at h
end
theorem beq_iff {a b : Dt} (pa : pure a = true) (pb : pure b = true) : beq a b = true ↔ a = b := ⟨eq_of_beq a b pa pb, fun e => by rw [e]; exact beq_self b⟩
end Dt
abbrev Dt.eqAt2 (xs ys : List Dt) (j : Nat) : Bool := Dt.beq (xs.getD j .non) (ys.getD j .non)
theorem Dt.beqAll_eq : ∀ xs ys : List Dt, ((List.range (min xs.length ys.length)).all (Dt.eqAt2 xs ys) && xs.length == ys.length) = Dt.beqAll xs ys
  | [], [] => rfl
  | [], _ :: _ => by simp [Dt.beqAll]
  | _ :: _, [] => by simp [Dt.beqAll]
  | x :: xs, y :: ys => by
    have ih := Dt.beqAll_eq xs ys
    have e1 : min (x :: xs).length (y :: ys).length = min xs.length ys.length + 1 := by simp only [List.length_cons]; omega
    have e2 : ((x :: xs).length == (y :: ys).length) = (xs.length == ys.length) := by simp
    have e3 : (List.range (min xs.length ys.length + 1)).all (Dt.eqAt2 (x :: xs) (y :: ys)) = (Dt.beq x y && (List.range (min xs.length ys.length)).all (Dt.eqAt2 xs ys)) := by
      rw [List.range_succ_eq_map, List.all_cons, List.all_map]
      first | rfl | simp [Dt.eqAt2, Function.comp_def]
    rw [e1, e2, e3, Dt.beqAll, ← ih, Bool.and_assoc]
theorem Dt.beqAll_other : ∀ xs ys : List Dt, xs.length ≠ ys.length → Dt.beqAll xs ys = false := fun xs ys h => by
  rw [← Dt.beqAll_eq, show (xs.length == ys.length) = false from beq_eq_false_iff_ne.mpr h, Bool.and_false]
theorem Dt.beqAll_same (xs ys : List Dt) (h : xs.length = ys.length) : (List.range xs.length).all (Dt.eqAt2 xs ys) = Dt.beqAll xs ys := by
  rw [← Dt.beqAll_eq, ← h, Nat.min_self]
  simp
/-! ### in a heap of the model -/
mutual
inductive DtIs (h : Heap) : Dt → Value → Prop
  | non : DtIs h .non .none
  | bl (b) : DtIs h (.bl b) (.bool b)
  | num (i t) : DtIs h (.num i) (.int i t)
  | txt (x t) : DtIs h (.txt x) (.str x t)
  | tup {a vs ks} : h.IsTuple a vs → DtAll h ks vs.toList → DtIs h (.tup ks) (.ref a)
  | lst {a vs ks} : h.IsList a vs → DtAll h ks vs.toList → DtIs h (.lst ks) (.ref a)
inductive DtAll (h : Heap) : List Dt → List Value → Prop
  | nil : DtAll h [] []
  | cons {k v ks vs} : DtIs h k v → DtAll h ks vs → DtAll h (k :: ks) (v :: vs)
end
theorem DtAll.length {h : Heap} : ∀ (ks : List Dt) (vs : List Value), DtAll h ks vs → vs.length = ks.length
  | [], _, r => by cases r; rfl
  | _ :: ks, _, r => by
    cases r with
    | cons _ r' => simp [DtAll.length ks _ r']
theorem ne_list_tuple {h : Heap} {a : Addr} {vs ws : Array Value} (h1 : h.IsList a vs) (h2 : h.IsTuple a ws) : False := by
  obtain ⟨o, e, c, _⟩ := h1
  obtain ⟨o', e', c', _⟩ := h2
  rw [e] at e'; cases e'
  rw [c] at c'
  injection c' with c'
  exact absurd c' (by decide)
mutual
theorem DtIs.inj {h : Heap} : ∀ (x y : Dt) (v : Value), DtIs h x v → DtIs h y v → x = y
  | .non, _, _, hx, hy => by cases hx; cases hy; rfl
  | .bl _, _, _, hx, hy => by cases hx; cases hy; rfl
  | .num i, _, _, hx, hy => by cases hx; cases hy; rfl
  | .txt x, _, _, hx, hy => by cases hx; cases hy; rfl
  | .tup ks, _, _, hx, hy => by
    cases hx with
    | tup h1 h4 =>
      cases hy with
      | tup k1 k4 =>
        obtain ⟨o, e, c, n, d⟩ := h1
        obtain ⟨o', e', c', n', d'⟩ := k1
        rw [e] at e'; cases e'
        rw [d] at d'; cases d'
        rw [DtAll.inj ks _ _ h4 k4]
      | lst k1 k4 => exact (ne_list_tuple k1 h1).elim
  | .lst ks, _, _, hx, hy => by
    cases hx with
    | lst h1 h4 =>
      cases hy with
      | lst k1 k4 =>
        obtain ⟨o, e, c, n, d⟩ := h1
        obtain ⟨o', e', c', n', d'⟩ := k1
        rw [e] at e'; cases e'
        rw [d] at d'; cases d'
        rw [DtAll.inj ks _ _ h4 k4]
      | tup k1 k4 => exact (ne_list_tuple h1 k1).elim
theorem DtAll.inj {h : Heap} : ∀ (xs ys : List Dt) (vs : List Value), DtAll h xs vs → DtAll h ys vs → xs = ys
  | [], _, _, hx, hy => by cases hx; cases hy; rfl
  | x :: xs, _, _, hx, hy => by
    cases hx with
    | cons h1 h2 =>
      cases hy with
      | cons k1 k2 => rw [DtIs.inj x _ _ h1 k1, DtAll.inj xs _ _ h2 k2]
end
section
open SeqAt
theorem dt_here {n a b : Nat} (h : n + min (a + 1) (b + 1) < cLine) : n < cLine := by omega
theorem dt_in {A : Around} {a b : Nat} (h : A.units + min (a + 1) (b + 1) < cLine) : A.in1.units + min a b < cLine := by rw [Around.in1_units]; omega
mutual
theorem eqAt_dt : ∀ (x y : Dt) (A : Around) (s : Shared) (a b : Value), DtIs s.heap x a → DtIs s.heap y b → A.units + 1 + min x.depth y.depth < cLine → EqAt A s a b (Dt.beq x y)
  | .non, _, A, s, _, _, ra, rb, hu => by
    cases ra
    cases rb with
    | non => exact EqAt.same _
    | bl y => exact EqAt.none_bool _
    | num y u => exact EqAt.none_int y u
    | txt y u => exact EqAt.none_str y u
    | tup k1 k4 => exact EqAt.none_tuple k1 (by omega)
    | lst k1 k4 => exact EqAt.none_list k1 (by omega)
  | .bl x, _, A, s, _, _, ra, rb, hu => by
    cases ra
    cases rb with
    | non => exact EqAt.bool_none x
    | bl y => exact (EqAt.bool_bool x y).cast rfl
    | num y u => exact (EqAt.bool_int x y u).cast rfl
    | txt y u => exact EqAt.bool_str x y u
    | tup k1 k4 => exact EqAt.bool_tuple x k1 (by omega)
    | lst k1 k4 => exact EqAt.bool_list x k1 (by omega)
  | .num i, _, A, s, _, _, ra, rb, hu => by
    cases ra with
    | num _ t =>
      cases rb with
      | non => exact EqAt.int_none i t
      | bl y => exact (EqAt.int_bool i t y).cast rfl
      | num y u => exact (EqAt.int_int i t y u).cast rfl
      | txt y u => exact EqAt.int_str i t y u
      | tup k1 k4 => exact EqAt.int_tuple i t k1 (by omega)
      | lst k1 k4 => exact EqAt.int_list i t k1 (by omega)
  | .txt x, _, A, s, _, _, ra, rb, hu => by
    cases ra with
    | txt _ t =>
      cases rb with
      | non => exact EqAt.str_none x t
      | bl y => exact EqAt.str_bool x t y
      | num y u => exact EqAt.str_int x t y u
      | txt y u => exact (EqAt.str_str x t y u).cast rfl
      | tup k1 k4 => exact EqAt.str_tuple x t k1 (by omega)
      | lst k1 k4 => exact EqAt.str_list x t k1 (by omega)
  | .tup xs, _, A, s, _, _, ra, rb, hu => by
    cases ra with
    | @tup l vs _ hl h4 =>
      cases rb with
      | non => exact EqAt.tuple_none hl (by omega)
      | bl y => exact EqAt.tuple_bool y hl (by omega)
      | num y u => exact EqAt.tuple_int y u hl (by omega)
      | txt y u => exact EqAt.tuple_str y u hl (by omega)
      | lst k1 k4 => exact EqAt.tuple_list hl k1 (by omega)
      | @tup l' vs' ys hl' k4 =>
        by_cases hll : l = l'
        · subst hll
          obtain ⟨o, e, c, n, d⟩ := hl
          obtain ⟨o', e', c', n', d'⟩ := hl'
          rw [e] at e'; cases e'
          rw [d] at d'; cases d'
          rw [← DtAll.inj xs ys _ h4 k4, Dt.beq, Dt.beqAll_self]
          exact EqAt.same _
        · have n1 : vs.size = xs.length := by simpa using DtAll.length _ _ h4
          have n2 : vs'.size = ys.length := by simpa using DtAll.length _ _ k4
          show EqAt A s (.ref l) (.ref l') (Dt.beqAll xs ys)
          rw [← Dt.beqAll_eq xs ys, ← n1, ← n2]
          refine EqAt.of_refs hll (RcAt.tuples hl hl' (by omega) fun j j1 j2 => ?_)
          have := eqAt_dts xs ys A.in1 s vs.toList vs'.toList h4 k4 (by simp only [Dt.depth] at hu; rw [Around.in1_units]; omega) j (by simpa using j1) (by simpa using j2)
          simpa using this
  | .lst xs, _, A, s, _, _, ra, rb, hu => by
    cases ra with
    | @lst l vs _ hl h4 =>
      cases rb with
      | non => exact EqAt.list_none hl (by omega)
      | bl y => exact EqAt.list_bool y hl (by omega)
      | num y u => exact EqAt.list_int y u hl (by omega)
      | txt y u => exact EqAt.list_str y u hl (by omega)
      | tup k1 k4 => exact EqAt.list_tuple hl k1 (by omega)
      | @lst l' vs' ys hl' k4 =>
        by_cases hll : l = l'
        · subst hll
          obtain ⟨o, e, c, n, d⟩ := hl
          obtain ⟨o', e', c', n', d'⟩ := hl'
          rw [e] at e'; cases e'
          rw [d] at d'; cases d'
          rw [← DtAll.inj xs ys _ h4 k4, Dt.beq, Dt.beqAll_self]
          exact EqAt.same _
        · have n1 : vs.size = xs.length := by simpa using DtAll.length _ _ h4
          have n2 : vs'.size = ys.length := by simpa using DtAll.length _ _ k4
          show EqAt A s (.ref l) (.ref l') (Dt.beqAll xs ys)
          by_cases hsz : vs.size = vs'.size
          · rw [← Dt.beqAll_same xs ys (by omega), ← n1]
            refine EqAt.of_refs hll (RcAt.lists hl hl' hsz (by omega) fun j j1 j2 => ?_)
            have := eqAt_dts xs ys A.in1 s vs.toList vs'.toList h4 k4 (by simp only [Dt.depth] at hu; rw [Around.in1_units]; omega) j (by simpa using j1) (by simpa using j2)
            simpa using this
          · rw [Dt.beqAll_other xs ys (by omega)]
            exact EqAt.of_refs hll (RcAt.lists_lengths hl hl' (by simpa using hsz) (by omega))
theorem eqAt_dts : ∀ (xs ys : List Dt) (A : Around) (s : Shared) (vs ws : List Value), DtAll s.heap xs vs → DtAll s.heap ys ws →
    A.units + 1 + min (Dt.depthAll xs) (Dt.depthAll ys) < cLine → ∀ j (h1 : j < vs.length) (h2 : j < ws.length), EqAt A s vs[j] ws[j] (Dt.eqAt2 xs ys j)
  | [], _, _, _, _, _, ra, _, _, j, h1, _ => by cases ra; exact absurd h1 (Nat.not_lt_zero _)
  | _ :: _, [], _, _, _, _, _, rb, _, j, _, h2 => by cases rb; exact absurd h2 (Nat.not_lt_zero _)
  | x :: xs, y :: ys, A, s, _, _, ra, rb, hu, j, h1, h2 => by
    cases ra with
    | cons r rs =>
      cases rb with
      | cons r' rs' =>
        simp only [Dt.depthAll] at hu
        cases j with
        | zero => exact eqAt_dt x y A s _ _ r r' (by omega)
        | succ j => exact eqAt_dts xs ys A s _ _ rs rs' (by omega) j (Nat.lt_of_succ_lt_succ h1) (Nat.lt_of_succ_lt_succ h2)
end
end
end GT

namespace GT
open PySem PySem.Spec PyProof.Rows L2
section
open SeqAt
theorem rcAt_dt {x y : Dt} {A : Around} {s : Shared} {a b : Value} (ra : DtIs s.heap x a) (rb : DtIs s.heap y b) (hu : A.units + 1 + min x.depth y.depth < cLine) : RcAt A s a b (Dt.beq x y) := by
  cases ra with
  | non =>
    cases rb with
    | non => exact RcAt.none_none
    | bl y => exact RcAt.none_bool y
    | num y u => exact RcAt.none_int y u
    | txt y u => exact RcAt.none_str y u
    | tup k1 k4 => exact RcAt.none_tuple k1 (by omega)
    | lst k1 k4 => exact RcAt.none_list k1 (by omega)
  | bl x =>
    cases rb with
    | non => exact RcAt.bool_none x
    | bl y => exact RcAt.bool_bool x y
    | num y u => exact RcAt.bool_int x y u
    | txt y u => exact RcAt.bool_str x y u
    | tup k1 k4 => exact RcAt.bool_tuple x k1 (by omega)
    | lst k1 k4 => exact RcAt.bool_list x k1 (by omega)
  | num x t =>
    cases rb with
    | non => exact RcAt.int_none x t
    | bl y => exact RcAt.int_bool x t y
    | num y u => exact RcAt.int_int x t y u
    | txt y u => exact RcAt.int_str x t y u
    | tup k1 k4 => exact RcAt.int_tuple x t k1 (by omega)
    | lst k1 k4 => exact RcAt.int_list x t k1 (by omega)
  | txt x t =>
    cases rb with
    | non => exact RcAt.str_none x t
    | bl y => exact RcAt.str_bool x t y
    | num y u => exact RcAt.str_int x t y u
    | txt y u => exact RcAt.str_str x t y u
    | tup k1 k4 => exact RcAt.str_tuple x t k1 (by omega)
    | lst k1 k4 => exact RcAt.str_list x t k1 (by omega)
  | @tup l vs xs hl h4 =>
    cases rb with
    | non => exact RcAt.tuple_none hl (by omega)
    | bl y => exact RcAt.tuple_bool y hl (by omega)
    | num y u => exact RcAt.tuple_int y u hl (by omega)
    | txt y u => exact RcAt.tuple_str y u hl (by omega)
    | lst k1 k4 => exact RcAt.tuple_list hl k1 (by omega)
    | @tup l' vs' ys hl' k4 =>
      have n1 : vs.size = xs.length := by simpa using DtAll.length _ _ h4
      have n2 : vs'.size = ys.length := by simpa using DtAll.length _ _ k4
      show RcAt A s (.ref l) (.ref l') (Dt.beqAll xs ys)
      rw [← Dt.beqAll_eq xs ys, ← n1, ← n2]
      refine RcAt.tuples hl hl' (by omega) fun j j1 j2 => ?_
      have := eqAt_dts xs ys A.in1 s vs.toList vs'.toList h4 k4 (by simp only [Dt.depth] at hu; rw [Around.in1_units]; omega) j (by simpa using j1) (by simpa using j2)
      simpa using this
  | @lst l vs xs hl h4 =>
    cases rb with
    | non => exact RcAt.list_none hl (by omega)
    | bl y => exact RcAt.list_bool y hl (by omega)
    | num y u => exact RcAt.list_int y u hl (by omega)
    | txt y u => exact RcAt.list_str y u hl (by omega)
    | tup k1 k4 => exact RcAt.list_tuple hl k1 (by omega)
    | @lst l' vs' ys hl' k4 =>
      have n1 : vs.size = xs.length := by simpa using DtAll.length _ _ h4
      have n2 : vs'.size = ys.length := by simpa using DtAll.length _ _ k4
      show RcAt A s (.ref l) (.ref l') (Dt.beqAll xs ys)
      by_cases hsz : vs.size = vs'.size
      · rw [← Dt.beqAll_same xs ys (by omega), ← n1]
        refine RcAt.lists hl hl' hsz (by omega) fun j j1 j2 => ?_
        have := eqAt_dts xs ys A.in1 s vs.toList vs'.toList h4 k4 (by simp only [Dt.depth] at hu; rw [Around.in1_units]; omega) j (by simpa using j1) (by simpa using j2)
        simpa using this
      · rw [Dt.beqAll_other xs ys (by omega)]
        exact RcAt.lists_lengths hl hl' (by simpa using hsz) (by omega)
theorem rcNeAt_dt {x y : Dt} {A : Around} {s : Shared} {a b : Value} (ra : DtIs s.heap x a) (rb : DtIs s.heap y b) (hu : A.units + 1 + min x.depth y.depth < cLine) : RcNeAt A s a b (!Dt.beq x y) := by
  cases ra with
  | non =>
    cases rb with
    | non => exact RcNeAt.none_none
    | bl y => exact RcNeAt.none_bool y
    | num y u => exact RcNeAt.none_int y u
    | txt y u => exact RcNeAt.none_str y u
    | tup k1 k4 => exact RcNeAt.none_tuple k1 (by omega)
    | lst k1 k4 => exact RcNeAt.none_list k1 (by omega)
  | bl x =>
    cases rb with
    | non => exact RcNeAt.bool_none x
    | bl y => exact RcNeAt.bool_bool x y
    | num y u => exact RcNeAt.bool_int x y u
    | txt y u => exact RcNeAt.bool_str x y u
    | tup k1 k4 => exact RcNeAt.bool_tuple x k1 (by omega)
    | lst k1 k4 => exact RcNeAt.bool_list x k1 (by omega)
  | num x t =>
    cases rb with
    | non => exact RcNeAt.int_none x t
    | bl y => exact RcNeAt.int_bool x t y
    | num y u => exact RcNeAt.int_int x t y u
    | txt y u => exact RcNeAt.int_str x t y u
    | tup k1 k4 => exact RcNeAt.int_tuple x t k1 (by omega)
    | lst k1 k4 => exact RcNeAt.int_list x t k1 (by omega)
  | txt x t =>
    cases rb with
    | non => exact RcNeAt.str_none x t
    | bl y => exact RcNeAt.str_bool x t y
    | num y u => exact RcNeAt.str_int x t y u
    | txt y u => exact RcNeAt.str_str x t y u
    | tup k1 k4 => exact RcNeAt.str_tuple x t k1 (by omega)
    | lst k1 k4 => exact RcNeAt.str_list x t k1 (by omega)
  | @tup l vs xs hl h4 =>
    cases rb with
    | non => exact RcNeAt.tuple_none hl (by omega)
    | bl y => exact RcNeAt.tuple_bool y hl (by omega)
    | num y u => exact RcNeAt.tuple_int y u hl (by omega)
    | txt y u => exact RcNeAt.tuple_str y u hl (by omega)
    | lst k1 k4 => exact RcNeAt.tuple_list hl k1 (by omega)
    | @tup l' vs' ys hl' k4 =>
      have n1 : vs.size = xs.length := by simpa using DtAll.length _ _ h4
      have n2 : vs'.size = ys.length := by simpa using DtAll.length _ _ k4
      show RcNeAt A s (.ref l) (.ref l') (!Dt.beqAll xs ys)
      rw [← Dt.beqAll_eq xs ys, ← n1, ← n2]
      refine RcNeAt.tuples hl hl' (by omega) fun j j1 j2 => ?_
      have := eqAt_dts xs ys A.in1 s vs.toList vs'.toList h4 k4 (by simp only [Dt.depth] at hu; rw [Around.in1_units]; omega) j (by simpa using j1) (by simpa using j2)
      simpa using this
  | @lst l vs xs hl h4 =>
    cases rb with
    | non => exact RcNeAt.list_none hl (by omega)
    | bl y => exact RcNeAt.list_bool y hl (by omega)
    | num y u => exact RcNeAt.list_int y u hl (by omega)
    | txt y u => exact RcNeAt.list_str y u hl (by omega)
    | tup k1 k4 => exact RcNeAt.list_tuple hl k1 (by omega)
    | @lst l' vs' ys hl' k4 =>
      have n1 : vs.size = xs.length := by simpa using DtAll.length _ _ h4
      have n2 : vs'.size = ys.length := by simpa using DtAll.length _ _ k4
      show RcNeAt A s (.ref l) (.ref l') (!Dt.beqAll xs ys)
      by_cases hsz : vs.size = vs'.size
      · rw [← Dt.beqAll_same xs ys (by omega), ← n1]
        refine RcNeAt.lists hl hl' hsz (by omega) fun j j1 j2 => ?_
        have := eqAt_dts xs ys A.in1 s vs.toList vs'.toList h4 k4 (by simp only [Dt.depth] at hu; rw [Around.in1_units]; omega) j (by simpa using j1) (by simpa using j2)
        simpa using this
      · rw [Dt.beqAll_other xs ys (by omega)]
        exact RcNeAt.lists_lengths hl hl' (by simpa using hsz) (by omega)
end
/-! ### in the abstract heap -/
/-- a tuple that never changes: tracked, or of the written part -/
def TupAt (K : PySem.W.Frag) (H : Hp) (a : Addr) (xs : List V) : Prop :=
  H a = some (.tup xs) ∨ ∃ (o : Obj) (its : Array Value) (n : Nat), K.lookup a = some o ∧ o.cls = .type "tuple" ∧ o.data = .seq its n ∧ its.size ≤ sizeLine ∧ Vals xs its.toList
mutual
inductive DtAt (K : PySem.W.Frag) (H : Hp) : V → Dt → Prop
  | non : DtAt K H .non .non
  | bl (b : Bool) : DtAt K H (.bl b) (.bl b)
  | num (i : Int) : DtAt K H (.int i) (.num i)
  | txt (x : Str) : DtAt K H (.str x) (.txt x)
  | tup {a : Addr} {xs : List V} {ds : List Dt} : TupAt K H a xs → DtsAt K H xs ds → DtAt K H (.ref a) (.tup ds)
  | lst {a : Addr} {xs : List V} {ds : List Dt} : SqL K H a xs → DtsAt K H xs ds → DtAt K H (.ref a) (.lst ds)
inductive DtsAt (K : PySem.W.Frag) (H : Hp) : List V → List Dt → Prop
  | nil : DtsAt K H [] []
  | cons {v : V} {vs : List V} {d : Dt} {ds : List Dt} : DtAt K H v d → DtsAt K H vs ds → DtsAt K H (v :: vs) (d :: ds)
end
section
variable {K : PySem.W.Frag} {H H1 : Hp} {M : List Addr}
theorem TupAt.stp {a : Addr} {xs : List V} (h : TupAt K H a xs) (s : Stp M H H1) : TupAt K H1 a xs := by
  rcases h with h | h
  · exact .inl (s.tups _ _ h)
  · exact .inr h
theorem TupAt.sqt {a : Addr} {xs : List V} (h : TupAt K H a xs) : SqT K H a xs := by
  rcases h with h | h
  · exact .inl (.inl h)
  · exact .inr h
mutual
/-- data without lists stay whatever is changed -/
theorem DtAt.stp (s : Stp M H H1) : ∀ (d : Dt) (v : V), d.flat = true → DtAt K H v d → DtAt K H1 v d
  | .non, _, _, h => by cases h; exact .non
  | .bl _, _, f, h => by simp [Dt.flat] at f
  | .num _, _, _, h => by cases h; exact .num _
  | .txt _, _, _, h => by cases h; exact .txt _
  | .tup ds, _, f, h => by
    cases h with
    | tup h1 h2 => exact .tup (h1.stp s) (DtsAt.stp s ds _ (by simpa [Dt.flat] using f) h2)
  | .lst _, _, f, _ => by simp [Dt.flat] at f
theorem DtsAt.stp (s : Stp M H H1) : ∀ (ds : List Dt) (vs : List V), Dt.flatAll ds = true → DtsAt K H vs ds → DtsAt K H1 vs ds
  | [], _, _, h => by cases h; exact .nil
  | d :: ds, _, f, h => by
    cases h with
    | cons h1 h2 =>
      simp only [Dt.flatAll, Bool.and_eq_true] at f
      exact .cons (DtAt.stp s d _ f.1 h1) (DtsAt.stp s ds _ f.2 h2)
end
theorem DtsAt.length : ∀ {vs : List V} {ds : List Dt}, DtsAt K H vs ds → vs.length = ds.length
  | _, _, .nil => rfl
  | _, _, .cons _ t => by simp [DtsAt.length t]
theorem DtsAt.get : ∀ {vs : List V} {ds : List Dt} {i : Nat} {d : Dt}, DtsAt K H vs ds → ds[i]? = some d → ∃ v, vs[i]? = some v ∧ DtAt K H v d
  | _, _, _, _, .nil, e => by simp at e
  | _, _, 0, _, .cons r _, e => by simp at e; subst e; exact ⟨_, rfl, r⟩
  | _, _, i + 1, d, .cons _ t, e => by
    obtain ⟨v, h1, h2⟩ := DtsAt.get (i := i) (d := d) t (by simpa using e)
    exact ⟨v, by simpa using h1, h2⟩
theorem DtsAt.getV : ∀ {vs : List V} {ds : List Dt} {i : Nat} {v : V}, DtsAt K H vs ds → vs[i]? = some v → ∃ d, ds[i]? = some d ∧ DtAt K H v d
  | _, _, _, _, .nil, e => by simp at e
  | _, _, 0, _, .cons r _, e => by simp at e; subst e; exact ⟨_, rfl, r⟩
  | _, _, i + 1, v, .cons _ t, e => by
    obtain ⟨d, h1, h2⟩ := DtsAt.getV (i := i) (v := v) t (by simpa using e)
    exact ⟨d, by simpa using h1, h2⟩
theorem DtsAt.append : ∀ {vs ws : List V} {ds es : List Dt}, DtsAt K H vs ds → DtsAt K H ws es → DtsAt K H (vs ++ ws) (ds ++ es)
  | _, _, _, _, .nil, s => s
  | _, _, _, _, .cons r t, s => .cons r (DtsAt.append t s)
theorem DtsAt.snoc {vs : List V} {ds : List Dt} {v : V} {d : Dt} (r : DtsAt K H vs ds) (h : DtAt K H v d) : DtsAt K H (vs ++ [v]) (ds ++ [d]) := r.append (.cons h .nil)
end
section
variable {X : Cx} {pins : List (Addr × Obj)} {σ : L2.St} {H : Hp} {s : Shared}
mutual
theorem DtAt.is (I : Inv X pins σ H s) : ∀ (d : Dt) (v : V) (u : Value), DtAt X.K H v d → RelV v u → DtIs s.heap d u
  | .non, _, _, h, r => by cases h; cases r; exact .non
  | .bl b, _, _, h, r => by cases h; cases r; exact .bl b
  | .num i, _, _, h, r => by cases h; obtain ⟨t, rfl⟩ := r; exact .num i t
  | .txt x, _, _, h, r => by cases h; obtain ⟨t, rfl⟩ := r; exact .txt x t
  | .tup ds, _, _, h, r => by
    cases h with
    | tup h1 h2 =>
      cases r
      obtain ⟨its, rv, ht, _⟩ := I.tuple h1.sqt
      exact .tup ht (by simpa using DtsAt.is I ds _ its h2 rv)
  | .lst ds, _, _, h, r => by
    cases h with
    | lst h1 h2 =>
      cases r
      obtain ⟨its, rv, ht, _⟩ := I.list h1
      exact .lst ht.isList (by simpa using DtsAt.is I ds _ its h2 rv)
theorem DtsAt.is (I : Inv X pins σ H s) : ∀ (ds : List Dt) (vs : List V) (us : List Value), DtsAt X.K H vs ds → Vals vs us → DtAll s.heap ds us
  | [], _, _, h, r => by cases h; cases r; exact .nil
  | d :: ds, _, _, h, r => by
    cases h with
    | cons h1 h2 =>
      cases r with
      | cons r1 r2 => exact .cons (DtAt.is I d _ _ h1 r1) (DtsAt.is I ds _ _ h2 r2)
end
end
section
variable {X : Cx}
def rEqT (K : PySem.W.Frag) : R2 := fun x y H Q => ∃ d e, DtAt K H x d ∧ DtAt K H y e ∧ d.depth ≤ 60 ∧ e.depth ≤ 60 ∧ Q (.bl (Dt.beq d e)) H
def rNeT (K : PySem.W.Frag) : R2 := fun x y H Q => ∃ d e, DtAt K H x d ∧ DtAt K H y e ∧ d.depth ≤ 60 ∧ e.depth ≤ 60 ∧ Q (.bl (!Dt.beq d e)) H
theorem op_eqT (hu : X.A.units + 64 < cLine) : OpR X (compareOp .Eq) (rEqT X.K) := by
  intro pins s σ H x y v u Q I rx ry h
  obtain ⟨d, e, hd, he, sd, se, q⟩ := h
  exact rcAt_dt (DtAt.is I d x v hd rx) (DtAt.is I e y u he ry) (by omega) _ _ _ _ ⟨.bl _, H, I, rfl, q⟩
theorem op_neT (hu : X.A.units + 64 < cLine) : OpR X (compareOp .NotEq) (rNeT X.K) := by
  intro pins s σ H x y v u Q I rx ry h
  obtain ⟨d, e, hd, he, sd, se, q⟩ := h
  exact rcNeAt_dt (DtAt.is I d x v hd rx) (DtAt.is I e y u he ry) (by omega) _ _ _ _ ⟨.bl _, H, I, rfl, q⟩
open Classical in
/-- a value's datum -/
noncomputable def datOf (h : Heap) (v : Value) : Dt := if e : ∃ d, DtIs h d v then e.choose else .non
theorem datOf_eq {h : Heap} {v : Value} {d : Dt} (r : DtIs h d v) : datOf h v = d := by
  unfold datOf
  have e : ∃ d, DtIs h d v := ⟨d, r⟩
  rw [dif_pos e]
  exact DtIs.inj _ _ v e.choose_spec r
theorem DtAll.mem {h : Heap} : ∀ {ds : List Dt} {vs : List Value} {v : Value}, DtAll h ds vs → v ∈ vs → ∃ d ∈ ds, DtIs h d v
  | _, _, _, .nil, e => nomatch e
  | _, _, _, .cons r t, e => by
    rcases List.mem_cons.mp e with e | e
    · subst e; exact ⟨_, List.mem_cons_self, r⟩
    · obtain ⟨d, h1, h2⟩ := DtAll.mem t e
      exact ⟨d, List.mem_cons_of_mem _ h1, h2⟩
theorem Dt.depth_mem : ∀ {ds : List Dt} {d : Dt}, d ∈ ds → d.depth ≤ Dt.depthAll ds
  | _ :: _, _, e => by
    rcases List.mem_cons.mp e with e | e
    · subst e; simp only [Dt.depthAll]; omega
    · have := Dt.depth_mem e; simp only [Dt.depthAll]; omega
def rInT (K : PySem.W.Frag) : R2 := fun x y H Q => ∃ d ds, DtAt K H x d ∧ DtAt K H y (.lst ds) ∧ d.depth ≤ 60 ∧ Dt.depthAll ds ≤ 60 ∧ Q (.bl (ds.any fun z => Dt.beq z d)) H
def rNotInT (K : PySem.W.Frag) : R2 := fun x y H Q => ∃ d ds, DtAt K H x d ∧ DtAt K H y (.lst ds) ∧ d.depth ≤ 60 ∧ Dt.depthAll ds ≤ 60 ∧ Q (.bl (!ds.any fun z => Dt.beq z d)) H
theorem any_items {h : Heap} {e : Dt} {ds : List Dt} {vs : Array Value} (r : DtAll h ds vs.toList) : (vs.any fun v => Dt.beq (datOf h v) e) = ds.any fun d => Dt.beq d e := by
  rw [← Array.any_toList]
  generalize hl : vs.toList = l at r
  clear hl
  induction l generalizing ds with
  | nil => cases r; rfl
  | cons v l ih =>
    cases r with
    | cons r1 r2 => rw [List.any_cons, List.any_cons, datOf_eq r1, ih r2]
theorem op_inT (hu : X.A.units + 64 < cLine) : OpR X (compareOp .In) (rInT X.K) := by
  intro pins s σ H x y v u Q I rx ry h
  obtain ⟨d, ds, hd, he, sd, se, q⟩ := h
  have r1 := DtAt.is I d x v hd rx
  have r2 := DtAt.is I (.lst ds) y u he ry
  cases r2 with
  | @lst a vs _ h1 h4 =>
    refine SeqAt.in_listAt (fun w => Dt.beq (datOf s.heap w) d) h1 (fun w hw => ?_) ?_
    · obtain ⟨c, hc, rc⟩ := DtAll.mem h4 (Array.mem_def.mp hw)
      rw [datOf_eq rc]
      have hc2 := Dt.depth_mem hc
      exact eqAt_dt c d X.A.in1 s _ _ rc r1 (by rw [Around.in1_units]; omega)
    · rw [any_items h4]
      exact ⟨.bl _, H, I, rfl, q⟩
theorem op_notInT (hu : X.A.units + 64 < cLine) : OpR X (compareOp .NotIn) (rNotInT X.K) := by
  intro pins s σ H x y v u Q I rx ry h
  obtain ⟨d, ds, hd, he, sd, se, q⟩ := h
  have r1 := DtAt.is I d x v hd rx
  have r2 := DtAt.is I (.lst ds) y u he ry
  cases r2 with
  | @lst a vs _ h1 h4 =>
    refine SeqAt.notIn_listAt (fun w => Dt.beq (datOf s.heap w) d) h1 (fun w hw => ?_) ?_
    · obtain ⟨c, hc, rc⟩ := DtAll.mem h4 (Array.mem_def.mp hw)
      rw [datOf_eq rc]
      have hc2 := Dt.depth_mem hc
      exact eqAt_dt c d X.A.in1 s _ _ rc r1 (by rw [Around.in1_units]; omega)
    · rw [any_items h4]
      exact ⟨.bl _, H, I, rfl, q⟩
end
end GT
namespace GT
open PySem PySem.Spec PyProof.Rows L2
/-! ### isinstance of data -/
def Dt.ty : Dt → String
  | .non => "NoneType"
  | .bl _ => "bool"
  | .num _ => "int"
  | .txt _ => "str"
  | .tup _ => "tuple"
  | .lst _ => "list"
theorem tyx_dt {K : PySem.W.Frag} {H : Hp} {v : V} {d : Dt} (h : DtAt K H v d) : TyX K H v (.type d.ty) := by
  cases h with
  | non => exact .base .non
  | bl b => exact .base (.bl b)
  | num i => exact .base (.int i)
  | txt x => exact .base (.str x)
  | tup h1 h2 =>
    rcases h1 with h1 | ⟨o, its, n, e, c, _⟩
    · exact .base (.tup h1)
    · exact .kTuple e c
  | lst h1 h2 =>
    rcases h1 with (h1 | ⟨o, h1⟩) | ⟨o, its, n, e, c, _⟩
    · exact .base (.lst h1)
    · exact .base (.frz h1)
    · exact .kList e c
theorem i_Isi {K : PySem.W.Frag} {H : Hp} {Q : VK} {v : V} {n : String} {d : Dt} (T : String) (b : Bool) (h : DtAt K H v d) (q : Q (.bl b) H) (hT : d.ty = T := by rfl) (e : kitB T n = some b := by decide +kernel) : rIsi K [v, .ty n] H Q :=
  ⟨v, .ty n, _, _, b, rfl, .ty n, tyx_dt h, kit_ty (by rw [hT]; exact e), q⟩
theorem i_EqT {K : PySem.W.Frag} {H : Hp} {Q : VK} {x y : V} {d e : Dt} (hd : DtAt K H x d) (he : DtAt K H y e) (q : Q (.bl (Dt.beq d e)) H) (h1 : d.depth ≤ 60 := by first | decide | (simp [Dt.depth, Dt.depthAll]; done) | omega) (h2 : e.depth ≤ 60 := by first | decide | (simp [Dt.depth, Dt.depthAll]; done) | omega) : rEqT K x y H Q := ⟨d, e, hd, he, h1, h2, q⟩
theorem i_NeT {K : PySem.W.Frag} {H : Hp} {Q : VK} {x y : V} {d e : Dt} (hd : DtAt K H x d) (he : DtAt K H y e) (q : Q (.bl (!Dt.beq d e)) H) (h1 : d.depth ≤ 60 := by first | decide | (simp [Dt.depth, Dt.depthAll]; done) | omega) (h2 : e.depth ≤ 60 := by first | decide | (simp [Dt.depth, Dt.depthAll]; done) | omega) : rNeT K x y H Q := ⟨d, e, hd, he, h1, h2, q⟩
end GT

/-! ## dicts whose keys are tuples, nested ones too -/
namespace GT
open PySem PySem.Spec PyProof.Rows L2
/-! ### data without lists as keys -/
mutual
theorem Dt.depth_key : ∀ d : Dt, d.flat = true → (Dt.key d).depth = d.depth
  | .non, _ => rfl
  | .bl _, f => by simp [Dt.flat] at f
  | .num _, _ => rfl
  | .txt _, _ => rfl
  | .tup ds, f => by
    simp only [Dt.flat] at f
    simp only [Dt.key, NestedKey.depth, Dt.depth, Dt.depth_keys ds f]
  | .lst _, f => by simp [Dt.flat] at f
theorem Dt.depth_keys : ∀ ds : List Dt, Dt.flatAll ds = true → NestedKey.depthAll (Dt.keys ds) = Dt.depthAll ds
  | [], _ => rfl
  | d :: ds, f => by
    simp only [Dt.flatAll, Bool.and_eq_true] at f
    simp only [Dt.keys, NestedKey.depthAll, Dt.depthAll, Dt.depth_key d f.1, Dt.depth_keys ds f.2]
end
mutual
theorem DtIs.nested {h : Heap} : ∀ (d : Dt) (v : Value), d.flat = true → DtIs h d v → NestedIs h d.key v
  | .non, _, _, r => by cases r; exact .none
  | .bl _, _, f, _ => by simp [Dt.flat] at f
  | .num _, _, _, r => by cases r; exact .int _ _
  | .txt _, _, _, r => by cases r; exact .text _ _
  | .tup ds, _, f, r => by
    cases r with
    | tup h1 h2 =>
      obtain ⟨o, e, c, n, dd⟩ := h1
      exact .tup e c dd (DtAll.nested ds _ (by simpa [Dt.flat] using f) h2)
  | .lst _, _, f, _ => by simp [Dt.flat] at f
theorem DtAll.nested {h : Heap} : ∀ (ds : List Dt) (vs : List Value), Dt.flatAll ds = true → DtAll h ds vs → NestedAll h (Dt.keys ds) vs
  | [], _, _, r => by cases r; exact .nil
  | d :: ds, _, f, r => by
    cases r with
    | cons r1 r2 =>
      simp only [Dt.flatAll, Bool.and_eq_true] at f
      exact .cons (DtIs.nested d _ f.1 r1) (DtAll.nested ds _ f.2 r2)
end
mutual
theorem Dt.key_inj : ∀ a b : Dt, a.flat = true → b.flat = true → a.key = b.key → a = b
  | .non, .non, _, _, _ => rfl
  | .num a, .num b, _, _, h => by simp only [Dt.key, NestedKey.num.injEq] at h; rw [h]
  | .txt a, .txt b, _, _, h => by simp only [Dt.key, NestedKey.text.injEq] at h; rw [h]
  | .tup a, .tup b, fa, fb, h => by
    simp only [Dt.key, NestedKey.tup.injEq] at h
    rw [Dt.keys_inj a b (by simpa [Dt.flat] using fa) (by simpa [Dt.flat] using fb) h]
  | .bl _, _, f, _, _ | .lst _, _, f, _, _ => by simp [Dt.flat] at f
  | _, .bl _, _, f, _ | _, .lst _, _, f, _ => by simp [Dt.flat] at f
  | .non, .num _, _, _, h | .non, .txt _, _, _, h | .non, .tup _, _, _, h => by simp [Dt.key] at h
  | .num _, .non, _, _, h | .num _, .txt _, _, _, h | .num _, .tup _, _, _, h => by simp [Dt.key] at h
  | .txt _, .non, _, _, h | .txt _, .num _, _, _, h | .txt _, .tup _, _, _, h => by simp [Dt.key] at h
  | .tup _, .non, _, _, h | .tup _, .num _, _, _, h | .tup _, .txt _, _, _, h => by simp [Dt.key] at h
theorem Dt.keys_inj : ∀ a b : List Dt, Dt.flatAll a = true → Dt.flatAll b = true → Dt.keys a = Dt.keys b → a = b
  | [], [], _, _, _ => rfl
  | a :: as, b :: bs, fa, fb, h => by
    simp only [Dt.keys, List.cons.injEq] at h
    simp only [Dt.flatAll, Bool.and_eq_true] at fa fb
    rw [Dt.key_inj a b fa.1 fb.1 h.1, Dt.keys_inj as bs fa.2 fb.2 h.2]
  | [], _ :: _, _, _, h => by simp [Dt.keys] at h
  | _ :: _, [], _, _, h => by simp [Dt.keys] at h
end
/-- the value y is the key k -/
def KyAt (K : PySem.W.Frag) (H : Hp) (y : V) (k : NestedKey) : Prop := ∃ d : Dt, d.flat = true ∧ d.key = k ∧ d.depth ≤ 8 ∧ DtAt K H y d
theorem KyAt.of {K : PySem.W.Frag} {H : Hp} {y : V} {d : Dt} (h : DtAt K H y d) (f : d.flat = true := by rfl) (n : d.depth ≤ 8 := by first | decide | (simp [Dt.depth, Dt.depthAll]; done)) : KyAt K H y d.key := ⟨d, f, rfl, n, h⟩
theorem KyAt.stp {K : PySem.W.Frag} {M : List Addr} {H H1 : Hp} {y : V} {k : NestedKey} (h : KyAt K H y k) (s : Stp M H H1) : KyAt K H1 y k :=
  let ⟨d, f, e, n, x⟩ := h; ⟨d, f, e, n, DtAt.stp s d y f x⟩
theorem KyAt.is {X : Cx} {pins : List (Addr × Obj)} {σ : L2.St} {H : Hp} {s : Shared} {a : Addr} {k : NestedKey} (I : Inv X pins σ H s) (h : KyAt X.K H (.ref a) k) : (nestedKind X.prog X.w).is s.heap k a := by
  obtain ⟨d, f, e, n, x⟩ := h
  have r := DtIs.nested d _ f (DtAt.is I d _ _ x (show RelV (.ref a) (.ref a) from rfl))
  rw [e] at r
  exact ⟨r, by rw [← e, Dt.depth_key d f]; exact n⟩
/-! ### the object -/
section
variable (P : Program) (w : World)
abbrev NdRel : List (NestedKey × Addr × V) → List (NestedKey × Addr × Value) → Prop := Paired fun p q => p.1 = q.1 ∧ p.2.1 = q.2.1 ∧ RelV p.2.2 q.2.2
def NdRaw (d : Addr) (xs : List (NestedKey × Addr × V)) (h : Heap) : Prop :=
  xs.length ≤ sizeLine ∧ (d == sysModules) = false ∧ ∃ ys : List (NestedKey × Addr × Value), NdRel xs ys ∧
    ∃ o es ep, h.get? d = some o ∧ o.ExactDict ∧ o.data = .dict es ep ∧ es.toList = ys.map (entryOfKey (nestedKind P w)) ∧ (ys.map (·.1)).Nodup
/-- a dict, its entries in order: key, the key's tuple, value -/
def ndO (d : Addr) (xs : List (NestedKey × Addr × V)) : HO := .ext (NdRaw P w d xs)
end
section
variable {P : Program} {w : World} {d : Addr} {xs : List (NestedKey × Addr × V)} {H : Hp} {h : Heap}
theorem ndO_ok (x : NdRaw P w d xs h) : ObjOk P w H h d (ndO P w d xs) := by
  refine ⟨x, ?_, fun h1 h2 y k => ?_⟩
  · obtain ⟨_, _, ys, _, o, es, ep, e, _⟩ := x
    exact ⟨o, e⟩
  · obtain ⟨z, hd, ys, r, o, es, ep, e, q⟩ := y
    exact ⟨z, hd, ys, r, o, es, ep, k o e, q⟩
theorem ndO_of {o : HO} (x : ObjOk P w H h d (ndO P w d xs)) : NdRaw P w d xs h := x.1
end
/-! ### entries by their keys -/
abbrev NKV := NestedKey × V
def plainX (xs : List (NestedKey × Addr × V)) : List NKV := xs.map fun x => (x.1, x.2.2)
theorem plainX_len (xs : List (NestedKey × Addr × V)) : (plainX xs).length = xs.length := by simp [plainX]
def putX (xs : List (NestedKey × Addr × V)) (k : NestedKey) (a : Addr) (v : V) : List (NestedKey × Addr × V) :=
  if (xs.any fun x => decide (x.1 = k)) = true then xs.map (fun x => if x.1 = k then (x.1, x.2.1, v) else x) else xs ++ [(k, a, v)]
theorem plainX_put (xs : List (NestedKey × Addr × V)) (k : NestedKey) (a : Addr) (v : V) : plainX (putX xs k a v) = putK (plainX xs) k v := by
  unfold putX putK plainX
  have e : ((xs.map fun x => ((x.1, x.2.2) : NKV)).any fun kv => decide (kv.1 = k)) = xs.any fun x => decide (x.1 = k) := by
    rw [List.any_map]; rfl
  rw [e]
  split
  · rw [List.map_map, List.map_map]
    refine List.map_congr_left fun x _ => ?_
    by_cases h : x.1 = k <;> simp [h]
  · simp
theorem putX_mem {xs : List (NestedKey × Addr × V)} {k : NestedKey} {a : Addr} {v : V} {x : NestedKey × Addr × V} (h : x ∈ putX xs k a v) : (x.1 = k ∧ x.2.1 = a) ∨ ∃ y ∈ xs, y.1 = x.1 ∧ y.2.1 = x.2.1 := by
  unfold putX at h
  split at h
  · obtain ⟨y, hy, e⟩ := List.mem_map.mp h
    refine .inr ⟨y, hy, ?_⟩
    by_cases q : y.1 = k
    · rw [if_pos q] at e; rw [← e]; exact ⟨rfl, rfl⟩
    · rw [if_neg q] at e; rw [← e]; exact ⟨rfl, rfl⟩
  · rcases List.mem_append.mp h with h | h
    · exact .inr ⟨x, h, rfl, rfl⟩
    · rw [List.mem_singleton] at h
      rw [h]; exact .inl ⟨rfl, rfl⟩
theorem NdRel.val {xs : List (NestedKey × Addr × V)} {ys : List (NestedKey × Addr × Value)} (r : NdRel xs ys) (k : NestedKey) : RelO (valV (plainX xs) k) ((atKey ys k).map (·.2)) := by
  induction r with
  | nil => exact True.intro
  | @cons p q ps qs h t ih =>
    obtain ⟨h1, _, h2⟩ := h
    by_cases e : p.1 = k
    · have e' : q.1 = k := h1.symm.trans e
      have b : atKey (q :: qs) k = some q.2 := by simp [atKey, List.find?_cons, e']
      have c : valV (plainX (p :: ps)) k = some p.2.2 := valV_pos (p := (p.1, p.2.2)) e
      rw [c, b]; exact h2
    · have e' : ¬ q.1 = k := fun z => e (h1.trans z)
      have b : atKey (q :: qs) k = atKey qs k := by simp [atKey, List.find?_cons, e']
      have c : valV (plainX (p :: ps)) k = valV (plainX ps) k := valV_neg (p := (p.1, p.2.2)) e
      rw [c, b]; exact ih
theorem NdRel.any {xs : List (NestedKey × Addr × V)} {ys : List (NestedKey × Addr × Value)} (r : NdRel xs ys) (k : NestedKey) : (xs.any fun x => decide (x.1 = k)) = (atKey ys k).isSome := by
  have h := (r.val k).isSome_eq
  rw [Option.isSome_map] at h
  rw [← h, ← valV_any]
  show _ = (plainX xs).any _
  unfold plainX
  rw [List.any_map]; rfl
theorem NdRel.repl {xs : List (NestedKey × Addr × V)} {ys : List (NestedKey × Addr × Value)} (r : NdRel xs ys) (k : NestedKey) {v : V} {u : Value} (rv : RelV v u) : NdRel (xs.map fun x => if x.1 = k then (x.1, x.2.1, v) else x) (ys.map (putAt k u)) := by
  induction r with
  | nil => exact .nil
  | @cons p q ps qs h t ih =>
    rw [List.map_cons, List.map_cons]
    refine .cons ?_ ih
    obtain ⟨h1, h2, h3⟩ := h
    unfold putAt
    by_cases e : p.1 = k
    · rw [if_pos e, if_pos (h1.symm.trans e)]; exact ⟨h1, h2, rv⟩
    · rw [if_neg e, if_neg (fun z => e (h1.trans z))]; exact ⟨h1, h2, h3⟩
theorem NdRel.put {xs : List (NestedKey × Addr × V)} {ys : List (NestedKey × Addr × Value)} (r : NdRel xs ys) (k : NestedKey) {a : Addr} {v : V} {u : Value} (rv : RelV v u) : NdRel (putX xs k a v) (storedH ys k a u) := by
  unfold putX storedH
  rw [r.any k]
  by_cases q : (atKey ys k).isSome = true
  · rw [if_pos q, if_pos q]; exact r.repl k rv
  · rw [if_neg q, if_neg q]; exact Paired.snoc r ⟨rfl, rfl, rv⟩
theorem putX_len (xs : List (NestedKey × Addr × V)) (k : NestedKey) (a : Addr) (v : V) : (putX xs k a v).length ≤ xs.length + 1 := by
  have h := length_putK (plainX xs) k v
  rw [← plainX_put xs k a v, plainX_len, plainX_len] at h
  exact h
/-! ### what is known of a dict -/
/-- the entries xs have their keys' tuples where they say -/
def KeysAt (K : PySem.W.Frag) (H : Hp) (xs : List (NestedKey × Addr × V)) : Prop := ∀ x ∈ xs, KyAt K H (.ref x.2.1) x.1
theorem KeysAt.stp {K : PySem.W.Frag} {M : List Addr} {H H1 : Hp} {xs : List (NestedKey × Addr × V)} (h : KeysAt K H xs) (s : Stp M H H1) : KeysAt K H1 xs := fun x hx => (h x hx).stp s
theorem KeysAt.put {K : PySem.W.Frag} {H : Hp} {xs : List (NestedKey × Addr × V)} {k : NestedKey} {a : Addr} {v : V} (h : KeysAt K H xs) (ha : KyAt K H (.ref a) k) : KeysAt K H (putX xs k a v) := fun x hx => by
  rcases putX_mem hx with ⟨e1, e2⟩ | ⟨y, hy, e1, e2⟩
  · rw [e1, e2]; exact ha
  · rw [← e1, ← e2]; exact h y hy
/-- a dict that is ours: may be read and written -/
def ND (P : Program) (w : World) (K : PySem.W.Frag) (H : Hp) (d : Addr) (kvs : List NKV) : Prop := ∃ xs, H d = some (ndO P w d xs) ∧ KeysAt K H xs ∧ plainX xs = kvs
/-- .. while it is walked -/
def NDF (P : Program) (w : World) (K : PySem.W.Frag) (H : Hp) (d : Addr) (o : Obj) (kvs : List NKV) : Prop := ∃ xs, H d = some (.frz o (ndO P w d xs)) ∧ KeysAt K H xs ∧ plainX xs = kvs
/-- .. either -/
def NDR (P : Program) (w : World) (K : PySem.W.Frag) (H : Hp) (d : Addr) (kvs : List NKV) : Prop := ∃ xs, Rd H d (ndO P w d xs) ∧ KeysAt K H xs ∧ plainX xs = kvs
section
variable {P : Program} {w : World} {K : PySem.W.Frag} {H H1 : Hp} {M : List Addr} {d : Addr} {kvs : List NKV} {o : Obj}
theorem ND.r (h : ND P w K H d kvs) : NDR P w K H d kvs := let ⟨xs, e, q⟩ := h; ⟨xs, .inl e, q⟩
theorem NDF.r (h : NDF P w K H d o kvs) : NDR P w K H d kvs := let ⟨xs, e, q⟩ := h; ⟨xs, .inr ⟨o, e⟩, q⟩
theorem ND.stp (h : ND P w K H d kvs) (s : Stp M H H1) (n : d ∉ M) : ND P w K H1 d kvs := let ⟨xs, e, k, q⟩ := h; ⟨xs, s.keep _ _ e n, k.stp s, q⟩
theorem NDF.stp (h : NDF P w K H d o kvs) (s : Stp M H H1) (n : d ∉ M) : NDF P w K H1 d o kvs := let ⟨xs, e, k, q⟩ := h; ⟨xs, s.keep _ _ e n, k.stp s, q⟩
theorem ND.there (h : ND P w K H d kvs) : ∃ u, H d = some u ∧ ∀ xs, u ≠ .tup xs := let ⟨xs, e, _⟩ := h; ⟨_, e, fun _ z => nomatch z⟩
end
section
variable {X : Cx} {pins : List (Addr × Obj)} {σ : L2.St} {H : Hp} {s : Shared} {d a : Addr} {k : NestedKey} {kvs : List NKV} {v : V} {u : Value} {A : Around} {E : Value → Shared → Prop} {xs : List (NestedKey × Addr × V)}
theorem nd_raw (I : Inv X pins σ H s) (e : Rd H d (ndO X.prog X.w d xs)) (hk : KeysAt X.K H xs) : xs.length ≤ sizeLine ∧ (d == sysModules) = false ∧ ∃ ys, NdRel xs ys ∧ s.heap.DictOfH (nestedKind X.prog X.w) d ys := by
  obtain ⟨z, hd, ys, r, o, es, ep, h1, h2, h3, h4, h5⟩ := (ndO_of (o := ndO X.prog X.w d xs) (e.ok I.hok))
  refine ⟨z, hd, ys, r, o, es, ep, h1, h2, h3, h4, ?_, h5⟩
  have all : ∀ {l : List (NestedKey × Addr × V)} {m : List (NestedKey × Addr × Value)}, NdRel l m → KeysAt X.K H l → ∀ x ∈ m, (nestedKind X.prog X.w).is s.heap x.1 x.2.1 := by
    intro l m q
    induction q with
    | nil => intro _ x hx; exact nomatch hx
    | @cons p q ps qs hq t ih =>
      intro ha x hx
      rcases List.mem_cons.mp hx with e | hx
      · subst e
        rw [← hq.1, ← hq.2.1]
        exact (ha p List.mem_cons_self).is I
      · exact ih (fun y hy => ha y (List.mem_cons_of_mem _ hy)) x hx
  exact all r hk
theorem nd_room (hu : A.units + 9 < cLine) : (nestedKind X.prog X.w).room A.in1 := by
  show A.in1.units + 8 < cLine
  rw [Around.in1_units]; omega
theorem nd_getItem {Q : Value → Shared → Prop} (hu : A.units + 9 < cLine) (I : Inv X pins σ H s) (g : NDR X.prog X.w X.K H d kvs) (hk : KyAt X.K H (.ref a) k) (hv : valV kvs k = some v) (h : ∀ w' s', Inv X pins σ H s' → RelV v w' → Q w' s') :
    wpAny (model X.prog X.w) A (getItem (.ref d) (.ref a)) Q E s := by
  obtain ⟨xs, e, ks, rfl⟩ := g
  obtain ⟨z, hd, ys, rel, dd⟩ := nd_raw I e ks
  obtain ⟨w', hw, rw'⟩ := RelO.some_of (v := v) (o := (atKey ys k).map (·.2)) (by rw [← hv]; exact rel.val k)
  obtain ⟨p, hp, hp2⟩ := Option.map_eq_some_iff.mp hw
  refine wpAny_getItem_heap (nd_room hu) (hk.is I) dd hp ?_
  rw [hp2]
  exact h w' _ (I.tok _) rw'
theorem nd_in {Q : Value → Shared → Prop} (hu : A.units + 9 < cLine) (I : Inv X pins σ H s) (g : NDR X.prog X.w X.K H d kvs) (hk : KyAt X.K H (.ref a) k) (h : ∀ s', Inv X pins σ H s' → Q (.bool (valV kvs k).isSome) s') :
    wpAny (model X.prog X.w) A (compareOp .In (.ref a) (.ref d)) Q E s := by
  obtain ⟨xs, e, ks, rfl⟩ := g
  obtain ⟨z, hd, ys, rel, dd⟩ := nd_raw I e ks
  refine wpAny_in_heap (nd_room hu) (hk.is I) hd dd ?_
  have q := (rel.val k).isSome_eq
  rw [Option.isSome_map] at q
  rw [← q]
  exact h _ (I.tok _)
theorem nd_notIn {Q : Value → Shared → Prop} (hu : A.units + 9 < cLine) (I : Inv X pins σ H s) (g : NDR X.prog X.w X.K H d kvs) (hk : KyAt X.K H (.ref a) k) (h : ∀ s', Inv X pins σ H s' → Q (.bool (!(valV kvs k).isSome)) s') :
    wpAny (model X.prog X.w) A (compareOp .NotIn (.ref a) (.ref d)) Q E s := by
  obtain ⟨xs, e, ks, rfl⟩ := g
  obtain ⟨z, hd, ys, rel, dd⟩ := nd_raw I e ks
  refine wpAny_notIn_heap (nd_room hu) (hk.is I) hd dd ?_
  have q := (rel.val k).isSome_eq
  rw [Option.isSome_map] at q
  rw [← q]
  exact h _ (I.tok _)
theorem nd_setItem {Q : Unit → Shared → Prop} (hu : A.units + 9 < cLine) (I : Inv X pins σ H s) (e : H d = some (ndO X.prog X.w d xs)) (ks : KeysAt X.K H xs) (hk : KyAt X.K H (.ref a) k) (hl : xs.length < sizeLine) (rv : RelV v u)
    (h : ∀ s', Inv X pins σ (upd H d (ndO X.prog X.w d (putX xs k a v))) s' → Q () s') : wpAny (model X.prog X.w) A (setItem (.ref d) (.ref a) u) Q E s := by
  obtain ⟨z, hd, ys, rel, dd⟩ := nd_raw I (.inl e) ks
  have hz : ys.length ≤ sizeLine := by rw [← Paired.length rel]; exact z
  have hl2 : (putX xs k a v).length ≤ sizeLine := by have := putX_len xs k a v; omega
  refine wpAny_setItem_heap (hsz := hz) (nd_room hu) (hk.is I) dd fun h' dd' hs => h _ ?_
  obtain ⟨q, es, ep, hq, h2, h3, h4, _, h5⟩ := dd'
  refine d_write I (by rw [e]; exact True.intro) hs ⟨q, hq⟩ (ndO_ok ⟨hl2, hd, _, rel.put k rv, q, es, ep, hq, h2, h3, h4, h5⟩)
end
/-! ### readings and rules -/
def tNGet (P : Program) (w : World) (K : PySem.W.Frag) (td ty : TE) : TE := fun σ H Q => td σ H fun x H1 => ty σ H1 fun y H2 => ∃ d a kvs k v, x = .ref d ∧ y = .ref a ∧ NDR P w K H2 d kvs ∧ KyAt K H2 (.ref a) k ∧ valV kvs k = some v ∧ Q v H2
def tNIn (P : Program) (w : World) (K : PySem.W.Frag) (ty td : TE) : TE := fun σ H Q => ty σ H fun y H1 => td σ H1 fun x H2 => ∃ d a kvs k, x = .ref d ∧ y = .ref a ∧ NDR P w K H2 d kvs ∧ KyAt K H2 (.ref a) k ∧ Q (.bl (valV kvs k).isSome) H2
def tNNotIn (P : Program) (w : World) (K : PySem.W.Frag) (ty td : TE) : TE := fun σ H Q => ty σ H fun y H1 => td σ H1 fun x H2 => ∃ d a kvs k, x = .ref d ∧ y = .ref a ∧ NDR P w K H2 d kvs ∧ KyAt K H2 (.ref a) k ∧ Q (.bl (!(valV kvs k).isSome)) H2
/-- d[y] = v: the dict behind has putK; the heap behind told by what is known of it -/
def sNPut (P : Program) (w : World) (K : PySem.W.Frag) (td ty tv : TE) : TS := fun D σ H => tv σ H fun v H1 => td σ H1 fun x H2 => ty σ H2 fun y H3 => ∃ d a kvs k, x = .ref d ∧ y = .ref a ∧ ND P w K H3 d kvs ∧ KyAt K H3 (.ref a) k ∧ kvs.length < sizeLine ∧
  ∀ H4, ND P w K H4 d (putK kvs k v) → Stp [d] H3 H4 → (∀ (H0 : Hp) M, Stp M H0 H3 → H0 d = none → Stp M H0 H4) → D.nx σ H4
def tNNew (P : Program) (w : World) (K : PySem.W.Frag) : TE := fun _ H Q => ∀ p H1, H p = none → ND P w K H1 p [] → Stp [] H H1 → Q (.ref p) H1
section
variable {X : Cx} {o i e value : Expr} {pos pos' tpos : Pos} {td ty tv : TE}
theorem nd_typeIs {pins : List (Addr × Obj)} {σ : L2.St} {H : Hp} {s : Shared} {d : Addr} {kvs : List NKV} (I : Inv X pins σ H s) (g : NDR X.prog X.w X.K H d kvs) : s.TypeIs (.ref d) "dict" := by
  obtain ⟨xs, e, ks, rfl⟩ := g
  obtain ⟨z, hd, ys, rel, dd⟩ := nd_raw I e ks
  exact dd.typeIs
theorem hu9 {A : Around} {k : Nat} (hr : Room k A) : A.units + 9 < cLine := by have := hr.un; omega
theorem pe_nget {k : Nat} (hr : Room k X.A) (ho : PE X o td) (hi : PE X i ty) (hs : NoSl i) : PE X (.Subscript o i pos) (tNGet X.prog X.w X.K td ty) := by
  refine ⟨fun pins s σ H Q I h => ?_⟩
  refine subD_of PySem.F.slot_dict_getitem.lookup hs (thn (ho.run pins s σ H _ I h) fun u s1 ⟨x, H1, I1, rx, q1⟩ => thn (hi.run pins s1 σ H1 _ I1 q1) fun iv s2 ⟨y, H2, I2, ry, d, a, kvs, k, v, ex, ey, g, hk, hv, q2⟩ => ?_)
  subst ex ey
  obtain rfl : u = Value.ref d := rx
  obtain rfl : iv = Value.ref a := ry
  exact ⟨nd_typeIs I2 g, nd_getItem (hu9 hr) I2 g hk hv fun w' s3 I3 rw' => ⟨v, H2, I3, rw', q2⟩⟩
theorem pc_nin {k : Nat} (hr : Room k X.A) (hi : PE X i ty) (ho : PE X o td) : PC X .In i o (tNIn X.prog X.w X.K ty td) := by
  refine ⟨fun pins s σ H Q I h => ?_⟩
  refine thn (hi.run pins s σ H _ I h) fun iv s1 ⟨y, H1, I1, ry, q1⟩ => thn (ho.run pins s1 σ H1 _ I1 q1) fun u s2 ⟨x, H2, I2, rx, d, a, kvs, k, ex, ey, g, hk, q2⟩ => ?_
  subst ex ey
  obtain rfl : u = Value.ref d := rx
  obtain rfl : iv = Value.ref a := ry
  exact nd_in (hu9 hr) I2 g hk fun s3 I3 => ⟨.bl _, H2, I3, rfl, q2⟩
theorem pc_nnotin {k : Nat} (hr : Room k X.A) (hi : PE X i ty) (ho : PE X o td) : PC X .NotIn i o (tNNotIn X.prog X.w X.K ty td) := by
  refine ⟨fun pins s σ H Q I h => ?_⟩
  refine thn (hi.run pins s σ H _ I h) fun iv s1 ⟨y, H1, I1, ry, q1⟩ => thn (ho.run pins s1 σ H1 _ I1 q1) fun u s2 ⟨x, H2, I2, rx, d, a, kvs, k, ex, ey, g, hk, q2⟩ => ?_
  subst ex ey
  obtain rfl : u = Value.ref d := rx
  obtain rfl : iv = Value.ref a := ry
  exact nd_notIn (hu9 hr) I2 g hk fun s3 I3 => ⟨.bl _, H2, I3, rfl, q2⟩
theorem ps_nput {k : Nat} (hr : Room k X.A) (ho : PE X o td) (hi : PE X i ty) (hv : PE X value tv) (hs : swapsWith value (some (.Subscript o i pos')) pos.line X.env = pure false) :
    PS X (.Assign [.Subscript o i pos'] value pos) (sNPut X.prog X.w X.K td ty tv) := by
  refine ⟨fun pins s σ H D I h => ?_⟩
  refine wpAny_Assign_Subscript (thn (hv.run pins s σ H _ I h) fun r s1 ⟨v, H1, I1, rv, q1⟩ => thn (ho.run pins s1 σ H1 _ I1 q1) fun u s2 ⟨x, H2, I2, rx, q2⟩ => thn (hi.run pins s2 σ H2 _ I2 q2) fun iv s3 ⟨y, H3, I3, ry, d, a, kvs, k, ex, ey, g, hk, hl, q3⟩ => ?_) hs
  subst ex ey
  obtain rfl : u = Value.ref d := rx
  obtain rfl : iv = Value.ref a := ry
  obtain ⟨xs, e, ks, rfl⟩ := g
  rw [plainX_len] at hl
  have st : Stp [d] H3 (upd H3 d (ndO X.prog X.w d (putX xs k a v))) := .wr (by simp) e fun _ z => nomatch z
  refine nd_setItem (hu9 hr) I3 e ks hk hl rv fun s4 I4 => ⟨σ, _, I4, q3 _ ⟨_, upd_same, (ks.put hk).stp st, plainX_put xs k a v⟩ st fun H0 M s0 n => s0.mut n⟩
theorem pe_dnewN : PE X (.Dict [] [] pos) (tNNew X.prog X.w X.K) := ⟨fun pins s σ H Q I h => by
  have hn := I.hok.fresh (Nat.le_refl s.heap.objs.size)
  refine wpAny_Dict_empty ⟨.ref s.heap.objs.size, _, I.laid (a := s.heap.objs.size) (o := ndO X.prog X.w s.heap.objs.size []) (t' := s.toks) (fun _ _ q => Heap.get?_push_of_some _ q) (Nat.le_refl _) (ndO_ok ?_), rfl, h _ _ hn ⟨[], upd_same, fun _ z => (nomatch z), rfl⟩ (.new hn)⟩
  exact ⟨Nat.zero_le _, beq_eq_false_iff_ne.mpr (Ne.symm (Nat.ne_of_lt I.big)), [], .nil, _, #[], 0, Heap.get?_push_size _ rfl, ⟨rfl, rfl, rfl⟩, rfl, rfl, List.nodup_nil⟩⟩
end
end GT

/-! ## walks of such dicts -/
namespace GT
open PySem PySem.Spec PyProof.Rows L2
section
variable {X : Cx} {pins : List (Addr × Obj)} {σ : L2.St} {H : Hp} {s : Shared} {d : Addr} {o : Obj}
theorem nd_frz {xs : List (NestedKey × Addr × V)} (I : Inv X pins σ H s) (h : H d = some (.frz o (ndO X.prog X.w d xs))) :
    (d == sysModules) = false ∧ s.heap.get? d = some o ∧ o.ExactDict ∧ ∃ (es : Array DictEntry) (ep : Nat), o.data = .dict es ep ∧ es.size = xs.length ∧
      ∀ (i : Nat) (x : NestedKey × Addr × V), xs[i]? = some x → ∃ en : DictEntry, es[i]? = some en ∧ en.key = .ref x.2.1 ∧ RelV x.2.2 en.val := by
  obtain ⟨hd, z⟩ := I.hok d _ h
  obtain ⟨z, hs, ys, pr, o', es, ep, ho, hx, hdt, he, _⟩ := ndO_of (o := ndO X.prog X.w d xs) z
  rw [hd] at ho
  cases ho
  refine ⟨hs, hd, hx, es, ep, hdt, ?_, fun i x e => ?_⟩
  · have l1 : es.size = ys.length := size_of_entries he
    have l2 : xs.length = ys.length := Paired.length pr
    omega
  · obtain ⟨b, hb, e1, e2, e3⟩ := paired_get pr e
    have q := entry_at he i
    rw [hb] at q
    exact ⟨_, q, congrArg Value.ref e2.symm, e3⟩
end
/-- the entries of the locked dict at d: the keys' tuples | new pairs -/
def ItN (P : Program) (w : World) (d : Addr) (o : Obj) (xs : List (NestedKey × Addr × V)) : It :=
  ⟨fun i H => H d = some (.frz o (ndO P w d xs)) ∧ i < xs.length, fun i H x H' => H' = H ∧ ∃ e, xs[i]? = some e ∧ x = .ref e.2.1, fun i H => H d = some (.frz o (ndO P w d xs)) ∧ xs.length ≤ i⟩
def ItNi (P : Program) (w : World) (d : Addr) (o : Obj) (xs : List (NestedKey × Addr × V)) : It :=
  ⟨fun i H => H d = some (.frz o (ndO P w d xs)) ∧ i < xs.length, fun i H x H' => ∃ T e, xs[i]? = some e ∧ x = .ref T ∧ H T = none ∧ H' = upd H T (.tup [.ref e.2.1, e.2.2]), fun i H => H d = some (.frz o (ndO P w d xs)) ∧ xs.length ≤ i⟩
section
variable {P : Program} {w : World} {K : PySem.W.Frag} {tg : Expr} {d : Addr} {o : Obj} {es : Array DictEntry} {ep : Nat} {xs : List (NestedKey × Addr × V)}
theorem turn_n (it : Addr) (hod : o.data = .dict es ep) : Turn P w K tg (ItN P w d o xs) [it] it (fun i h => h.IsKeyIter it d i xs.length ep) where
  mem := by simp
  obj := fun i h st b hb => by
    have e : b = it := by simpa using hb
    subst e
    obtain ⟨oi, e, c, dd⟩ := st
    exact ⟨oi, e, fun v z => by rw [dd] at z; cases z⟩
  keep := fun i h h' st k => st.at fun oi e => k it (by simp) oi e
  item := by
    intro X hP hw hK hc i pins s σ H E I hf st hg
    subst hP hw hK
    obtain ⟨hd, hi⟩ := hg
    obtain ⟨f0, f1, f2, f3, f4, f5⟩ := hf it (by simp)
    obtain ⟨hs, hgd, hx, es', ep', hdt, hsz, ent⟩ := nd_frz I hd
    obtain ⟨rfl, rfl⟩ := dict_ep hod hdt
    obtain ⟨e, he⟩ : ∃ e, xs[i]? = some e := ⟨xs[i], List.getElem?_eq_getElem hi⟩
    obtain ⟨en, hen, hkey, _⟩ := ent i e he
    refine next_key_item st hgd hdt hsz hen fun h' st' sb => ?_
    have I1 : Inv X pins σ H { s with heap := h' } := I.turned (t' := s.toks) (fun b ob hb e => (sb.2 b hb).trans e) f0 f1 f3 f4 f5
    obtain ⟨oi, e1, c, dd⟩ := id st'
    exact ⟨en.key, rfl, go_of (s := { s with heap := h' }) e1 c dd (by decide) ⟨.ref e.2.1, H, I1, hkey, ⟨rfl, e, he, rfl⟩, st', fun b hb => (hf b hb).1⟩⟩
  done := by
    intro X hP hw hK hc i pins s σ H E I hf st hg
    subst hP hw hK
    obtain ⟨hd, hi⟩ := hg
    obtain ⟨f0, f1, f2, f3, f4, f5⟩ := hf it (by simp)
    obtain ⟨hs, hgd, hx, es', ep', hdt, hsz, ent⟩ := nd_frz I hd
    obtain ⟨rfl, rfl⟩ := dict_ep hod hdt
    exact next_key_end (I.ok.hd hc) st hgd hdt hsz hi fun h' eb => ⟨rfl, I.turned (t' := s.toks) (fun b ob hb e => eb b ob hb e) f0 f1 f3 f4 f5⟩
  self := fun A i s Q E st h => by
    refine wpAny_pyIter_slot st.typeIs F.slot_dict_keyiterator_iter (wpAny_call_entry F.slot_dict_keyiterator_iter st.typeIs F.entry_dict_keyiterator_iter ?_ (F.args_dict_keyiterator_iter_1 _))
    show wpAny _ _ (ret (.ref it)) _ _ s
    exact wpAny_pure ⟨_, rfl, "dict_keyiterator", _, st.typeIs, F.slot_dict_keyiterator_next.lookup, h⟩
theorem turn_ni {elts : List Expr} {kk : Nat} {tpos : Pos} (it : Addr) (hod : o.data = .dict es ep) :
    Turn P w K (.Tuple elts kk tpos) (ItNi P w d o xs) [it] it (fun i h => ∃ ok ov, IsItemIter h it d i xs.length ep ok ov) where
  mem := by simp
  obj := fun i h st b hb => by
    have e : b = it := by simpa using hb
    subst e
    obtain ⟨ok, ov, e⟩ := st
    exact ⟨_, e, fun v z => nomatch z⟩
  keep := fun i h h' st k => let ⟨ok, ov, e⟩ := st; ⟨ok, ov, k it (by simp) _ e⟩
  item := by
    intro X hP hw hK hc i pins s σ H E I hf st hg
    subst hP hw hK
    obtain ⟨hd, hi⟩ := hg
    obtain ⟨hs, hgd, hx, es', ep', hdt, hsz, ent⟩ := nd_frz I hd
    obtain ⟨rfl, rfl⟩ := dict_ep hod hdt
    obtain ⟨e, hxe⟩ : ∃ e, xs[i]? = some e := ⟨xs[i], List.getElem?_eq_getElem hi⟩
    obtain ⟨en, hen, hkey, hval⟩ := ent i e hxe
    obtain ⟨ok, ov, he⟩ := st
    rw [← hsz] at he
    have hlt : it < s.heap.objs.size := Heap.lt_size he
    obtain ⟨hie, hen2⟩ := Array.getElem?_eq_some_iff.mp hen
    refine wpAny_pyNext_items_item_raw he ⟨o, hgd, hx, hdt⟩ hie fun h' ho hT hz hk => ?_
    refine ⟨_, rfl, wpAny_letOwnedTupleGo_items (s := { s with heap := h' }) ho fun h'' he' sb => ?_⟩
    rw [hen2, hkey] at hT
    have hT2 : h''.get? s.heap.objs.size = some { cls := .type "tuple", data := .seq #[.ref e.2.1, en.val] } := (sb.2 _ (Nat.ne_of_gt hlt)).trans hT
    have new : ObjOk X.prog X.w (upd H s.heap.objs.size (.tup [.ref e.2.1, e.2.2])) h'' s.heap.objs.size (.tup [.ref e.2.1, e.2.2]) :=
      ⟨by show 2 ≤ sizeLine; decide, [.ref e.2.1, en.val], .cons rfl (.cons hval .nil), ⟨_, hT2, rfl, _, rfl⟩⟩
    have I1 : Inv X pins σ (upd H s.heap.objs.size (.tup [.ref e.2.1, e.2.2])) { s with heap := h'' } :=
      I.turnedNew (t' := s.toks) (ch := [it]) (fun b ob hb e => (sb.2 b (by simpa using hb)).trans (hk b ob (by simpa using hb) e)) hf (Nat.le_refl _) new
    refine ⟨.ref s.heap.objs.size, _, I1, rfl, ⟨_, e, hxe, rfl, I.hok.fresh (Nat.le_refl _), rfl⟩, ⟨(es'[i]).key, (es'[i]).val, ?_⟩, fun b hb => ?_⟩
    · rw [← hsz]; exact he'
    · have e : b = it := by simpa using hb
      rw [e, upd_ne (Nat.ne_of_lt hlt)]
      exact (hf it (by simp)).1
  done := by
    intro X hP hw hK hc i pins s σ H E I hf st hg
    subst hP hw hK
    obtain ⟨hd, hi⟩ := hg
    obtain ⟨f0, f1, f2, f3, f4, f5⟩ := hf it (by simp)
    obtain ⟨hs, hgd, hx, es', ep', hdt, hsz, ent⟩ := nd_frz I hd
    obtain ⟨rfl, rfl⟩ := dict_ep hod hdt
    obtain ⟨ok, ov, he⟩ := st
    rw [← hsz] at he
    exact wpAny_pyNext_items_end_raw (I.ok.hd hc) he ⟨o, hgd, hx, hdt⟩ (by omega) fun h' eb => ⟨rfl, I.turned (t' := s.toks) (fun b ob hb e => eb b ob hb e) f0 f1 f3 f4 f5⟩
  self := fun A i s Q E st h => let ⟨_, _, e⟩ := st; PySem.W.kcp_self e h
end
def iN (P : Program) (w : World) (td : TE) : TI := fun σ H R => td σ H fun x H1 => ∃ d o xs, x = .ref d ∧ H1 d = some (.frz o (ndO P w d xs)) ∧ R (ItN P w d o xs) H1
def iNi (P : Program) (w : World) (td : TE) : TI := fun σ H R => td σ H fun x H1 => ∃ d o xs, x = .ref d ∧ H1 d = some (.frz o (ndO P w d xs)) ∧ R (ItNi P w d o xs) H1
section
variable {X : Cx} {tg e : Expr} {td : TE} {apos cpos : Pos}
theorem pi_n (he : PE X e td) : PI X tg e (iN X.prog X.w td) := by
  refine ⟨fun pins s σ H R I h => ?_⟩
  refine thn (he.run pins s σ H _ I h) fun u s1 ⟨x, H1, I1, rx, d, o, xs, ex, hd, q⟩ => ?_
  subst ex
  obtain rfl : u = Value.ref d := rx
  obtain ⟨hs, hgd, hx, es, ep, hdt, hsz, ent⟩ := nd_frz I1 hd
  refine iter_keys hs hgd hx hdt (pi_one (tk := s1.toks) I1 _ (turn_n _ hdt) ⟨_, Heap.get?_push_size _ rfl, rfl, ?_⟩ q)
  rw [hsz] <;> rfl
theorem pi_ni {elts : List Expr} {kk : Nat} {tpos : Pos} (he : PE X e td) (hbase : attributeBase e "items" X.env (eval e X.env) = eval e X.env := by rfl) (hline : (apos.endLine == cpos.line) = true := by rfl) :
    PI X (.Tuple elts kk tpos) (.Call (.Attribute e "items" apos) [] [] cpos) (iNi X.prog X.w td) := by
  refine ⟨fun pins s σ H R I h => ?_⟩
  refine wpAny_Call_method (T := "dict") (id := "dict.items") hbase rfl hline F.plainAttrs_dict F.slot_dict_items F.type_dict_items (thn (he.run pins s σ H _ I h) fun u s1 ⟨x, H1, I1, rx, d, o, xs, ex, hd, q⟩ => ?_)
  subst ex
  obtain rfl : u = Value.ref d := rx
  obtain ⟨hs, hgd, hx, es, ep, hdt, hsz, ent⟩ := nd_frz I1 hd
  have dr : s1.heap.DictRaw d es ep := ⟨o, hgd, hx, hdt⟩
  refine ⟨dr.typeIs, fun b q => by cases q; exact ⟨o, hgd, hx.2.1⟩, ?_⟩
  have I2 : Inv X pins σ H1 { s1 with heap := s1.heap.push { cls := .type "dict_items", data := .fields #[.ref d] } } := I1.kept (t' := s1.toks) fun b ob q => Heap.get?_push_of_some _ q
  have fin : wpAny (model X.prog X.w) X.A (pyIter (.ref s1.heap.objs.size)) (PIE X pins σ (.Tuple elts kk tpos) R) X.xe { s1 with heap := s1.heap.push { cls := .type "dict_items", data := .fields #[.ref d] } } := by
    refine wpAny_pyIter_items_raw (d := d) (es := es) (ep := ep) ⟨_, Heap.get?_push_size _ rfl, rfl, rfl⟩ (dr.at fun ob q => Heap.get?_push_of_some _ q) (pi_one (tk := s1.toks) I2 _ (turn_ni _ hdt) ⟨.none, .none, ?_⟩ q)
    rw [← hsz]
    exact Heap.get?_push_size _ rfl
  show wpAny _ _ (callWith cpos (.builtin "dict.items") [.ref d] [] []) _ X.xe s1
  exact method_meetsIn F.slot_dict_items F.entry_dict_items rfl (PySem.evalArgs_none ⟨rfl, dr.typeIs, F.args_dict_items_1 _, _, meets_dict_items_raw d hs, ⟨es, ep, dr⟩, fin⟩)
end
end GT

/-! ## loops over such dicts, locked; data in order -/
namespace GT
open PySem PySem.Spec PyProof.Rows L2
section
variable {P : Program} {w : World} {d : Addr} {o : Obj} {xs : List (NestedKey × Addr × V)}
theorem for_n {g : TG} {tb : TS} {D : Ends} {σ : L2.St} {H : Hp} (Pv : Nat → L2.St → Hp → Prop) (h0 : Pv 0 σ H) (hl : ∀ i σ H, i ≤ xs.length → Pv i σ H → H d = some (.frz o (ndO P w d xs)))
    (hs : ∀ i x σ H, xs[i]? = some x → Pv i σ H → g (.ref x.2.1) σ H fun σ2 H2 => tb { D with nx := Pv (i + 1), ct := Pv (i + 1), bk := D.nx } σ2 H2) (hd : ∀ σ H, Pv xs.length σ H → D.nx σ H) :
    ∃ W : Nat → Nat → L2.St → Hp → Prop, (∃ m, W 0 m σ H) ∧ ∀ i m σ H, W i m σ H →
      ((ItN P w d o xs).stop i H ∧ D.nx σ H) ∨ ((ItN P w d o xs).go i H ∧ ∃ N : L2.St → Hp → Prop, (∀ σ' H', N σ' H' → ∃ m', m' < m ∧ W (i + 1) m' σ' H') ∧ ∀ x H', (ItN P w d o xs).yld i H x H' → g x σ H' fun σ2 H2 => tb { D with nx := N, ct := N, bk := D.nx } σ2 H2) := by
  refine ⟨fun i m σ H => m = xs.length - i ∧ i ≤ xs.length ∧ Pv i σ H, ⟨xs.length, by simp, Nat.zero_le _, h0⟩, ?_⟩
  rintro i m σ H ⟨rfl, hi, p⟩
  have q := hl i σ H hi p
  by_cases hlt : i < xs.length
  · refine .inr ⟨⟨q, hlt⟩, Pv (i + 1), fun σ' H' p' => ⟨xs.length - (i + 1), by omega, rfl, hlt, p'⟩, fun x H' y => ?_⟩
    obtain ⟨e, z, hz, rfl⟩ := y
    subst e
    exact hs i z σ _ hz p
  · have e : i = xs.length := by omega
    subst e
    exact .inl ⟨⟨q, Nat.le_refl _⟩, hd σ H p⟩
theorem for_ni {g : TG} {tb : TS} {D : Ends} {σ : L2.St} {H : Hp} (Pv : Nat → L2.St → Hp → Prop) (h0 : Pv 0 σ H) (hl : ∀ i σ H, i ≤ xs.length → Pv i σ H → H d = some (.frz o (ndO P w d xs)))
    (hs : ∀ i x σ H T, xs[i]? = some x → Pv i σ H → H T = none → g (.ref T) σ (upd H T (.tup [.ref x.2.1, x.2.2])) fun σ2 H2 => tb { D with nx := Pv (i + 1), ct := Pv (i + 1), bk := D.nx } σ2 H2) (hd : ∀ σ H, Pv xs.length σ H → D.nx σ H) :
    ∃ W : Nat → Nat → L2.St → Hp → Prop, (∃ m, W 0 m σ H) ∧ ∀ i m σ H, W i m σ H →
      ((ItNi P w d o xs).stop i H ∧ D.nx σ H) ∨ ((ItNi P w d o xs).go i H ∧ ∃ N : L2.St → Hp → Prop, (∀ σ' H', N σ' H' → ∃ m', m' < m ∧ W (i + 1) m' σ' H') ∧ ∀ x H', (ItNi P w d o xs).yld i H x H' → g x σ H' fun σ2 H2 => tb { D with nx := N, ct := N, bk := D.nx } σ2 H2) := by
  refine ⟨fun i m σ H => m = xs.length - i ∧ i ≤ xs.length ∧ Pv i σ H, ⟨xs.length, by simp, Nat.zero_le _, h0⟩, ?_⟩
  rintro i m σ H ⟨rfl, hi, p⟩
  have q := hl i σ H hi p
  by_cases hlt : i < xs.length
  · refine .inr ⟨⟨q, hlt⟩, Pv (i + 1), fun σ' H' p' => ⟨xs.length - (i + 1), by omega, rfl, hlt, p'⟩, fun x H' y => ?_⟩
    obtain ⟨T, z, hz, rfl, n, rfl⟩ := y
    exact hs i z σ _ T hz p n
  · have e : i = xs.length := by omega
    subst e
    exact .inl ⟨⟨q, Nat.le_refl _⟩, hd σ H p⟩
theorem lc_n {g : TG} {tt : TT} {te : TE} {vs : List Nat} {σ : L2.St} {H1 : Hp} {D : Addr} {Qd : Hp → Prop} (Pv : Nat → Hp → Prop) (h0 : Pv 0 (upd H1 D (.lst []))) (hl : ∀ i H, i ≤ xs.length → Pv i H → H d = some (.frz o (ndO P w d xs)))
    (hs : ∀ i x H, xs[i]? = some x → Pv i H → g (.ref x.2.1) (wipe σ vs) H fun σ2 H2 => wipe σ2 vs = wipe σ vs ∧ tt σ2 H2 fun b H3 =>
      if b = true then te σ2 H3 fun y H4 => ∃ acc, H4 D = some (.lst acc) ∧ acc.length < sizeLine ∧ Pv (i + 1) (upd H4 D (.lst (acc ++ [y]))) else Pv (i + 1) H3) (hd : ∀ H, Pv xs.length H → Qd H) :
    ∃ W : Nat → Nat → Hp → Prop, (∃ m, W 0 m (upd H1 D (.lst []))) ∧ ∀ i m H, W i m H →
      ((ItN P w d o xs).stop i H ∧ Qd H) ∨ ((ItN P w d o xs).go i H ∧ ∃ Nx : Hp → Prop, (∀ H', Nx H' → ∃ m', m' < m ∧ W (i + 1) m' H') ∧ ∀ x H', (ItN P w d o xs).yld i H x H' → g x (wipe σ vs) H' fun σ2 H2 => wipe σ2 vs = wipe σ vs ∧ tt σ2 H2 fun b H3 =>
        if b = true then te σ2 H3 fun y H4 => ∃ acc, H4 D = some (.lst acc) ∧ acc.length < sizeLine ∧ Nx (upd H4 D (.lst (acc ++ [y]))) else Nx H3) := by
  refine ⟨fun i m H => m = xs.length - i ∧ i ≤ xs.length ∧ Pv i H, ⟨xs.length, by simp, Nat.zero_le _, h0⟩, ?_⟩
  rintro i m H ⟨rfl, hi, p⟩
  have q := hl i H hi p
  by_cases hlt : i < xs.length
  · refine .inr ⟨⟨q, hlt⟩, Pv (i + 1), fun H' p' => ⟨xs.length - (i + 1), by omega, rfl, hlt, p'⟩, fun x H' y => ?_⟩
    obtain ⟨e, z, hz, rfl⟩ := y
    subst e
    exact hs i z _ hz p
  · have e : i = xs.length := by omega
    subst e
    exact .inl ⟨⟨q, Nat.le_refl _⟩, hd H p⟩
theorem lc_ni {g : TG} {tt : TT} {te : TE} {vs : List Nat} {σ : L2.St} {H1 : Hp} {D : Addr} {Qd : Hp → Prop} (Pv : Nat → Hp → Prop) (h0 : Pv 0 (upd H1 D (.lst []))) (hl : ∀ i H, i ≤ xs.length → Pv i H → H d = some (.frz o (ndO P w d xs)))
    (hs : ∀ i x H T, xs[i]? = some x → Pv i H → H T = none → g (.ref T) (wipe σ vs) (upd H T (.tup [.ref x.2.1, x.2.2])) fun σ2 H2 => wipe σ2 vs = wipe σ vs ∧ tt σ2 H2 fun b H3 =>
      if b = true then te σ2 H3 fun y H4 => ∃ acc, H4 D = some (.lst acc) ∧ acc.length < sizeLine ∧ Pv (i + 1) (upd H4 D (.lst (acc ++ [y]))) else Pv (i + 1) H3) (hd : ∀ H, Pv xs.length H → Qd H) :
    ∃ W : Nat → Nat → Hp → Prop, (∃ m, W 0 m (upd H1 D (.lst []))) ∧ ∀ i m H, W i m H →
      ((ItNi P w d o xs).stop i H ∧ Qd H) ∨ ((ItNi P w d o xs).go i H ∧ ∃ Nx : Hp → Prop, (∀ H', Nx H' → ∃ m', m' < m ∧ W (i + 1) m' H') ∧ ∀ x H', (ItNi P w d o xs).yld i H x H' → g x (wipe σ vs) H' fun σ2 H2 => wipe σ2 vs = wipe σ vs ∧ tt σ2 H2 fun b H3 =>
        if b = true then te σ2 H3 fun y H4 => ∃ acc, H4 D = some (.lst acc) ∧ acc.length < sizeLine ∧ Nx (upd H4 D (.lst (acc ++ [y]))) else Nx H3) := by
  refine ⟨fun i m H => m = xs.length - i ∧ i ≤ xs.length ∧ Pv i H, ⟨xs.length, by simp, Nat.zero_le _, h0⟩, ?_⟩
  rintro i m H ⟨rfl, hi, p⟩
  have q := hl i H hi p
  by_cases hlt : i < xs.length
  · refine .inr ⟨⟨q, hlt⟩, Pv (i + 1), fun H' p' => ⟨xs.length - (i + 1), by omega, rfl, hlt, p'⟩, fun x H' y => ?_⟩
    obtain ⟨T, z, hz, rfl, n, rfl⟩ := y
    exact hs i z _ T hz p n
  · have e : i = xs.length := by omega
    subst e
    exact .inl ⟨⟨q, Nat.le_refl _⟩, hd H p⟩
end
/-! ### locks -/
section
variable {P : Program} {w : World} {K : PySem.W.Frag} {H : Hp} {d : Addr} {kvs : List NKV} {σ : L2.St} {Q : VK} {D : Ends}
theorem lockE_nd {t : TE} (g : ND P w K H d kvs) (h : ∀ o xs, plainX xs = kvs → KeysAt K H xs → H d = some (ndO P w d xs) →
    t σ (upd H d (.frz o (ndO P w d xs))) fun v H' => H' d = some (.frz o (ndO P w d xs)) ∧ Q v (upd H' d (ndO P w d xs))) : tLockE t σ H Q := by
  obtain ⟨xs, e, k, hx⟩ := g
  exact ⟨d, _, e, True.intro, fun o => h o xs hx k e⟩
theorem lock_nd {t : TS} (g : ND P w K H d kvs) (h : ∀ o xs, plainX xs = kvs → KeysAt K H xs → H d = some (ndO P w d xs) →
    t ⟨fun σ' H' => H' d = some (.frz o (ndO P w d xs)) ∧ D.nx σ' (upd H' d (ndO P w d xs)), fun v H' => H' d = some (.frz o (ndO P w d xs)) ∧ D.rt v (upd H' d (ndO P w d xs)), fun σ' H' => H' d = some (.frz o (ndO P w d xs)) ∧ D.bk σ' (upd H' d (ndO P w d xs)), fun σ' H' => H' d = some (.frz o (ndO P w d xs)) ∧ D.ct σ' (upd H' d (ndO P w d xs))⟩ σ (upd H d (.frz o (ndO P w d xs)))) : tLock t D σ H := by
  obtain ⟨xs, e, k, hx⟩ := g
  exact ⟨d, _, e, True.intro, fun o => h o xs hx k e⟩
theorem Stp.lock {M : List Addr} {H : Hp} {d : Addr} {o : Obj} {u : HO} (e : H d = some u) (nt : ∀ xs, u ≠ .tup xs) : Stp (d :: M) H (upd H d (.frz o u)) := .wr (by simp) e nt
theorem Stp.unlock {M : List Addr} {H H' : Hp} {d : Addr} {u : HO} (s : Stp (d :: M) H H') (e : H d = some u) (nt : ∀ xs, u ≠ .tup xs) (nb : ∀ ps, u ≠ .tbl ps := by exact fun _ z => nomatch z) : Stp M H (upd H' d u) :=
  ⟨fun c v h n => by
    by_cases q : c = d
    · rw [q, upd_same]; rw [q, e] at h; exact h
    · rw [upd_ne q]; exact s.keep c v h (by simp [q, n]),
   fun c xs h => by
    by_cases q : c = d
    · rw [q, e] at h; exact absurd (Option.some.inj h) (nt xs)
    · rw [upd_ne q]; exact s.tups c xs h,
   fun c ps h => by
    by_cases q : c = d
    · rw [q, upd_same] at h; exact absurd (Option.some.inj h) (nb ps)
    · rw [upd_ne q] at h; exact s.tbls c ps h⟩
/-- what is behind the lock, seen from within -/
theorem Stp.off {H' : Hp} {d : Addr} {o : Obj} {u : HO} (e : H' d = some (.frz o u)) (nb : ∀ ps, u ≠ .tbl ps := by exact fun _ z => nomatch z) : Stp [d] H' (upd H' d u) := .wr (by simp) e (fun _ z => nomatch z) nb
theorem ndO_nt {d : Addr} {xs : List (NestedKey × Addr × V)} : ∀ ys, ndO P w d xs ≠ .tup ys := fun _ z => nomatch z
theorem ndf {H' : Hp} {d : Addr} {o : Obj} {xs : List (NestedKey × Addr × V)} (e : H' d = some (.frz o (ndO P w d xs))) (k : KeysAt K H' xs) : NDF P w K H' d o (plainX xs) := ⟨xs, e, k, rfl⟩
theorem nd_of {H' : Hp} {d : Addr} {xs : List (NestedKey × Addr × V)} (e : H' d = some (ndO P w d xs)) (k : KeysAt K H' xs) : ND P w K H' d (plainX xs) := ⟨xs, e, k, rfl⟩
theorem plainX_at {xs : List (NestedKey × Addr × V)} {i : Nat} {x : NestedKey × Addr × V} (h : xs[i]? = some x) : (plainX xs)[i]? = some (x.1, x.2.2) := by unfold plainX; rw [List.getElem?_map, h]; rfl
end
/-! ### putK -/
section
variable {κ : Type} [DecidableEq κ]
theorem putK_mem {kvs : List (κ × V)} {k : κ} {v : V} {p : κ × V} (h : p ∈ putK kvs k v) : p = (k, v) ∨ (p ∈ kvs ∧ p.1 ≠ k) := by
  unfold putK at h
  split at h
  · obtain ⟨y, hy, e⟩ := List.mem_map.mp h
    by_cases q : y.1 = k
    · simp only [q, if_true] at e; left; rw [← e]
    · simp only [q, if_false] at e; right; rw [← e]; exact ⟨hy, q⟩
  · rename_i hn
    rcases List.mem_append.mp h with h | h
    · refine .inr ⟨h, fun e => hn ?_⟩
      rw [List.any_eq_true]; exact ⟨p, h, by simp [e]⟩
    · rw [List.mem_singleton] at h; exact .inl h
theorem putK_keys (kvs : List (κ × V)) (k : κ) (v : V) : (putK kvs k v).map (·.1) = if (kvs.any fun kv => decide (kv.1 = k)) = true then kvs.map (·.1) else kvs.map (·.1) ++ [k] := by
  unfold putK
  split
  · rw [List.map_map]
    refine List.map_congr_left fun x _ => ?_
    by_cases h : x.1 = k <;> simp [h]
  · simp
theorem putK_nd {kvs : List (κ × V)} {k : κ} {v : V} (h : (kvs.map (·.1)).Nodup) : ((putK kvs k v).map (·.1)).Nodup := by
  rw [putK_keys]
  split
  · exact h
  · rename_i hn
    rw [List.nodup_append]
    refine ⟨h, List.pairwise_singleton .., ?_⟩
    intro a ha b hb e
    rw [List.mem_singleton] at hb
    subst hb; subst e
    obtain ⟨p, hp, e⟩ := List.mem_map.mp ha
    exact hn (by rw [List.any_eq_true]; exact ⟨p, hp, by simp [e]⟩)
theorem valV_mem {kvs : List (κ × V)} {k : κ} {v : V} (h : valV kvs k = some v) : (k, v) ∈ kvs := by
  unfold valV at h
  obtain ⟨p, hp, rfl⟩ := Option.map_eq_some_iff.mp h
  have h1 := List.mem_of_find?_eq_some hp
  have h2 := List.find?_some hp
  simp only [decide_eq_true_eq] at h2
  rw [← h2]; exact h1
theorem valV_of {kvs : List (κ × V)} {k : κ} {v : V} (n : (kvs.map (·.1)).Nodup) (h : (k, v) ∈ kvs) : valV kvs k = some v := by
  induction kvs with
  | nil => cases h
  | cons p r ih =>
    rw [List.map_cons, List.nodup_cons] at n
    rcases List.mem_cons.mp h with e | h
    · subst e; simp [valV, List.find?_cons]
    · have : p.1 ≠ k := fun e => n.1 (List.mem_map.mpr ⟨_, h, e.symm⟩)
      rw [show valV (p :: r) k = valV r k by simp [valV, List.find?_cons, this]]
      exact ih n.2 h
end
/-! ### data in order -/
mutual
def Dt.py : Dt → PyData
  | .non => .none
  | .bl b => .bool b
  | .num i => .int i
  | .txt x => .str x
  | .tup ds => .tuple (Dt.pys ds)
  | .lst ds => .list (Dt.pys ds)
def Dt.pys : List Dt → List PyData
  | [] => []
  | d :: ds => d.py :: Dt.pys ds
end
theorem Dt.pys_map : ∀ ds : List Dt, Dt.pys ds = ds.map Dt.py
  | [] => rfl
  | d :: ds => by rw [Dt.pys, Dt.pys_map ds]; rfl
mutual
theorem Dt.py_depth : ∀ d : Dt, d.py.depth = d.depth
  | .non => rfl
  | .bl _ => rfl
  | .num _ => rfl
  | .txt _ => rfl
  | .tup ds => by simp only [Dt.py, PyData.depth, Dt.depth, Dt.pys_depth ds]
  | .lst ds => by simp only [Dt.py, PyData.depth, Dt.depth, Dt.pys_depth ds]
theorem Dt.pys_depth : ∀ ds : List Dt, PyData.depthAll (Dt.pys ds) = Dt.depthAll ds
  | [] => rfl
  | d :: ds => by simp only [Dt.pys, PyData.depthAll, Dt.depthAll, Dt.py_depth d, Dt.pys_depth ds]
end
mutual
theorem DtIs.reads {h : Heap} : ∀ (d : Dt) (v : Value), d.flat = true → DtIs h d v → Reads h v d.py []
  | .non, _, _, r => by cases r; exact .none
  | .bl _, _, f, _ => by simp [Dt.flat] at f
  | .num _, _, _, r => by cases r; exact .int _ _
  | .txt _, _, _, r => by cases r; exact .str _ _
  | .tup ds, _, f, r => by
    cases r with
    | tup h1 h2 =>
      obtain ⟨o, e, c, n, dd⟩ := h1
      exact .tuple e c dd (DtAll.reads ds _ (by simpa [Dt.flat] using f) h2)
  | .lst _, _, f, _ => by simp [Dt.flat] at f
theorem DtAll.reads {h : Heap} : ∀ (ds : List Dt) (vs : List Value), Dt.flatAll ds = true → DtAll h ds vs → ReadsAll h vs (Dt.pys ds) []
  | [], _, _, r => by cases r; exact .nil
  | d :: ds, _, f, r => by
    cases r with
    | cons r1 r2 =>
      simp only [Dt.flatAll, Bool.and_eq_true] at f
      exact .cons (as := []) (bs := []) (DtIs.reads d _ f.1 r1) (DtAll.reads ds _ f.2 r2)
end
open PySem.W in
section
variable {X : Cx}
/-- two that can be ordered -/
structure Ordb (K : PySem.W.Frag) (H : Hp) (x y : V) (d e : Dt) : Prop where
  x : DtAt K H x d
  y : DtAt K H y e
  fx : d.flat = true
  fy : e.flat = true
  al : alike d.py e.py = true
  nn : d.py ≠ .none
  dp : d.depth ≤ 8
def rLtO (K : PySem.W.Frag) : R2 := fun x y H Q => ∃ d e, Ordb K H x y d e ∧ Q (.bl (dataLt d.py e.py)) H
def rGtO (K : PySem.W.Frag) : R2 := fun x y H Q => ∃ d e, Ordb K H x y d e ∧ Q (.bl (dataLt e.py d.py)) H
theorem op_ltO (hu : X.A.units + 64 < cLine) : OpR X (compareOp .Lt) (rLtO X.K) := by
  intro pins s σ H x y v u Q I rx ry h
  obtain ⟨d, e, ⟨hx, hy, fx, fy, al, nn, dp⟩, q⟩ := h
  have n1 := Dt.py_depth d
  refine lt_data (DtIs.reads d _ fx (DtAt.is I d x v hx rx)) (DtIs.reads e _ fy (DtAt.is I e y u hy ry)) al nn (by omega) ⟨.bl _, H, I, rfl, q⟩
theorem op_gtO (hu : X.A.units + 64 < cLine) : OpR X (compareOp .Gt) (rGtO X.K) := by
  intro pins s σ H x y v u Q I rx ry h
  obtain ⟨d, e, ⟨hx, hy, fx, fy, al, nn, dp⟩, q⟩ := h
  have n1 := Dt.py_depth d
  refine gt_data (DtIs.reads d _ fx (DtAt.is I d x v hx rx)) (DtIs.reads e _ fy (DtAt.is I e y u hy ry)) al nn (by omega) ⟨.bl _, H, I, rfl, q⟩
end
end GT
/-! ### the rules where the context is a comprehension's block: P, w, K told -/
namespace GT
open PySem PySem.Spec PyProof.Rows L2
section
variable {P : Program} {w : World} {K : PySem.W.Frag} {X : Cx} {o i e value : Expr} {pos pos' tpos : Pos} {td ty tv : TE}
theorem pe_ngetK {k : Nat} (eP : X.prog = P) (ew : X.w = w) (eK : X.K = K) (hr : Room k X.A) (ho : PE X o td) (hi : PE X i ty) (hs : NoSl i) : PE X (.Subscript o i pos) (tNGet P w K td ty) := by
  subst eP; subst ew; subst eK; exact pe_nget hr ho hi hs
theorem pc_ninK {k : Nat} (eP : X.prog = P) (ew : X.w = w) (eK : X.K = K) (hr : Room k X.A) (hi : PE X i ty) (ho : PE X o td) : PC X .In i o (tNIn P w K ty td) := by
  subst eP; subst ew; subst eK; exact pc_nin hr hi ho
theorem pc_nnotinK {k : Nat} (eP : X.prog = P) (ew : X.w = w) (eK : X.K = K) (hr : Room k X.A) (hi : PE X i ty) (ho : PE X o td) : PC X .NotIn i o (tNNotIn P w K ty td) := by
  subst eP; subst ew; subst eK; exact pc_nnotin hr hi ho
end
end GT
/-! ### steps of loops -/
namespace GT
open PySem PySem.Spec PyProof.Rows L2
section
variable {σ : L2.St} {H : Hp} {Q : VK} {D : Ends} {R : It → Hp → Prop} {ta : TA} {td te tk tv : TE} {wi : TI} {g : TG} {tb : TS} {tt : TT} {vs : List Nat} {K : PySem.W.Frag} {P : Program} {w : World}
theorem i_For (q : wi σ H fun J H1 => ∃ W : Nat → Nat → L2.St → Hp → Prop, (∃ m, W 0 m σ H1) ∧ ∀ i m σ H, W i m σ H →
  (J.stop i H ∧ D.nx σ H) ∨ (J.go i H ∧ ∃ N : L2.St → Hp → Prop, (∀ σ' H', N σ' H' → ∃ m', m' < m ∧ W (i + 1) m' σ' H') ∧ ∀ x H', J.yld i H x H' → g x σ H' fun σ2 H2 => tb { D with nx := N, ct := N, bk := D.nx } σ2 H2)) : tFor wi g tb D σ H := q
theorem i_Lc (q : wi σ H fun J H1 => ∀ D, H1 D = none → ∃ W : Nat → Nat → Hp → Prop, (∃ m, W 0 m (upd H1 D (.lst []))) ∧ ∀ i m H, W i m H →
  (J.stop i H ∧ Q (.ref D) H) ∨ (J.go i H ∧ ∃ Nx : Hp → Prop, (∀ H', Nx H' → ∃ m', m' < m ∧ W (i + 1) m' H') ∧ ∀ x H', J.yld i H x H' → g x (wipe σ vs) H' fun σ2 H2 => wipe σ2 vs = wipe σ vs ∧ tt σ2 H2 fun b H3 =>
    if b = true then te σ2 H3 fun y H4 => ∃ acc, H4 D = some (.lst acc) ∧ acc.length < sizeLine ∧ Nx (upd H4 D (.lst (acc ++ [y]))) else Nx H3)) : tLc wi g tt te vs σ H Q := q
theorem i_Rng1 (q : ta σ H fun vs H1 => ∃ j : Int, vs = [.int j] ∧ -(2 ^ 62) ≤ j ∧ j < 2 ^ 62 ∧ R (Itr 0 j.toNat) H1) : iRng1 ta σ H R := q
theorem i_Rng2 (q : ta σ H fun vs H1 => ∃ i j : Int, vs = [.int i, .int j] ∧ (-(2 ^ 62) ≤ i ∧ i < 2 ^ 62 ∧ -(2 ^ 62) ≤ j ∧ j < 2 ^ 62) ∧ R (Itr i (j - i).toNat) H1) : iRng2 ta σ H R := q
theorem i_List (q : td σ H fun x H1 => ∃ a, x = .ref a ∧ (∃ xs, SqL K H1 a xs) ∧ R (Itl K a) H1) : iList K td σ H R := q
theorem i_Nk (q : td σ H fun x H1 => ∃ d o xs, x = .ref d ∧ H1 d = some (.frz o (ndO P w d xs)) ∧ R (ItN P w d o xs) H1) : iN P w td σ H R := q
theorem i_Nki (q : td σ H fun x H1 => ∃ d o xs, x = .ref d ∧ H1 d = some (.frz o (ndO P w d xs)) ∧ R (ItNi P w d o xs) H1) : iNi P w td σ H R := q
theorem i_NGet (q : td σ H fun x H1 => te σ H1 fun y H2 => ∃ d a kvs k v, x = .ref d ∧ y = .ref a ∧ NDR P w K H2 d kvs ∧ KyAt K H2 (.ref a) k ∧ valV kvs k = some v ∧ Q v H2) : tNGet P w K td te σ H Q := q
theorem i_NIn (q : te σ H fun y H1 => td σ H1 fun x H2 => ∃ d a kvs k, x = .ref d ∧ y = .ref a ∧ NDR P w K H2 d kvs ∧ KyAt K H2 (.ref a) k ∧ Q (.bl (valV kvs k).isSome) H2) : tNIn P w K te td σ H Q := q
theorem i_NNotIn (q : te σ H fun y H1 => td σ H1 fun x H2 => ∃ d a kvs k, x = .ref d ∧ y = .ref a ∧ NDR P w K H2 d kvs ∧ KyAt K H2 (.ref a) k ∧ Q (.bl (!(valV kvs k).isSome)) H2) : tNNotIn P w K te td σ H Q := q
theorem i_NPut (q : tv σ H fun v H1 => td σ H1 fun x H2 => tk σ H2 fun y H3 => ∃ d a kvs k, x = .ref d ∧ y = .ref a ∧ ND P w K H3 d kvs ∧ KyAt K H3 (.ref a) k ∧ kvs.length < sizeLine ∧
  ∀ H4, ND P w K H4 d (putK kvs k v) → Stp [d] H3 H4 → (∀ (H0 : Hp) M, Stp M H0 H3 → H0 d = none → Stp M H0 H4) → D.nx σ H4) : sNPut P w K td tk tv D σ H := q
end
/-- what is new and is written: an item more -/
theorem Stp.into {M : List Addr} {H0 H1 H2 : Hp} {p : Addr} (s : Stp M H0 H1) (n : H0 p = none) (t : Stp (p :: M) H1 H2) : Stp M H0 H2 :=
  ⟨fun c o h m => t.keep c o (s.keep c o h m) (by
      simp only [List.mem_cons, not_or]
      exact ⟨fun e => (by rw [e, n] at h; cases h), m⟩), fun c xs h => t.tups c xs (s.tups c xs h), fun c ps h => let ⟨qs, e⟩ := t.tbls c ps h; s.tbls c qs e⟩
/-- .. and the other way: the steps before it was made do not count -/
theorem key_num2 (a b : Int) : (Dt.tup [.num a, .num b]).key = .tup [.num a, .num b] := rfl
end GT

/-! ## two such dicts compared -/
namespace GT
open PySem PySem.Spec PyProof.Rows PySem.Calls
section
variable {prog : Program} {w : World} {K : Type} [DecidableEq K] {knd : HeapKind prog w K} {A : Around} {E : Value → Shared → Prop} {s : Shared}
inductive HHits {K : Type} [DecidableEq K] (A : Around) (s : Shared) (kb : List (K × Addr × Value)) : List (K × Addr × Value) → Bool → Prop
  | nil : HHits A s kb [] true
  | miss {k : K} {q : Addr × Value} {r : List (K × Addr × Value)} : (∀ p, (k, p) ∉ kb) → HHits A s kb ((k, q) :: r) false
  | hit {k : K} {q : Addr × Value} {r : List (K × Addr × Value)} {e b : Bool} : (∃ p, (k, p) ∈ kb) → (∀ p, (k, p) ∈ kb → SeqAt.EqAt A s q.2 p.2 e) → HHits A s kb r b → HHits A s kb ((k, q) :: r) (e && b)
theorem HHits.inv {kb : List (K × Addr × Value)} {k : K} {q : Addr × Value} {r : List (K × Addr × Value)} {b : Bool} (h : HHits A s kb ((k, q) :: r) b) :
    ((∀ p, (k, p) ∉ kb) ∧ b = false) ∨ ∃ e b', (∃ p, (k, p) ∈ kb) ∧ (∀ p, (k, p) ∈ kb → SeqAt.EqAt A s q.2 p.2 e) ∧ HHits A s kb r b' ∧ b = (e && b') := by
  cases h with
  | miss hn => exact .inl ⟨hn, rfl⟩
  | hit hy he hr => exact .inr ⟨_, _, hy, he, hr, rfl⟩
theorem h_samePairs {nm : String} {a b : Addr} {ka kb : List (K × Addr × Value)} {r : Bool} {Q : Bool → Shared → Prop} (hu : knd.room A) (ha : (a == sysModules) = false) (hb : (b == sysModules) = false)
    (da : s.heap.DictOfH knd a ka) (db : s.heap.DictOfH knd b kb) (hits : ka.length = kb.length → HHits A s kb ka r) (h : Q (ka.length == kb.length && r) s) :
    wpAny (model prog w) A (Builtin.Dict.samePairs nm a b) Q E s := by
  obtain ⟨oa, es, ep, hoa, _, hda, hka, hia, _⟩ := da
  obtain ⟨ob, es', ep', hob, _, hdb, hkb, hib, hnb⟩ := db
  have hla : ka.length = es.size := (size_of_entries hka).symm
  have hlb : kb.length = es'.size := (size_of_entries hkb).symm
  rw [hla, hlb] at h
  unfold Builtin.Dict.samePairs Builtin.Dict.showsAll
  rw [if_neg (show ¬ (a == sysModules) = true by rw [ha]; exact Bool.false_ne_true), if_neg (show ¬ (b == sysModules) = true by rw [hb]; exact Bool.false_ne_true)]
  refine wpAny_bind (wpAny_pure (wpAny_bind (wpAny_pure ?_)))
  refine wpAny_bind (wpAny_dictEntries hoa hda ?_)
  dsimp only
  refine wpAny_bind (wpAny_dictEntries hob hdb ?_)
  by_cases hsz : es.size = es'.size
  case neg =>
    rw [if_pos (by simpa using hsz)]
    have hbf : (es.size == es'.size) = false := by simpa using hsz
    rw [hbf, Bool.false_and] at h
    exact wpAny_bind (wpAny_rule (wpAny_pure h))
  case pos =>
    have h' : Q r s := by simpa [hsz] using h
    have hits' := hits (by rw [hla, hlb]; exact hsz)
    rw [if_neg (by rw [hsz]; simp)]
    refine wpAny_bind (wpAny_dictEpoch hoa hda ?_)
    refine wpAny_bind ?_
    rw [Std.Legacy.Range.forIn_eq_forIn_range']
    simp only [Std.Legacy.Range.size, Nat.sub_zero, Nat.add_sub_cancel, Nat.div_one]
    refine wpAny_forIn_list _
      (fun rest q s' => s' = s ∧ q = (none, ()) ∧ ∃ i, rest = List.range' i (es.size - i) ∧ i ≤ es.size ∧ HHits A s kb (ka.drop i) r)
      _ ?_ ?_ _ _ ⟨rfl, rfl, 0, by simp, Nat.zero_le _, hits'⟩
    · rintro x rest q s' ⟨rfl, rfl, i, hr, hi, hpre⟩
      have hlt : i < es.size := by
        rcases Nat.lt_or_ge i es.size with h | h
        · exact h
        · rw [Nat.sub_eq_zero_of_le h] at hr; simp at hr
      obtain ⟨rfl, hrest⟩ : x = i ∧ rest = List.range' (i + 1) (es.size - (i + 1)) := by
        have e : es.size - i = (es.size - (i + 1)) + 1 := by omega
        rw [e, List.range'_succ] at hr
        injection hr with h1 h2
        exact ⟨h1, h2⟩
      refine wpAny_bind (wpAny_dictEntries hoa hda ?_)
      have hlt' : x < ka.length := by rw [hla]; exact hlt
      obtain ⟨k, ad, v, hkv⟩ : ∃ k ad v, ka[x] = (k, ad, v) := ⟨_, _, _, rfl⟩
      have hdrop : ka.drop x = (k, ad, v) :: ka.drop (x + 1) := by rw [← hkv]; exact List.drop_eq_getElem_cons hlt'
      have hent : es[x]? = some (entryOfKey knd (k, ad, v)) := by rw [entry_at hka x, List.getElem?_eq_getElem hlt', hkv]; rfl
      have hkey : knd.is s'.heap k ad := by
        have := hia (k, ad, v) (by rw [← hkv]; exact List.getElem_mem hlt')
        exact this
      rw [hent]
      rw [hdrop] at hpre
      show wpAny _ _ (holding [Value.ref ad, v] _ >>= _) _ _ _
      refine wpAny_bind (wpAny_holding (wpAny_bind (wpAny_dictFind_heap hu hkey hob hdb hkb hib hnb (fun hn => ?_) fun j p hj => ?_)))
      · rcases hpre.inv with ⟨_, er⟩ | ⟨_, _, ⟨p, hp⟩, _⟩
        · rw [er] at h'
          refine wpAny_pure ?_
          show wpAny _ _ (if (!false) = true then _ else _) _ _ _
          rw [if_pos (by decide)]
          exact wpAny_pure (wpAny_pure h')
        · obtain ⟨j, hj⟩ := List.getElem?_of_mem hp
          exact absurd hj (hn j p)
      · have hm : (k, p) ∈ kb := List.mem_of_getElem? hj
        refine wpAny_bind (wpAny_dictEntries hob hdb ?_)
        have hent' : es'[j]? = some (entryOfKey knd (k, p)) := by rw [entry_at hkb j, hj]; rfl
        rw [hent']
        rcases hpre.inv with ⟨hn, _⟩ | ⟨e, b', _, he, hrr, er⟩
        · exact absurd hm (hn p)
        · refine wpAny_holding (he p hm prog w _ _ ?_)
          cases e with
          | false =>
            rw [er, Bool.false_and] at h'
            show wpAny _ _ (if (!false) = true then _ else _) _ _ _
            rw [if_pos (by decide)]
            exact wpAny_pure (wpAny_pure h')
          | true =>
            rw [Bool.true_and] at er
            rw [← er] at hrr
            show wpAny _ _ (if (!true) = true then _ else _) _ _ _
            rw [if_neg (by decide)]
            refine wpAny_bind (wpAny_dictEpoch hoa hda ?_)
            rw [if_neg (by simp)]
            exact wpAny_pure ⟨rfl, rfl, x + 1, hrest, hlt, hrr⟩
    · rintro q s' ⟨rfl, rfl, i, hr, hi, hpre⟩
      have hin : i = es.size := by
        rcases Nat.lt_or_ge i es.size with h | h
        · have e : es.size - i = (es.size - (i + 1)) + 1 := by omega
          rw [e, List.range'_succ] at hr; exact nomatch hr
        · exact Nat.le_antisymm hi h
      refine wpAny_pure ?_
      rw [hin, ← hla, List.drop_length] at hpre
      cases hpre
      exact h'
theorem h_eq {a b : Addr} {ka kb : List (K × Addr × Value)} {r : Bool} {Q : Value → Shared → Prop} (hk : knd.room A.in1) (ha : (a == sysModules) = false) (hb : (b == sysModules) = false)
    (da : s.heap.DictOfH knd a ka) (db : s.heap.DictOfH knd b kb) (hu : A.units < cLine) (hits : ka.length = kb.length → HHits A.in1 s kb ka r) (h : Q (.bool (ka.length == kb.length && r)) s) :
    wpAny (model prog w) A (compareOp .Eq (.ref a) (.ref b)) Q E s := by
  refine wpAny_richCompare_same_room (op := .Eq) da.typeIs db.typeIs PySem.F.slot_dict_eq (wpAny_call_entry PySem.F.slot_dict_eq da.typeIs PySem.F.entry_dict_eq ?_ (PySem.F.args_dict_eq_2 _ _)) hu
  show wpAny _ _ (Builtin.Dict.dictSlotArgs "__eq__" ⟨[.ref a, .ref b], []⟩ >>= _) _ _ s
  refine wpAny_bind ?_
  unfold Builtin.Dict.dictSlotArgs
  refine wpAny_bind (wpAny_notOrdered_dict da.typeIs ?_)
  show wpAny _ _ (pure (Value.ref a, Value.ref b)) _ _ s
  refine wpAny_pure ?_
  refine wpAny_bind (wpAny_isInstance (T := "dict") db.typeIs PySem.F.sub_dict_dict ?_)
  simp only [Bool.not_true, Bool.false_eq_true, if_false]
  refine wpAny_bind (wpAny_pure (wpAny_bind (wpAny_pure ?_)))
  refine wpAny_bind (h_samePairs hk ha hb da db hits ?_)
  refine wpAny_pure ⟨_, rfl, ?_, ?_⟩
  · exact fun x => nomatch x
  · simpa using h
theorem h_ne {a b : Addr} {ka kb : List (K × Addr × Value)} {r : Bool} {Q : Value → Shared → Prop} (hk : knd.room A.in1) (ha : (a == sysModules) = false) (hb : (b == sysModules) = false)
    (da : s.heap.DictOfH knd a ka) (db : s.heap.DictOfH knd b kb) (hu : A.units < cLine) (hits : ka.length = kb.length → HHits A.in1 s kb ka r) (h : Q (.bool (!(ka.length == kb.length && r))) s) :
    wpAny (model prog w) A (compareOp .NotEq (.ref a) (.ref b)) Q E s := by
  refine wpAny_richCompare_same_room (op := .NotEq) da.typeIs db.typeIs PySem.F.slot_dict_ne (wpAny_call_entry PySem.F.slot_dict_ne da.typeIs PySem.F.entry_dict_ne ?_ (PySem.F.args_dict_ne_2 _ _)) hu
  show wpAny _ _ (Builtin.Dict.dictSlotArgs "__ne__" ⟨[.ref a, .ref b], []⟩ >>= _) _ _ s
  refine wpAny_bind ?_
  unfold Builtin.Dict.dictSlotArgs
  refine wpAny_bind (wpAny_notOrdered_dict da.typeIs ?_)
  show wpAny _ _ (pure (Value.ref a, Value.ref b)) _ _ s
  refine wpAny_pure ?_
  refine wpAny_bind (wpAny_isInstance (T := "dict") db.typeIs PySem.F.sub_dict_dict ?_)
  simp only [Bool.not_true, Bool.false_eq_true, if_false]
  refine wpAny_bind (wpAny_pure (wpAny_bind (wpAny_pure ?_)))
  refine wpAny_bind (h_samePairs hk ha hb da db hits ?_)
  refine wpAny_pure ⟨_, rfl, ?_, ?_⟩
  · exact fun x => nomatch x
  · simpa using h
end
end GT
namespace GT
open PySem PySem.Spec PyProof.Rows L2
/-! ### entries whose values are data -/
abbrev NKD := NestedKey × Dt
def valD (kd : List NKD) (k : NestedKey) : Option Dt := (kd.find? fun p => decide (p.1 = k)).map (·.2)
/-- == of two such dicts -/
def dEq (ka kb : List NKD) : Bool := ka.length == kb.length && ka.all fun p => match valD kb p.1 with
  | none => false
  | some d => Dt.beq p.2 d
/-- the values at kvs are the data of kd -/
def DD (K : PySem.W.Frag) (H : Hp) : List NKV → List NKD → Prop := Paired fun p q => p.1 = q.1 ∧ DtAt K H p.2 q.2 ∧ q.2.flat = true ∧ q.2.depth ≤ 8
section
variable {K : PySem.W.Frag} {H H1 : Hp} {M : List Addr} {kvs : List NKV} {kd : List NKD}
theorem DD.stp (h : DD K H kvs kd) (s : Stp M H H1) : DD K H1 kvs kd := by
  induction h with
  | nil => exact .nil
  | cons h _ ih => exact .cons ⟨h.1, DtAt.stp s _ _ h.2.2.1 h.2.1, h.2.2⟩ ih
theorem DD.keys (h : DD K H kvs kd) : kvs.map (·.1) = kd.map (·.1) := by
  induction h with
  | nil => rfl
  | cons h _ ih => rw [List.map_cons, List.map_cons, h.1, ih]
theorem DD.len (h : DD K H kvs kd) : kvs.length = kd.length := Paired.length h
theorem DD.val (h : DD K H kvs kd) (k : NestedKey) : (valV kvs k = none ∧ valD kd k = none) ∨ ∃ v d, valV kvs k = some v ∧ valD kd k = some d ∧ DtAt K H v d ∧ d.flat = true ∧ d.depth ≤ 8 := by
  induction h with
  | nil => exact .inl ⟨rfl, rfl⟩
  | @cons p q ps qs h t ih =>
    obtain ⟨h1, h2, h3, h4⟩ := h
    by_cases e : p.1 = k
    · have e' : q.1 = k := h1.symm.trans e
      exact .inr ⟨p.2, q.2, by simp [valV, List.find?_cons, e], by simp [valD, List.find?_cons, e'], h2, h3, h4⟩
    · have e' : ¬ q.1 = k := fun z => e (h1.trans z)
      rw [show valV (p :: ps) k = valV ps k by simp [valV, List.find?_cons, e], show valD (q :: qs) k = valD qs k by simp [valD, List.find?_cons, e']]
      exact ih
def putD (kd : List NKD) (k : NestedKey) (d : Dt) : List NKD :=
  if (kd.any fun p => decide (p.1 = k)) = true then kd.map (fun p => if p.1 = k then (p.1, d) else p) else kd ++ [(k, d)]
theorem DD.put (h : DD K H kvs kd) {k : NestedKey} {v : V} {d : Dt} (hv : DtAt K H v d) (f : d.flat = true) (n : d.depth ≤ 8) : DD K H (putK kvs k v) (putD kd k d) := by
  have e : (kvs.any fun p => decide (p.1 = k)) = kd.any fun p => decide (p.1 = k) := by
    clear hv f n
    induction h with
    | nil => rfl
    | cons h _ ih => rw [List.any_cons, List.any_cons, ih, h.1]
  unfold putK putD
  rw [e]
  split
  · rename_i hs
    clear e hs
    induction h with
    | nil => exact .nil
    | @cons p q ps qs h t ih =>
      rw [List.map_cons, List.map_cons]
      refine .cons ?_ ih
      by_cases c : p.1 = k
      · rw [if_pos c, if_pos (h.1.symm.trans c)]; exact ⟨h.1, hv, f, n⟩
      · rw [if_neg c, if_neg (fun z => c (h.1.trans z))]; exact h
  · exact Paired.snoc h ⟨rfl, hv, f, n⟩
theorem valD_put (kd : List NKD) (k j : NestedKey) (d : Dt) : valD (putD kd k d) j = if j = k then some d else valD kd j := by
  unfold putD
  split
  · rename_i ha
    rw [List.any_eq_true] at ha
    obtain ⟨p, hp, hk⟩ := ha
    simp only [decide_eq_true_eq] at hk
    induction kd with
    | nil => cases hp
    | cons q r ih =>
      by_cases e : q.1 = k
      · rw [List.map_cons, if_pos e]
        by_cases c : j = k
        · rw [if_pos c]; simp [valD, List.find?_cons, e, c]
        · rw [if_neg c]
          have n1 : ¬ q.1 = j := fun z => c (z.symm.trans e)
          rw [show valD ((q.1, d) :: r.map (fun p => if p.1 = k then (p.1, d) else p)) j = valD (r.map (fun p => if p.1 = k then (p.1, d) else p)) j by simp [valD, List.find?_cons, n1], show valD (q :: r) j = valD r j by simp [valD, List.find?_cons, n1]]
          clear ih hp hk
          induction r with
          | nil => rfl
          | cons x r ih2 =>
            rw [List.map_cons]
            by_cases ex : x.1 = k
            · rw [if_pos ex]
              have n2 : ¬ x.1 = j := fun z => c (z.symm.trans ex)
              simpa [valD, List.find?_cons, n2] using ih2
            · rw [if_neg ex]
              by_cases ej : x.1 = j
              · simp [valD, List.find?_cons, ej]
              · simpa [valD, List.find?_cons, ej] using ih2
      · rw [List.map_cons, if_neg e]
        rcases List.mem_cons.mp hp with z | hp
        · rw [z] at hk; exact absurd hk e
        · by_cases ej : q.1 = j
          · have c : ¬ j = k := fun z => e (ej.trans z)
            rw [if_neg c]; simp [valD, List.find?_cons, ej]
          · have := ih hp
            simpa [valD, List.find?_cons, ej] using this
  · rename_i ha
    have hn : ∀ p ∈ kd, ¬ p.1 = k := fun p hp e => ha (by rw [List.any_eq_true]; exact ⟨p, hp, by simp [e]⟩)
    clear ha
    induction kd with
    | nil =>
      by_cases c : j = k
      · rw [if_pos c]; simp [valD, c]
      · rw [if_neg c]
        have : ¬ k = j := fun z => c z.symm
        simp [valD, this]
    | cons q r ih =>
      have ih := ih fun p hp => hn p (List.mem_cons_of_mem _ hp)
      by_cases ej : q.1 = j
      · have c : ¬ j = k := fun z => hn q List.mem_cons_self (ej.trans z)
        rw [if_neg c]; simp [valD, List.find?_cons, ej]
      · simpa [valD, List.find?_cons, ej] using ih
end
theorem valD_mem {kd : List NKD} {k : NestedKey} {d : Dt} (h : valD kd k = some d) : (k, d) ∈ kd := by
  unfold valD at h
  obtain ⟨p, hp, rfl⟩ := Option.map_eq_some_iff.mp h
  have h2 := List.find?_some hp
  simp only [decide_eq_true_eq] at h2
  rw [← h2]; exact List.mem_of_find?_eq_some hp
theorem valD_of {kd : List NKD} {k : NestedKey} {d : Dt} (n : (kd.map (·.1)).Nodup) (h : (k, d) ∈ kd) : valD kd k = some d := by
  induction kd with
  | nil => cases h
  | cons p r ih =>
    rw [List.map_cons, List.nodup_cons] at n
    rcases List.mem_cons.mp h with e | h
    · subst e; simp [valD, List.find?_cons]
    · have : p.1 ≠ k := fun e => n.1 (List.mem_map.mpr ⟨_, h, e.symm⟩)
      rw [show valD (p :: r) k = valD r k by simp [valD, List.find?_cons, this]]
      exact ih n.2 h
theorem len_sub {κ : Type} [DecidableEq κ] : ∀ (a b : List κ), a.Nodup → a ⊆ b → a.length ≤ b.length
  | [], _, _, _ => Nat.zero_le _
  | x :: r, b, n, h => by
    rw [List.nodup_cons] at n
    have hx : x ∈ b := h List.mem_cons_self
    have ih := len_sub r (b.erase x) n.2 fun y hy => by
      have ne : y ≠ x := fun e => n.1 (e ▸ hy)
      exact (List.mem_erase_of_ne ne).mpr (h (List.mem_cons_of_mem _ hy))
    have l := List.length_erase_of_mem hx
    have p : 0 < b.length := List.length_pos_of_mem hx
    rw [List.length_cons]
    omega
/-- == tells whether each key has the same value -/
theorem dEq_iff {ka kb : List NKD} (na : (ka.map (·.1)).Nodup) (nb : (kb.map (·.1)).Nodup) (pa : ∀ p ∈ ka, p.2.pure = true) (pb : ∀ p ∈ kb, p.2.pure = true) : dEq ka kb = true ↔ ∀ k, valD ka k = valD kb k := by
  unfold dEq
  rw [Bool.and_eq_true, List.all_eq_true, beq_iff_eq]
  constructor
  · rintro ⟨hl, h⟩
    have sub : ∀ p ∈ ka, valD kb p.1 = some p.2 := fun p hp => by
      have := h p hp
      cases q : valD kb p.1 with
      | none => rw [q] at this; exact absurd this (by simp)
      | some d =>
        rw [q] at this
        rw [Dt.eq_of_beq _ _ (pa p hp) (pb _ (valD_mem q)) this]
    -- keys of ka are those of kb
    have s1 : (ka.map (·.1)) ⊆ (kb.map (·.1)) := fun k hk => by
      obtain ⟨p, hp, rfl⟩ := List.mem_map.mp hk
      exact List.mem_map.mpr ⟨_, valD_mem (sub p hp), rfl⟩
    intro k
    cases q : valD ka k with
    | some d => exact (sub _ (valD_mem q)).symm
    | none =>
      cases r : valD kb k with
      | none => rfl
      | some d =>
        have hk : k ∈ kb.map (·.1) := List.mem_map.mpr ⟨_, valD_mem r, rfl⟩
        by_cases hka : k ∈ ka.map (·.1)
        · obtain ⟨p, hp, rfl⟩ := List.mem_map.mp hka
          rw [valD_of na hp] at q
          cases q
        · have := len_sub (k :: ka.map (·.1)) (kb.map (·.1)) (List.nodup_cons.mpr ⟨hka, na⟩) fun y hy => by
            rcases List.mem_cons.mp hy with e | e
            · rw [e]; exact hk
            · exact s1 e
          simp at this
          omega
  · intro h
    have sub : ∀ {x y : List NKD}, (x.map (·.1)).Nodup → (∀ k, valD x k = valD y k) → (x.map (·.1)) ⊆ (y.map (·.1)) := fun nx hxy k hk => by
      obtain ⟨p, hp, rfl⟩ := List.mem_map.mp hk
      have := hxy p.1
      rw [valD_of nx hp] at this
      exact List.mem_map.mpr ⟨_, valD_mem this.symm, rfl⟩
    refine ⟨?_, fun p hp => ?_⟩
    · have l1 := len_sub _ _ na (sub na h)
      have l2 := len_sub _ _ nb (sub nb fun k => (h k).symm)
      simp at l1 l2
      omega
    · rw [← h p.1, valD_of na hp]
      exact Dt.beq_self _
end GT

namespace GT
open PySem PySem.Spec PyProof.Rows L2
abbrev YD (h : Heap) : List (NestedKey × Addr × Value) → List NKD → Prop := Paired fun y q => y.1 = q.1 ∧ DtIs h q.2 y.2.2 ∧ q.2.depth ≤ 8
section
variable {X : Cx} {pins : List (Addr × Obj)} {σ : L2.St} {H : Hp} {s : Shared}
theorem yd_of (I : Inv X pins σ H s) : ∀ {xs : List (NestedKey × Addr × V)} {ys : List (NestedKey × Addr × Value)} {da : List NKD}, NdRel xs ys → DD X.K H (plainX xs) da → YD s.heap ys da := by
  intro xs ys da r
  induction r generalizing da with
  | nil =>
    intro d
    have d' : DD X.K H [] da := d
    cases d'
    exact .nil
  | @cons p q ps qs h t ih =>
    intro d
    have d' : DD X.K H ((p.1, p.2.2) :: plainX ps) da := d
    cases d' with
    | cons e et => exact .cons ⟨h.1.symm.trans e.1, DtAt.is I _ _ _ e.2.1 h.2.2, e.2.2.2⟩ (ih et)
theorem YD.keys {h : Heap} {ys : List (NestedKey × Addr × Value)} {da : List NKD} (r : YD h ys da) : ys.map (·.1) = da.map (·.1) := by
  induction r with
  | nil => rfl
  | cons h _ ih => rw [List.map_cons, List.map_cons, h.1, ih]
theorem YD.len {h : Heap} {ys : List (NestedKey × Addr × Value)} {da : List NKD} (r : YD h ys da) : ys.length = da.length := Paired.length r
theorem YD.at {h : Heap} {ys : List (NestedKey × Addr × Value)} {da : List NKD} (r : YD h ys da) {k : NestedKey} {p : Addr × Value} (m : (k, p) ∈ ys) : ∃ d, (k, d) ∈ da ∧ DtIs h d p.2 ∧ d.depth ≤ 8 := by
  induction r with
  | nil => cases m
  | @cons y q _ _ e _ ih =>
    rcases List.mem_cons.mp m with z | m
    · subst z
      obtain ⟨k', d'⟩ := q
      obtain ⟨rfl, e2, e3⟩ := e
      exact ⟨_, List.mem_cons_self, e2, e3⟩
    · obtain ⟨d, hd, x⟩ := ih m
      exact ⟨d, List.mem_cons_of_mem _ hd, x⟩
theorem YD.hits {A : Around} {yb : List (NestedKey × Addr × Value)} {db : List NKD} (hu : A.units + 32 < cLine) (rb : YD s.heap yb db) (nb : (db.map (·.1)).Nodup) {ya : List (NestedKey × Addr × Value)} {da : List NKD} (r : YD s.heap ya da) :
    HHits A s yb ya (da.all fun p => match valD db p.1 with
      | none => false
      | some d => Dt.beq p.2 d) := by
  induction r with
  | nil => exact .nil
  | @cons y q _ _ e _ ih =>
    obtain ⟨k, a, u⟩ := y
    obtain ⟨k', d⟩ := q
    obtain ⟨e1, e2, e3⟩ := e
    obtain rfl : k = k' := e1
    rw [List.all_cons]
    cases hv : valD db k with
    | none =>
      simp only [hv, Bool.false_and]
      refine .miss fun p hp => ?_
      obtain ⟨d', hd, _⟩ := rb.at hp
      rw [valD_of nb hd] at hv
      cases hv
    | some d2 =>
      simp only [hv]
      refine .hit ?_ (fun p hp => ?_) ih
      · have hm : k ∈ yb.map (·.1) := by rw [rb.keys]; exact List.mem_map.mpr ⟨_, valD_mem hv, rfl⟩
        obtain ⟨⟨k2, p⟩, hp, ek⟩ := List.mem_map.mp hm
        obtain rfl : k2 = k := ek
        exact ⟨p, hp⟩
      · obtain ⟨d', hd, h1, h2⟩ := rb.at hp
        rw [valD_of nb hd] at hv
        cases hv
        exact eqAt_dt d _ A s u p.2 e2 h1 (by omega)
end
section
variable {P : Program} {w : World} {K : PySem.W.Frag} {X : Cx}
def rEqN (P : Program) (w : World) (K : PySem.W.Frag) : R2 := fun x y H Q => ∃ a b ka kb da db, x = .ref a ∧ y = .ref b ∧ NDR P w K H a ka ∧ NDR P w K H b kb ∧ DD K H ka da ∧ DD K H kb db ∧
  ((da.map (·.1)).Nodup → (db.map (·.1)).Nodup → Q (.bl (dEq da db)) H)
def rNeN (P : Program) (w : World) (K : PySem.W.Frag) : R2 := fun x y H Q => ∃ a b ka kb da db, x = .ref a ∧ y = .ref b ∧ NDR P w K H a ka ∧ NDR P w K H b kb ∧ DD K H ka da ∧ DD K H kb db ∧
  ((da.map (·.1)).Nodup → (db.map (·.1)).Nodup → Q (.bl (!dEq da db)) H)
theorem DictOfH.nd {h : Heap} {P : Program} {w : World} {d : Addr} {ys : List (NestedKey × Addr × Value)} (x : h.DictOfH (nestedKind P w) d ys) : (ys.map (·.1)).Nodup := by
  obtain ⟨_, _, _, _, _, _, _, _, n⟩ := x
  exact n
theorem op_eqN (eP : X.prog = P) (ew : X.w = w) (eK : X.K = K) (hu : X.A.units + 64 < cLine) : OpR X (compareOp .Eq) (rEqN P w K) := by
  subst eP; subst ew; subst eK
  intro pins s σ H x y v u Q I rx ry h
  obtain ⟨a, b, ka, kb, da, db, rfl, rfl, ⟨xa, ea, ksa, rfl⟩, ⟨xb, eb, ksb, rfl⟩, dda, ddb, q⟩ := h
  obtain rfl : v = Value.ref a := rx
  obtain rfl : u = Value.ref b := ry
  obtain ⟨_, ha, ya, ra, oa⟩ := nd_raw I ea ksa
  obtain ⟨_, hb, yb, rb, ob⟩ := nd_raw I eb ksb
  have ja := yd_of I ra dda
  have jb := yd_of I rb ddb
  have na : (da.map (·.1)).Nodup := by rw [← ja.keys]; exact DictOfH.nd oa
  have nb : (db.map (·.1)).Nodup := by rw [← jb.keys]; exact DictOfH.nd ob
  have hu1 : X.A.in1.units = X.A.units + 1 := Around.in1_units ..
  refine h_eq (knd := nestedKind X.prog X.w) (show X.A.in1.units + 8 < cLine by omega) ha hb oa ob (by omega) (fun _ => YD.hits (by omega) jb nb ja) ?_
  refine ⟨.bl _, H, I, rfl, ?_⟩
  rw [ja.len, jb.len]
  exact q na nb
theorem op_neN (eP : X.prog = P) (ew : X.w = w) (eK : X.K = K) (hu : X.A.units + 64 < cLine) : OpR X (compareOp .NotEq) (rNeN P w K) := by
  subst eP; subst ew; subst eK
  intro pins s σ H x y v u Q I rx ry h
  obtain ⟨a, b, ka, kb, da, db, rfl, rfl, ⟨xa, ea, ksa, rfl⟩, ⟨xb, eb, ksb, rfl⟩, dda, ddb, q⟩ := h
  obtain rfl : v = Value.ref a := rx
  obtain rfl : u = Value.ref b := ry
  obtain ⟨_, ha, ya, ra, oa⟩ := nd_raw I ea ksa
  obtain ⟨_, hb, yb, rb, ob⟩ := nd_raw I eb ksb
  have ja := yd_of I ra dda
  have jb := yd_of I rb ddb
  have na : (da.map (·.1)).Nodup := by rw [← ja.keys]; exact DictOfH.nd oa
  have nb : (db.map (·.1)).Nodup := by rw [← jb.keys]; exact DictOfH.nd ob
  have hu1 : X.A.in1.units = X.A.units + 1 := Around.in1_units ..
  refine h_ne (knd := nestedKind X.prog X.w) (show X.A.in1.units + 8 < cLine by omega) ha hb oa ob (by omega) (fun _ => YD.hits (by omega) jb nb ja) ?_
  refine ⟨.bl _, H, I, rfl, ?_⟩
  rw [ja.len, jb.len]
  exact q na nb
end
end GT

/-! ## methods and makers -/
namespace GT
open PySem PySem.Spec PyProof.Rows L2
def Dfm (K : PySem.W.Frag) (C : Addr) (d : He.DefD) : Prop := ∃ (f : Addr) (fd : FuncData), FunD K d.name d.qual d.params d.body d.scope [] [] f fd ∧ Meth K C d.name f
def Dfi (K : PySem.W.Frag) (mg : Str → Option Value) (C : Addr) (x : Str) (d : He.DefD) : Prop := ∃ (f : Addr) (fd : FuncData), FunD K d.name d.qual d.params d.body d.scope [] [] f fd ∧ (Mk K C f ∧ mg x = some (.ref C))
def Mth (P : Program) (w : World) (K : PySem.W.Frag) (mg : Str → Option Value) (base : Heap) (k : Nat) (C : Addr) (m : Str) (ps : List Str) (sp : Sp) : Prop :=
  ∃ (f : Addr) (fd : FuncData), FnOk P w K mg base CX0 k f fd ps sp ∧ Meth K C m f ∧ PySem.W.keepIn K (.ref f) = true ∧ Binds K fd ps []
def Mki (P : Program) (w : World) (K : PySem.W.Frag) (mg : Str → Option Value) (base : Heap) (k : Nat) (C : Addr) (x : Str) (ps : List Str) (sp : Sp) : Prop :=
  ∃ (f : Addr) (fd : FuncData), FnOk P w K mg base CX0 k f fd ps sp ∧ (Mk K C f ∧ mg x = some (.ref C)) ∧ PySem.W.keepIn K (.ref f) = true ∧ Binds K fd ps []
section
variable {X : Cx} {o e : Expr} {es : List Expr} {t : TA} {ta : TE} {x m : Str} {p pos apos : Pos} {ps : List Str} {sp : Sp} {k : Nat} {C : Addr}
theorem pc_meth {pl : Sem Bool} (he : PE X o ta) (c : Cls X.K C) (M : Mth X.prog X.w X.K X.mg X.base k C m ps sp) (hr : Room k X.A) (ha : PA X (e :: es) t)
    (hst : starEach (e :: es) X.env = (false, eval e X.env) :: starEach es X.env := by rfl) (hpl : (backTo pos (starEach es X.env)).any (·.1) = false := by rfl)
    (ht : eval (.Call (.Attribute o m apos) (e :: es) [] pos) X.env = (do
      let ov ← eval o X.env
      standAt apos.atName
      let (f, first) ← holding [ov] (getMethod ov m pl)
      callWith pos f first (backTo pos (starEach (e :: es) X.env)) (backToKw pos (keywordEach [] X.env))) := by rfl) :
    PE X (.Call (.Attribute o m apos) (e :: es) [] pos) (tMeth C m sp [] E0 ta t) := by
  obtain ⟨f, fd, F, hm, hk, hb⟩ := M
  exact pe_meth he c hm F hr hb .nil pass0 ha hst hpl ht
theorem pc_meth0 {pl : Sem Bool} (he : PE X o ta) (c : Cls X.K C) (M : Mth X.prog X.w X.K X.mg X.base k C m ps sp) (hr : Room k X.A)
    (ht : eval (.Call (.Attribute o m apos) [] [] pos) X.env = (do
      let ov ← eval o X.env
      standAt apos.atName
      let (f, first) ← holding [ov] (getMethod ov m pl)
      callWith pos f first (backTo pos (starEach [] X.env)) (backToKw pos (keywordEach [] X.env))) := by rfl) :
    PE X (.Call (.Attribute o m apos) [] [] pos) (tMeth C m sp [] E0 ta tNil) := by
  obtain ⟨f, fd, F, hm, hk, hb⟩ := M
  exact pe_meth0 he c hm F hr hb .nil pass0 ht
theorem pc_make0 (M : Mki X.prog X.w X.K X.mg X.base k C x ps sp) (hr : Room (k + 1) X.A) (hg : Gl X x) (hdb : (x == ("__debug__" : Str)) = false := by decide) : PE X (.Call (.Name x p) [] [] pos) (tMake C sp [] E0 tNil) := by
  obtain ⟨f, fd, F, ⟨hm, hx⟩, hk, hb⟩ := M
  exact pe_make0 hm F hr hg hx hb .nil pass0 hdb
theorem pc_make (M : Mki X.prog X.w X.K X.mg X.base k C x ps sp) (hr : Room (k + 1) X.A) (hg : Gl X x) (ha : PA X (e :: es) t) (hdb : (x == ("__debug__" : Str)) = false := by decide)
    (he : starEach (e :: es) X.env = (false, eval e X.env) :: starEach es X.env := by rfl) (hpl : (backTo pos (starEach es X.env)).any (·.1) = false := by rfl) : PE X (.Call (.Name x p) (e :: es) [] pos) (tMake C sp [] E0 t) := by
  obtain ⟨f, fd, F, ⟨hm, hx⟩, hk, hb⟩ := M
  exact pe_make hm F hr hg hx hb .nil pass0 ha hdb he hpl
end
section
variable {σ : L2.St} {H : Hp} {Q : VK} {ta tv : TE} {t : TA} {K : PySem.W.Frag} {C : Addr} {m f : Str} {sp : Sp} {dvs : List V} {E : XK} {D : Ends}
theorem i_Meth (q : ta σ H fun x H1 => ∃ a dx fs, x = .ref a ∧ H1 a = some (.ins C dx fs) ∧ fs.lookup m = none ∧ t σ H1 fun vs H2 => sp (x :: (vs ++ dvs)) H2 Q E) : tMeth C m sp dvs E ta t σ H Q := q
theorem i_Make (q : t σ H fun vs H1 => ∀ x dx, H1 x = none → H1 dx = none → dx ≠ x → sp (.ref x :: (vs ++ dvs)) (upd (upd H1 dx (.own x)) x (.ins C dx [])) (fun v H2 => v = .non ∧ Q (.ref x) H2) E) : tMake C sp dvs E t σ H Q := q
theorem i_Fld (q : ta σ H fun x H1 => ∃ a C dx fs v, x = .ref a ∧ H1 a = some (.ins C dx fs) ∧ Cls K C ∧ NoAttr K C f ∧ fs.lookup f = some v ∧ Q v H1) : tFld K ta f σ H Q := q
theorem i_sFld (q : tv σ H fun y H1 => ta σ H1 fun x H2 => ∃ a C dx fs, x = .ref a ∧ H2 a = some (.ins C dx fs) ∧ Cls K C ∧ NoAttr K C f ∧ fs.length < 1000 ∧ D.nx σ (upd H2 a (.ins C dx (putF f y fs)))) : sFld K ta tv f D σ H := q
end
/-! ### stamps, pairs of numbers in order -/
def ltP2 (a b : Int × Int) : Bool := decide (a.1 < b.1 ∨ (a.1 = b.1 ∧ a.2 < b.2))
theorem ltP2_eq (a b : Int × Int) : PySem.W.dataLt (Dt.tup [.num a.1, .num a.2]).py (Dt.tup [.num b.1, .num b.2]).py = ltP2 a b := PySem.W.dataLt_ii a.1 a.2 b.1 b.2
theorem al2 (a b : Int × Int) : PySem.W.alike (Dt.tup [.num a.1, .num a.2]).py (Dt.tup [.num b.1, .num b.2]).py = true := rfl
theorem i_LtP {K : PySem.W.Frag} {H : Hp} {Q : VK} {x y : V} {a b : Int × Int} (hx : DtAt K H x (.tup [.num a.1, .num a.2])) (hy : DtAt K H y (.tup [.num b.1, .num b.2])) (q : Q (.bl (ltP2 a b)) H) : rLtO K x y H Q :=
  ⟨_, _, ⟨hx, hy, rfl, rfl, rfl, by simp [Dt.py], by simp [Dt.depth, Dt.depthAll]⟩, by rw [ltP2_eq]; exact q⟩
theorem i_GtP {K : PySem.W.Frag} {H : Hp} {Q : VK} {x y : V} {a b : Int × Int} (hx : DtAt K H x (.tup [.num a.1, .num a.2])) (hy : DtAt K H y (.tup [.num b.1, .num b.2])) (q : Q (.bl (ltP2 b a)) H) : rGtO K x y H Q :=
  ⟨_, _, ⟨hx, hy, rfl, rfl, rfl, by simp [Dt.py], by simp [Dt.depth, Dt.depthAll]⟩, by rw [ltP2_eq]; exact q⟩
end GT

/-! ## sorted, max of data -/
namespace GT
open PySem PySem.Spec PyProof.Rows L2 PySem.W
section
variable {X : Cx} {K : PySem.W.Frag} {H : Hp}
theorem Dt.flat_mem : ∀ {ds : List Dt} {d : Dt}, Dt.flatAll ds = true → d ∈ ds → d.flat = true
  | _ :: _, _, f, e => by
    simp only [Dt.flatAll, Bool.and_eq_true] at f
    rcases List.mem_cons.mp e with e | e
    · subst e; exact f.1
    · exact Dt.flat_mem f.2 e
theorem dts_each {pins : List (Addr × Obj)} {σ : L2.St} {s : Shared} (I : Inv X pins σ H s) : ∀ {xs : List V} {us : List Value} {ds : List Dt}, Vals xs us → DtsAt X.K H xs ds → EachIs (fun (u : Value) (d : Dt) => ∃ x, RelV x u ∧ DtAt X.K H x d) us ds
  | _, _, _, .nil, h => by cases h; exact .nil
  | _, _, _, .cons r rs, h => by
    cases h with
    | cons h1 h2 => exact .cons ⟨_, r, h1⟩ (dts_each I rs h2)
theorem each_dts : ∀ {us : List Value} {ds : List Dt}, EachIs (fun (u : Value) (d : Dt) => ∃ x, RelV x u ∧ DtAt K H x d) us ds → ∃ xs, Vals xs us ∧ DtsAt K H xs ds
  | _, _, .nil => ⟨[], .nil, .nil⟩
  | _, _, .cons ⟨x, r, h⟩ t => by
    obtain ⟨xs, h1, h2⟩ := each_dts t
    exact ⟨x :: xs, .cons r h1, .cons h h2⟩
def leD (d e : Dt) : Bool := dataLe false Dt.py d e
def rSortedD (K : PySem.W.Frag) : List V → Hp → VK → Prop := fun vs H Q => ∃ (a : Addr) (xs : List V) (ds : List Dt), vs = [.ref a] ∧ SqL K H a xs ∧ DtsAt K H xs ds ∧ Dt.flatAll ds = true ∧ Dt.depthAll ds ≤ 8 ∧ AllAlike (ds.map Dt.py) ∧ Sortable (ds.map Dt.py) ∧
  ∀ (p : Addr) (ys : List V), H p = none → DtsAt K H ys (ds.mergeSort leD) → Q (.ref p) (upd H p (.lst ys))
theorem cr_sortedD (hu : X.A.units + 64 < cLine) : CallR X (.builtin "sorted") (rSortedD X.K) := by
  intro pins s σ H vs us Q I r h
  obtain ⟨a, xs, ds, rfl, hs, hd, hf, hdp, hal, hsk, q⟩ := h
  obtain rfl := Vals.ref1 r
  obtain ⟨its, rv, hl, hz⟩ := I.list hs
  have e := dts_each I rv hd
  have er : EachIs (fun v d => ∃ as, Reads s.heap v (Dt.py d) as) its ds := (each_mem e).mono fun u d ⟨⟨x, rx, hx⟩, hm⟩ => ⟨[], DtIs.reads d u (Dt.flat_mem hf hm) (DtAt.is I d x u hx rx)⟩
  have ln : xs.length = ds.length := hd.length
  refine sorted_data hl.isList e er hal hsk (by rw [← ln]; exact hz) (fun d hm => ?_) fun out ho hR => ?_
  · have h1 := Dt.depth_mem hm
    have h2 := Dt.py_depth d
    omega
  · obtain ⟨ys, vy, dy⟩ := each_dts hR
    obtain ⟨ep, he'⟩ := sortedAll_at s.heap its out.toArray
    have hlen : ys.length ≤ sizeLine := by
      have h1 := vy.length
      have : ys.length = out.length := h1
      rw [this, ho, ← ln]; exact hz
    exact ⟨.ref _, upd H (s.heap.objs.size + 1) (.lst ys), I.laid (t' := s.toks) (fun _ _ => sortedAll_old) (Nat.le_succ _) ⟨hlen, out, ep, vy, he'⟩, rfl, q _ ys (I.hok.fresh (Nat.le_succ _)) dy⟩
end
end GT
namespace GT
open PySem PySem.Spec PyProof.Rows L2 PySem.W
section
variable {X : Cx}
theorem each_at {α β : Type} {R : α → β → Prop} : ∀ {us : List α} {ds : List β} {i : Nat} {u : α}, EachIs R us ds → us[i]? = some u → ∃ d, ds[i]? = some d ∧ R u d
  | _, _, _, _, .nil, e => by simp at e
  | _, _, 0, _, .cons r _, e => by simp at e; subst e; exact ⟨_, rfl, r⟩
  | _, _, i + 1, _, .cons _ t, e => by
    obtain ⟨d, h1, h2⟩ := each_at (i := i) t (by simpa using e)
    exact ⟨d, by simpa using h1, h2⟩
theorem maxD_mem : ∀ (xs : List PyData) (x : PyData), maxD x xs ∈ x :: xs
  | [], x => by simp [maxD]
  | y :: ys, x => by
    have e : maxD x (y :: ys) = maxD (if dataLt x y then y else x) ys := rfl
    rw [e]
    have h := maxD_mem ys (if dataLt x y then y else x)
    rcases List.mem_cons.mp h with z | z
    · rw [z]; split <;> simp
    · simp [z]
/-- max(xs, default=None): the data of xs are alike; what is greatest, as it stands -/
def rMaxN (K : PySem.W.Frag) : List V → List V → Hp → VK → Prop := fun vs zs H Q => ∃ (a : Addr) (xs : List V) (ds : List Dt), vs = [.ref a] ∧ zs = [.non] ∧ SqL K H a xs ∧ DtsAt K H xs ds ∧ Dt.flatAll ds = true ∧ Dt.depthAll ds ≤ 8 ∧ AllAlike (ds.map Dt.py) ∧ (∀ d ∈ ds, d.py ≠ .none) ∧
  (ds = [] → Q .non H) ∧ ∀ (d : Dt) (es : List Dt) (x : Dt) (v : V), ds = d :: es → x ∈ ds → x.py = maxD d.py (es.map Dt.py) → DtAt K H v x → Q v H
theorem cr_maxN (hc : X.calm = true) (hu : X.A.units + 64 < cLine) : CallRK X (.builtin "max") [Str.ofString "default"] (rMaxN X.K) := by
  intro pins s σ H vs zs us ws Q I r rz h
  obtain ⟨a, xs, ds, rfl, rfl, hs, hd, hf, hdp, hal, hnn, q0, q1⟩ := h
  obtain rfl := Vals.ref1 r
  obtain ⟨w1, rfl, e1⟩ := vals1 rz
  obtain rfl : w1 = Value.none := e1
  obtain ⟨its, rv, hl, hz⟩ := I.list hs
  have hr : ReadsAll s.heap its (Dt.pys ds) [] := DtAll.reads ds its hf (DtsAt.is I ds xs its hd rv)
  have hr' : ReadsAll s.heap (its.toArray).toList (ds.map Dt.py) [] := by rw [← Dt.pys_map]; simpa using hr
  have ha : AlikeAll (ds.map Dt.py) := ⟨fun x hx y hy => hal x hx y hy, fun x hx => by
    obtain ⟨d, hd, rfl⟩ := List.mem_map.mp hx
    exact hnn d hd⟩
  have hdep : PyData.depthAll (ds.map Dt.py) ≤ 8 := by rw [← Dt.pys_map, Dt.pys_depth]; exact hdp
  refine max_list_default (I.ok.hd hc) hl.isList hr' ha (by omega) (fun hnil h' tk k => ?_) fun y ys i v h' tk bs hx hv hR k => ?_
  · exact ⟨.non, H, I.kept k, rfl, q0 (by simpa using hnil)⟩
  · have hv' : its[i]? = some v := by simpa using hv
    obtain ⟨d, hdi, x, rx, hx2⟩ := each_at (dts_each I rv hd) hv'
    have hdm := List.mem_of_getElem? hdi
    have hrd := PyProof.Rows.Reads.keeps k (DtIs.reads d v (Dt.flat_mem hf hdm) (DtAt.is I d x v hx2 rx))
    have hmm : maxD y ys ∈ ds.map Dt.py := by rw [hx]; exact maxD_mem ys y
    have heq : d.py = maxD y ys := alike_unique _ _ v _ _ (hal _ (List.mem_map.mpr ⟨d, hdm, rfl⟩) _ hmm) hrd hR
    cases ds with
    | nil => cases hx
    | cons d0 es =>
      rw [List.map_cons] at hx
      injection hx with h1 h2
      refine ⟨x, H, I.kept k, rx, q1 d0 es d x rfl hdm (by rw [heq, ← h1, ← h2]) hx2⟩
end
end GT

/-! ## a lambda of one parameter, a tuple: (x[0], x[1], x[2]) -/
namespace GT
open PySem PySem.Spec PyProof.Rows L2
section
variable {prog : Program} {w : World} {A : Around} {E : Value → Shared → Prop} {s : Shared} {env : Env}
theorem raw_ix {x : Str} {p p2 pos : Pos} {kd : Nat} {k : Nat} {t : Addr} {items : Array Value} {v : Value} {m : Str → Option Value} {Q : Value → Shared → Prop} (hk : env.scope.kind = .function) (hl : env.kindOf x = some .local) (hn : s.heap.Ns env.locals m) (hm : m x = some (.ref t)) (ht : IsTup s.heap t items) (hv : items[k]? = some v) (h9 : k < 9)
    (q : Q v { s with toks := s.toks + 1 }) (hd : (x == ("__debug__" : Str)) = false) : wpAny (model prog w) A (eval (.Subscript (.Name x p) (.Constant (.int (k : Int)) kd p2) pos) env) Q E s := by
  have hlt : k < items.size := (Array.getElem?_eq_some_iff.mp hv).1
  refine subD_of (T := "tuple") slot_tuple_getitem.lookup (fun _ _ => rfl) (wpAny_Name (wpAny_loadName_local hk hl hn hm (wpAny_Constant_int ⟨ht.typeIs, ?_⟩)) hd)
  refine getItem_tuple (j := k) ht (by omega) (by omega) ?_ hv q
  unfold seqIndex?
  rw [if_neg (show ¬ (k : Int) < 0 by omega)]
  have h1 : (0 : Int) ≤ (k : Int) := by omega
  have h2 : (k : Int) < (items.size : Int) := by omega
  simp only [h1, h2, decide_true, Bool.and_true, if_true]
  simp
theorem raw_key3 {x : Str} {p0 p1 p2 q0 q1 q2 r0 r1 r2 pos : Pos} {d0 d1 d2 kd : Nat} {t : Addr} {items : Array Value} {v0 v1 v2 : Value} {m : Str → Option Value} {Q : Value → Shared → Prop} (hk : env.scope.kind = .function) (hl : env.kindOf x = some .local) (hn : s.heap.Ns env.locals m) (hm : m x = some (.ref t)) (ht : IsTup s.heap t items)
    (h0 : items[0]? = some v0) (h1 : items[1]? = some v1) (h2 : items[2]? = some v2) (hd : (x == ("__debug__" : Str)) = false)
    (q : Q (.ref s.heap.objs.size) { s with heap := s.heap.push { cls := .type "tuple", data := .seq #[v0, v1, v2] }, toks := s.toks + 3 }) :
    wpAny (model prog w) A (eval (.Tuple [.Subscript (.Name x p0) (.Constant (.int (0 : Int)) d0 q0) r0, .Subscript (.Name x p1) (.Constant (.int (1 : Int)) d1 q1) r1, .Subscript (.Name x p2) (.Constant (.int (2 : Int)) d2 q2) r2] kd pos) env) Q E s := by
  refine wpAny_Tuple ?_
  refine spliced_more (raw_ix (k := 0) hk hl hn hm ht h0 (by decide) ?_ hd)
  refine spliced_more (raw_ix (k := 1) hk hl hn hm ht h1 (by decide) ?_ hd)
  refine spliced_more (raw_ix (k := 2) hk hl hn hm ht h2 (by decide) ?_ hd)
  exact spliced_none ⟨by show 3 ≤ sizeLine; decide, q⟩
/-- the call of such a lambda -/
theorem lam_key3 {f c' t : Addr} {qual x : Str} {params : Arguments} {scope : Scope} {pm ctv : Value} {p0 p1 p2 q0 q1 q2 r0 r1 r2 pos : Pos} {d0 d1 d2 kd : Nat} {items : Array Value} {v0 v1 v2 : Value}
    (of : s.heap.get? f = some (PySem.W.kla_obj "<lambda>" qual params (.Tuple [.Subscript (.Name x p0) (.Constant (.int (0 : Int)) d0 q0) r0, .Subscript (.Name x p1) (.Constant (.int (1 : Int)) d1 q1) r1, .Subscript (.Name x p2) (.Constant (.int (2 : Int)) d2 q2) r2] kd pos) scope [] pm c' ctv))
    (rc : s.heap.CodeRec (.ref c') qual) (nl : s.heap.NoLimit) (room : A.depth < recursionLimit)
    (hbind : bindArgs (PySem.W.kla_fn "<lambda>" qual params (.Tuple [.Subscript (.Name x p0) (.Constant (.int (0 : Int)) d0 q0) r0, .Subscript (.Name x p1) (.Constant (.int (1 : Int)) d1 q1) r1, .Subscript (.Name x p2) (.Constant (.int (2 : Int)) d2 q2) r2] kd pos) scope [] pm (.ref c') ctv) ⟨[.ref t], []⟩ = pure [(x, .ref t)])
    (hk : scope.kind = .function) (co : scope.isCoroutine = false) (gen : scope.isGenerator = false) (hc : ∀ y ∈ scope.names, y.2 ≠ .cell) (hx : scope.names.lookup x = some .local) (hd : (x == ("__debug__" : Str)) = false)
    (ht : IsTup s.heap t items) (h0 : items[0]? = some v0) (h1 : items[1]? = some v1) (h2 : items[2]? = some v2) :
    wpAny (model prog w) A (call (.ref f) [.ref t]) (fun v s' => ∃ h' tk b, s' = { s with heap := h', toks := tk } ∧ (∀ b o, s.heap.get? b = some o → h'.get? b = some o) ∧ v = .ref b ∧ h'.get? b = some { cls := .type "tuple", data := .seq #[v0, v1, v2] }) (fun _ _ => False) s := by
  refine wpAny_call (codeAny_mono (R := fun r s' => ∃ v, r = .ok (.ret v) ∧ ∃ h' tk b, s' = { s with heap := h', toks := tk } ∧ (∀ b o, s.heap.get? b = some o → h'.get? b = some o) ∧ v = .ref b ∧ h'.get? b = some { cls := .type "tuple", data := .seq #[v0, v1, v2] }) ?_ fun r s' h => ?_)
  · refine PySem.W.kla_callFunE room of rfl co gen rfl rc ?_
    rw [hbind]
    refine wpAny_pure (wpAny_newFunctionEnv hc (fun y hy => ?_) (fun h₁ hns hsb => ⟨nl.fresh _ hsb, ?_⟩) hk)
    · rw [List.mem_singleton.mp hy]; exact hx
    · have kp : ∀ b o, s.heap.get? b = some o → h₁.get? b = some o := fun b o e => hsb.extBut b o (Nat.ne_of_lt (Heap.lt_size e)) (Heap.get?_push_of_some _ e)
      have ht1 : IsTup h₁ t items := let ⟨o, e, r⟩ := ht; ⟨o, kp _ _ e, r⟩
      refine PySem.W.kla_codeExpr (raw_key3 (items := items) hk ?_ hns ?_ ht1 h0 h1 h2 hd ?_)
      · first | exact hx | (show scope.names.lookup x = some .local; exact hx) | simpa [Env.kindOf] using hx
      · first | (simp; done) | (show List.lookup x [(x, Value.ref t)] = _; simp [List.lookup])
      · exact ⟨_, rfl, _, _, _, rfl, fun b o e => Heap.get?_push_of_some _ (kp b o e), rfl, Heap.get?_push_size _ rfl⟩
  · obtain ⟨v, rfl, h⟩ := h
    exact h
end
end GT
/-! ## sorted(d, key=f): the keys of a dict -/
namespace GT
open PySem PySem.Spec PySem.Calls PyProof.Rows L2 PySem.W
section
variable {prog : Program} {w : World} {A : Around} {E : Value → Shared → Prop} {s : Shared} {β : Type} {bs : List β} {R : Value → β → Prop}
theorem each_of_items {P : Nat → Value → Prop} {acc : Array Value} (it : ItemsOf P acc bs.length) (h : ∀ (i : Nat) (v : Value) (b : β), P i v → bs[i]? = some b → R v b) : EachIs R acc.toList bs := by
  obtain ⟨hn, hp⟩ := it
  refine EachIs.of_zip (by rw [Array.length_toList]; exact hn) fun p hm => ?_
  obtain ⟨i, hi⟩ := List.getElem?_of_mem hm
  rw [List.getElem?_zip_eq_some] at hi
  refine h i p.1 p.2 (hp i p.1 ?_) hi.2
  rw [← Array.getElem?_toList]; exact hi.1
theorem raw_sorted_dict {d q : Addr} {es : Array DictEntry} {ep : Nat} {Q : Value → Shared → Prop} (k : β → PyData) (lo : (d == sysModules) = false) (hm : s.heap.DictRaw d es ep) (hh : A.handled = none) (hn : es.size ≤ sizeLine) (hes : es.size = bs.length)
    (hit : ∀ (i : Nat) (b : β) (hi : i < es.size), bs[i]? = some b → R es[i].key b) (hal : AllAlike (bs.map k)) (hk : Sortable (bs.map k)) (hu : ∀ x, x ∈ bs → A.units + 2 + (k x).depth < cLine)
    (turn : ∀ (v : Value) (x : β), R v x → x ∈ bs → ∀ (h : Heap) (tk : Nat), (∀ b o, s.heap.get? b = some o → h.get? b = some o) →
      wpAny (model prog w) A.in1.in1 (call (.ref q) [v]) (KeyPure (k x) { s with heap := h, toks := tk }) (fun _ _ => False) { s with heap := h, toks := tk })
    (h : ∀ (out : List Value) (c : Nat) (h1 h' : Heap) (tk : Nat) (a : Addr), (∀ b o, s.heap.get? b = some o → h1.get? b = some o) → (∀ b o, h1.get? b = some o → h'.get? b = some o) → h1.objs.size ≤ a → h'.get? a = some (seqObj "list" (List.toArray out) c) → out.length = bs.length → EachIs R out (bs.mergeSort (dataLe false k)) →
      Q (.ref a) { s with heap := h', toks := tk }) :
    wpAny (model prog w) A (call (.builtin "sorted") [.ref d] [(Str.ofString "key", .ref q)]) Q E s := by
  refine call_function_entry_kw kind_sorted plain_sorted entry_sorted (ksk_s1 _ _) ?_
  unfold Builtin.«sorted»
  refine wpAny_bind (m := checkCount "sorted" 1 1 _) (wpAny_pure ?_)
  refine wpAny_bind (kdu_collect (A := A.in1) (KdlSrc.rawDict lo) hh hm hn fun h1 tk1 acc hk1 hacc => ?_)
  have he : EachIs R acc.toList bs := each_of_items (P := fun i v => ∃ hi : i < es.size, v = es[i].key) ⟨hacc.1.trans hes, hacc.2⟩ fun i v b ⟨hi, e⟩ hb => by rw [e]; exact hit i b hi hb
  have hl : acc.toList.length = bs.length := he.length
  have hz : acc.toList.length ≤ sizeLine := by rw [hl, ← hes]; exact hn
  refine wpAny_bind (wpAny_newList ?_ hz)
  have ho : (h1.push { cls := .type "list", data := .seq acc.toList.toArray }).get? h1.objs.size = some (seqObj "list" acc.toList.toArray 0) := Heap.get?_push_size _ rfl
  refine wpAny_bind (wpAny_holding (wpAny_call_entry_kw slot_list_sort ⟨_, ho, rfl⟩ entry_list_sort ?body (ksk_l1 _ _)))
  case body =>
    rw [ksk_t1]
    refine wpAny_mono (keyH_tree (A := A.in1.in1) (E := fun _ _ => False) (P := fun f s' => ∃ out c h' tk, f = .done (.ret .none) ∧ s' = { s with heap := h', toks := tk } ∧ (∀ b o, h1.get? b = some o → h'.get? b = some o) ∧ h'.get? h1.objs.size = some (seqObj "list" (List.toArray out) c) ∧ out.length = bs.length ∧ EachIs R out (bs.mergeSort (dataLe false k)))
      (kz := bs.map k) (s := { s with heap := h1.push { cls := .type "list", data := .seq acc.toList.toArray }, toks := tk1 }) ho (by rw [List.length_map]; exact hl.symm) hz hal hk (bound_map (A := A.in1.in1) hu)
      (keyH_turns (s := { s with heap := h1.push { cls := .type "list", data := .seq acc.toList.toArray }, toks := tk1 }) he fun v x hR hx h tk kp => turn v x hR hx h tk fun b o e => kp b o (Nat.ne_of_lt (Heap.lt_size (hk1 b o e))) (Heap.get?_push_of_some _ (hk1 b o e)))
      fun h' tk out c kp hD ko => ⟨out, c, h', tk, rfl, rfl, fun b o e => kp b o (Nat.ne_of_lt (Heap.lt_size e)) (Heap.get?_push_of_some _ e), hD, (ko.length (by rw [List.length_map]; exact hl.symm)).trans hl, keyedOut_each k ko he⟩) (fun f s' hf => ?_) fun _ _ e => e.elim
    obtain ⟨out, c, h', tk, rfl, rfl, hkp, hD, ho2, hR2⟩ := hf
    exact ⟨_, rfl, wpAny_pure ⟨_, rfl, h out c h1 h' tk _ hk1 hkp (Nat.le_refl _) hD ho2 hR2⟩⟩
end
end GT

/-! ## rules with K told (for the blocks of comprehensions) -/
namespace GT
open PySem PySem.Spec PyProof.Rows L2
section
variable {X : Cx} {K : PySem.W.Frag}
theorem ix_tupK (e : X.K = K) : IxR X (rIxT K) := by subst e; exact ix_tup
theorem ix_listK (e : X.K = K) : IxR X (rIxL K) := by subst e; exact ix_list
theorem op_eqTK (e : X.K = K) (hu : X.A.units + 64 < cLine) : OpR X (compareOp .Eq) (rEqT K) := by subst e; exact op_eqT hu
theorem op_neTK (e : X.K = K) (hu : X.A.units + 64 < cLine) : OpR X (compareOp .NotEq) (rNeT K) := by subst e; exact op_neT hu
theorem op_inTK (e : X.K = K) (hu : X.A.units + 64 < cLine) : OpR X (compareOp .In) (rInT K) := by subst e; exact op_inT hu
theorem op_notInTK (e : X.K = K) (hu : X.A.units + 64 < cLine) : OpR X (compareOp .NotIn) (rNotInT K) := by subst e; exact op_notInT hu
theorem op_ltOK (e : X.K = K) (hu : X.A.units + 64 < cLine) : OpR X (compareOp .Lt) (rLtO K) := by subst e; exact op_ltO hu
theorem op_gtOK (e : X.K = K) (hu : X.A.units + 64 < cLine) : OpR X (compareOp .Gt) (rGtO K) := by subst e; exact op_gtO hu
theorem pe_fldK {e : Expr} {ta : TE} {f : Str} {pos : Pos} (eK : X.K = K) (he : PE X e ta) (hb : attributeBase e f X.env (eval e X.env) = eval e X.env) : PE X (.Attribute e f pos) (tFld K ta f) := by subst eK; exact pe_fld he hb
end
end GT

/-! ## a lambda made: what its making changes, told exactly -/
namespace GT
open PySem PySem.Spec PyProof.Rows L2 LamX
section
variable {X : Cx} {pins : List (Addr × Obj)} {σ : L2.St} {H : Hp} {s : Shared}
theorem codeO_tbl {c : Addr} {q : Str} : ∀ ps, CodeO c q ≠ .tbl ps := fun ps => codeO_ne ps
/-- the table at P: its code objects, of the name q, are among L -/
structure Tab (H : Hp) (P : Addr) (q : Str) (L : List Addr) : Prop where
  ex : ∃ ps : Array Value, H P = some (.tbl ps) ∧ TriplesOk ps.toList ∧ ∀ (pos : Pos) (cv : Value), codeAmong pos ps.toList = some cv → ∃ c ∈ L, cv = .ref c
  codes : ∀ c ∈ L, H c = some (CodeO c q)
theorem Tab.nil {H : Hp} {P : Addr} {q : Str} (h : H P = some (.tbl #[])) : Tab H P q [] := ⟨⟨#[], h, True.intro, fun pos cv hc => by
  have z : codeAmong pos [] = some cv := hc
  simp [codeAmong] at z⟩, fun c hc => nomatch hc⟩
theorem Tab.stp {H H1 : Hp} {P : Addr} {q : Str} {L M : List Addr} (t : Tab H P q L) (s : Stp M H H1) (nP : P ∉ M) (nL : ∀ c ∈ L, c ∉ M) : Tab H1 P q L :=
  ⟨let ⟨ps, h, r⟩ := t.ex; ⟨ps, s.keep _ _ h nP, r⟩, fun c hc => s.keep _ _ (t.codes c hc) (nL c hc)⟩
theorem Tab.grow {H H1 : Hp} {P : Addr} {q : Str} {L : List Addr} (t : Tab H P q L) (s : Stp [] H H1) : Tab H1 P q L := t.stp s (by simp) (fun _ _ => by simp)
theorem Tab.there {H : Hp} {P : Addr} {q : Str} {L : List Addr} (t : Tab H P q L) : ∃ ps, H P = some (.tbl ps) := let ⟨ps, h, _⟩ := t.ex; ⟨ps, h⟩
/-- the table with one code object more -/
theorem tab_more {P c : Addr} {q : Str} {ps : Array Value} {pos : Pos} {L : List Addr} (hP : H P = some (.tbl ps)) (ht : TriplesOk ps.toList) (ha : ∀ p' cv, codeAmong p' ps.toList = some cv → ∃ c ∈ L, cv = .ref c) (hL : ∀ c ∈ L, H c = some (CodeO c q)) (nC : H c = none) :
    Tab (upd (upd H P (.tbl (ps ++ #[rawInt pos.line, rawInt pos.col, .ref c]))) c (CodeO c q)) P q (c :: L) ∧ Stp [P] H (upd (upd H P (.tbl (ps ++ #[rawInt pos.line, rawInt pos.col, .ref c]))) c (CodeO c q)) := by
  have nPc : P ≠ c := ne_of_none hP nC
  have at_ : ∀ b, b ≠ P → b ≠ c → upd (upd H P (.tbl (ps ++ #[rawInt pos.line, rawInt pos.col, .ref c]))) c (CodeO c q) b = H b := fun b h1 h2 => by rw [upd_ne h2, upd_ne h1]
  refine ⟨⟨⟨_, by rw [upd_ne nPc, upd_same], ?_, fun p' cv hcv => ?_⟩, fun c0 h0 => ?_⟩, ⟨fun b o e n => ?_, fun b xs e => ?_, fun b qs e => ?_⟩⟩
  · rw [Array.toList_append]; exact PySem.TriplesOk_snoc _ _ _ _ ht
  · rw [Array.toList_append] at hcv
    rcases among_app _ ht hcv with z | z
    · obtain ⟨c0, e1, e2⟩ := ha p' cv z
      exact ⟨c0, List.mem_cons_of_mem _ e1, e2⟩
    · exact ⟨c, List.mem_cons_self, z⟩
  · rcases List.mem_cons.mp h0 with z | z
    · rw [z]; exact upd_same
    · have e2 := hL c0 z
      have h1 : c0 ≠ P := fun z => by rw [z, hP] at e2; exact codeO_tbl _ (Option.some.inj e2).symm
      rw [at_ c0 h1 (ne_of_none e2 nC)]; exact e2
  · rw [at_ b (fun z => n (by rw [z]; simp)) (ne_of_none e nC)]; exact e
  · have h1 : b ≠ P := fun z => by rw [z, hP] at e; cases e
    rw [at_ b h1 (ne_of_none e nC)]; exact e
  · by_cases h1 : b = P
    · exact ⟨ps, by rw [h1]; exact hP⟩
    · by_cases h2 : b = c
      · rw [h2, upd_same] at e; exact absurd (Option.some.inj e) (codeO_tbl _)
      · rw [at_ b h1 h2] at e; exact ⟨qs, e⟩
/-- the function object at f stands as it was made -/
def LamO (f : Addr) (ob : Obj) : HO := .ext fun h => h.get? f = some ob
theorem lamO_ok {P : Program} {w : World} {H : Hp} {h : Heap} {f : Addr} {ob : Obj} (e : h.get? f = some ob) : ObjOk P w H h f (LamO f ob) := ⟨e, ⟨ob, e⟩, fun _ _ y k => k _ y⟩
theorem lamO_tbl {f : Addr} {ob : Obj} : ∀ ps, LamO f ob ≠ .tbl ps := fun _ z => nomatch z
/-- the evaluation of a lambda that captures nothing -/
def tLam (P : Addr) (q : Str) (params : Arguments) (body : Expr) (scope : Scope) (clo : List (Str × Addr)) : TE := fun _ H Q => ∃ L, Tab H P q L ∧ ∀ (f c' : Addr) (pm ctv : Value) (H1 : Hp) (L1 : List Addr), Tab H1 P q L1 → (∀ c ∈ L1, c ∈ L ∨ H c = none) → Stp [P] H H1 → H1 c' = some (CodeO c' q) → H f = none →
  H1 f = some (LamO f (PySem.W.kla_obj "<lambda>" q params body scope clo pm c' ctv)) → Q (.ref f) H1
theorem pe_lam {c P : Addr} {params : Arguments} {body : Expr} {scope : Scope} {pos : Pos} (TB : TabB X.base X.mg c P) (hcode : X.env.code = .ref c) (hdef : defaultsOf params X.env = ([], [])) (hfree : ∀ y ∈ scope.names, y.2 ≠ .free) :
    PE X (.Lambda params body scope pos) (tLam P (X.env.qual ++ "<lambda>") params body scope (cloFrom X.env.cells scope.names [])) := by
  refine ⟨fun pins s σ H Q I hh => ?_⟩
  obtain ⟨L, hT, h⟩ := hh
  have hT0 := hT
  obtain ⟨⟨ps, hP, ht, ha⟩, hL⟩ := hT
  have hP' : s.heap.get? P = some { cls := .none, data := .fields ps } := I.hok P _ hP
  have clo := closure_ok (env := X.env) (scope := scope) fun y hy e => absurd e (hfree y hy)
  have bP : s.heap.BuiltinsAt X.mg P := TB.bm.keeps I.bk
  refine PySem.W.kla_eval hdef ?_
  cases hc : codeAmong pos ps.toList with
  | some cv =>
    obtain ⟨c', hcL, rfl⟩ := ha pos cv hc
    have hco := hL c' hcL
    refine PySem.W.kla_makeFunctionHit (mg := X.mg) (c := c) (P := P) (ps := ps) clo I.ok.glob (I.mod.glob.keeps I.bk) hcode (TB.code.keeps I.bk) hP' ht hc bP fun ctv h' tk hx hsz => ?_
    have nf : H h'.objs.size = none := I.hok.fresh hsz
    have st : Stp [] H (upd H h'.objs.size (LamO h'.objs.size (PySem.W.kla_obj "<lambda>" (X.env.qual ++ "<lambda>") params body scope (cloFrom X.env.cells scope.names []) ((X.mg "__name__").getD .none) c' ctv))) := .new nf lamO_tbl
    exact ⟨.ref _, _, I.laid (t' := tk) (fun b o e => Heap.get?_push_of_some _ (hx b o e)) hsz (lamO_ok (Heap.get?_push_size _ rfl)), rfl, h _ c' _ ctv _ L (hT0.grow st) (fun c hc => .inl hc) (st.mono (by simp)) (st.keep _ _ hco (by simp)) nf upd_same⟩
  | none =>
    refine PySem.W.kla_makeFunction (mg := X.mg) (c := c) (P := P) (ps := ps) clo I.ok.glob (I.mod.glob.keeps I.bk) hcode (TB.code.keeps I.bk) hP' ht hc TB.gP bP fun c' ctv h' tk hx hge hlt hrec htb => ?_
    obtain ⟨c2, oc, vs, t, e2, hoc, hd, hv⟩ := hrec
    cases e2
    have nC : H c' = none := I.hok.fresh hge
    obtain ⟨t1, st1⟩ := tab_more (pos := pos) hP ht ha hL nC
    have I1 := inv_table (t' := tk) (more := #[rawInt pos.line, rawInt pos.col, .ref c']) (q := X.env.qual ++ "<lambda>") (h' := h') I hP hx htb hge ⟨oc, vs, t, hoc, hd, hv⟩
    have nf : H h'.objs.size = none := I.hok.fresh (Nat.le_trans hge (Nat.le_of_lt hlt))
    have nf1 := I1.hok.fresh (Nat.le_refl _)
    have st2 : Stp [] _ (upd _ h'.objs.size (LamO h'.objs.size (PySem.W.kla_obj "<lambda>" (X.env.qual ++ "<lambda>") params body scope (cloFrom X.env.cells scope.names []) ((X.mg "__name__").getD .none) c' ctv))) := Stp.new nf1 lamO_tbl
    have co1 := t1.codes c' List.mem_cons_self
    exact ⟨.ref _, _, I1.laid (t' := tk) (a := h'.objs.size) (o := LamO h'.objs.size (PySem.W.kla_obj "<lambda>" (X.env.qual ++ "<lambda>") params body scope (cloFrom X.env.cells scope.names []) ((X.mg "__name__").getD .none) c' ctv)) (fun b o e => Heap.get?_push_of_some _ e) (Nat.le_refl _) (lamO_ok (Heap.get?_push_size _ rfl)), rfl,
      h _ c' _ ctv _ (c' :: L) (t1.grow st2) (fun c hc => (List.mem_cons.mp hc).elim (fun z => .inr (by rw [z]; exact nC)) .inl) (st1.trans (st2.mono (by simp))) (st2.keep _ _ co1 (by simp)) nf upd_same⟩
end
end GT

/-! ## dict comprehensions whose keys are tuples -/
namespace GT
open PySem PySem.Spec PyProof.Rows L2
section
variable {X : Cx} {pins : List (Addr × Obj)} {σ : L2.St} {H : Hp} {s : Shared}
/-- one entry stored by a comprehension -/
theorem nd_store {E : Value → Shared → Prop} {Q : Unit → Shared → Prop} {D a : Addr} {k : NestedKey} {kvs : List NKV} {v : V} {u ku : Value} (hu : X.A.units + 9 < cLine) (I : Inv X pins σ H s) (g : ND X.prog X.w X.K H D kvs) (hk : KyAt X.K H (.ref a) k) (hl : kvs.length < sizeLine)
    (rk : RelV (.ref a) ku) (rv : RelV v u) (h : ∀ s' H', Inv X pins σ H' s' → ND X.prog X.w X.K H' D (putK kvs k v) → Stp [D] H H' → Q () s') : wpAny (model X.prog X.w) X.A (dictSet D ku u) Q E s := by
  obtain ⟨xs, e, ks, rfl⟩ := g
  obtain rfl : ku = Value.ref a := rk
  obtain ⟨z, hd, ys, rel, dd⟩ := nd_raw I (.inl e) ks
  rw [plainX_len] at hl
  have l1 : ys.length ≤ sizeLine := by rw [← Paired.length rel]; exact z
  have l2 : (putX xs k a v).length ≤ sizeLine := by have := putX_len xs k a v; omega
  have st : Stp [D] H (upd H D (ndO X.prog X.w D (putX xs k a v))) := .wr (by simp) e fun _ z => nomatch z
  refine wpAny_dictSet_heap (hsz := l1) (show X.A.units + 8 < cLine by omega) (hk.is I) dd fun h' dd' hs => h _ (upd H D (ndO X.prog X.w D (putX xs k a v))) ?_ ⟨_, upd_same, (ks.put hk).stp st, plainX_put xs k a v⟩ st
  obtain ⟨q, es, ep, hq, h2, h3, h4, _, h5⟩ := dd'
  exact d_write I (by rw [e]; exact True.intro) hs ⟨q, hq⟩ (ndO_ok ⟨l2, hd, _, rel.put k rv, q, es, ep, hq, h2, h3, h4, h5⟩)
/-- {k: v for target in iter if ..}: D the new dict -/
def tDn (P : Program) (w : World) (K : PySem.W.Frag) (wi : TI) (g : TG) (tt : TT) (tk tv : TE) (vs : List Nat) : TE := fun σ H Q => wi σ H fun J H1 => ∀ D H2, H1 D = none → ND P w K H2 D [] → Stp [] H1 H2 → ∃ W : Nat → Nat → Hp → Prop, (∃ m, W 0 m H2) ∧ ∀ i m H, W i m H →
  (J.stop i H ∧ Q (.ref D) H) ∨ (J.go i H ∧ ∃ Nx : Hp → Prop, (∀ H', Nx H' → ∃ m', m' < m ∧ W (i + 1) m' H') ∧ ∀ x H', J.yld i H x H' → g x (wipe σ vs) H' fun σ2 H2 => wipe σ2 vs = wipe σ vs ∧ tt σ2 H2 fun b H3 =>
    if b = true then tk σ2 H3 fun y H4 => tv σ2 H4 fun z H5 => ∃ a kvs k, y = .ref a ∧ ND P w K H5 D kvs ∧ KyAt K H5 (.ref a) k ∧ kvs.length < sizeLine ∧ ∀ H6, ND P w K H6 D (putK kvs k z) → Stp [D] H5 H6 → Nx H6 else Nx H3)
/-- what the block is made of, whatever frame it runs in -/
structure DcB (X : Cx) (scope : Scope) (tg : Expr) (ifs : List Expr) (kx vx : Expr) (g : TG) (tt : TT) (tk tv : TE) : Prop where
  tgt : ∀ (s : Shared) (H : Hp) (C : Addr) (cl : List (Str × Addr)) (fp : List Addr), PG (X.blk s H scope (compEnvC scope cl C X.env) fp) tg g
  tst : ∀ (s : Shared) (H : Hp) (C : Addr) (cl : List (Str × Addr)) (fp : List Addr), PTs (X.blk s H scope (compEnvC scope cl C X.env) fp) ifs tt
  key : ∀ (s : Shared) (H : Hp) (C : Addr) (cl : List (Str × Addr)) (fp : List Addr), PE (X.blk s H scope (compEnvC scope cl C X.env) fp) kx tk
  val : ∀ (s : Shared) (H : Hp) (C : Addr) (cl : List (Str × Addr)) (fp : List Addr), PE (X.blk s H scope (compEnvC scope cl C X.env) fp) vx tv
theorem dn_core {kx vx tg iter : Expr} {ifs : List Expr} {scope : Scope} {own : List (Str × Nat)} {pos pos' : Pos} {wi : TI} {g : TG} {tt : TT} {tk tv : TE} {Q : VK} {use : Option (Value → Sem Unit)} {Qf : Value → Shared → Prop} (hu : X.A.units + 9 < cLine) (hc : X.calm = true) (hN : X.N.Nodup) (I : Inv X pins σ H s) (hi : PI X tg iter wi)
    (ok : BlkOk X.N X.env.scope scope own) (B : DcB X scope tg ifs kx vx g tt tk tv) (fold : ∀ x, foldedSetIterable iter X.env x = pure x) (hq : tDn X.prog X.w X.K wi g tt tk tv (own.map (·.2)) σ H Q)
    (back : ∀ (D C : Addr) (s' : Shared) (m : Str → Option Value) (H' : Hp), Inv X pins σ H' s' → Q (.ref D) H' → s'.heap.Ns C m → FpOk X pins H' C → compPost (model X.prog X.w) X.A X.xe use Qf (.ref D) C (.ok .next) s') :
    wpAny (model X.prog X.w) X.A (comprehension (.DictComp kx vx [⟨tg, iter, ifs, 0⟩] scope pos) scope X.env pos' newDict false (eval iter X.env) use) Qf X.xe s := by
  have captured : ∀ y ∈ scope.names, y.2 = .free → ∃ c, X.env.cells.lookup y.1 = some c := fun y hy e =>
    (ok.free y hy e).elim (fun z => I.ok.has _ (.inl z)) fun z => I.ok.has _ (.inr z)
  refine wpAny_comprehension_free (use := use) rfl fold (closure_ok captured) ok.kind (fun y hy e => by rw [ok.uniq y hy, e]) (thn (hi.run pins s σ H _ I hq) fun _ s1 w1 => thn w1 fun _ s2 w2 => ?_)
  obtain ⟨it, fp, tn, J, H2, rfl, I2, T, t2, f2, body⟩ := w2
  refine wpAny_newObj_type (newEnv_comp ?_)
  -- the new dict at D
  generalize hD : s2.heap.objs.size = D
  have freeD : H2 D = none := I2.hok.fresh (Nat.le_of_eq hD)
  have got : (s2.heap.push { cls := .type "dict", data := .dict #[] }).get? D = some { cls := .type "dict", data := .dict #[] } := by
    rw [← hD]
    exact Heap.get?_push_size _ rfl
  generalize hs3 : ({ s2 with heap := s2.heap.push { cls := .type "dict", data := .dict #[] } } : Shared) = s3
  have hp3 : s3.heap = s2.heap.push { cls := .type "dict", data := .dict #[] } := by rw [← hs3]
  obtain ⟨H3, hH3⟩ : ∃ H3 : Hp, upd H2 D (ndO X.prog X.w D []) = H3 := ⟨_, rfl⟩
  have at3 : H3 D = some (ndO X.prog X.w D []) := by rw [← hH3]; exact upd_same
  have stp3 : Stp [] H2 H3 := by rw [← hH3]; exact .new freeD
  have I3 : Inv X pins σ H3 s3 := by
    rw [← hs3, ← hH3]
    refine I2.laid (a := D) (o := ndO X.prog X.w D []) (t' := s2.toks) (fun b o e => Heap.get?_push_of_some _ e) (Nat.le_of_eq hD) (ndO_ok ⟨Nat.zero_le _, beq_eq_false_iff_ne.mpr (Ne.symm (Nat.ne_of_lt (by rw [← hD]; exact I2.big))), [], .nil, _, #[], 0, got, ⟨rfl, rfl, rfl⟩, rfl, rfl, List.nodup_nil⟩)
  obtain ⟨W, ⟨m0, w0⟩, turn⟩ := body D H3 freeD ⟨[], at3, fun _ z => (nomatch z), rfl⟩ stp3
  have below : ∀ b ∈ fp, b < s2.heap.objs.size := fun b hb => by
    obtain ⟨o, e, _⟩ := T.obj _ _ t2 b hb
    exact Heap.lt_size e
  have f3 : ∀ b ∈ fp, FpOk X pins H3 b ∧ b < s3.heap.objs.size := fun b hb => by
    have lt := below b hb
    refine ⟨⟨?_, (f2 b hb).2⟩, by rw [hp3, Heap.size_push]; exact Nat.lt_succ_of_lt lt⟩
    rw [← hH3, upd_ne (by rw [← hD]; exact Nat.ne_of_lt lt)]
    exact (f2 b hb).1
  have t3 : tn 0 s3.heap := T.keep _ _ _ t2 fun b _ o e => by rw [hp3]; exact Heap.get?_push_of_some _ e
  have J4 := block_start I3 ok hN f3
  have kt := B.tgt s3 H3 s3.heap.objs.size (cellsFrom (s3.heap.objs.size + 1) scope.names (cloFrom X.env.cells scope.names [])) fp
  have kf := B.tst s3 H3 s3.heap.objs.size (cellsFrom (s3.heap.objs.size + 1) scope.names (cloFrom X.env.cells scope.names [])) fp
  have kk := B.key s3 H3 s3.heap.objs.size (cellsFrom (s3.heap.objs.size + 1) scope.names (cloFrom X.env.cells scope.names [])) fp
  have kv := B.val s3 H3 s3.heap.objs.size (cellsFrom (s3.heap.objs.size + 1) scope.names (cloFrom X.env.cells scope.names [])) fp
  have away : ∀ b ∈ fp, H3 b = none := fun b hb => (f3 b hb).1.1
  show codeAny _ _ (.compStart (.DictComp kx vx [⟨tg, iter, ifs, 0⟩] scope pos) 0 (.ref it) (.ref D) (compEnvC scope (cellsFrom (s3.heap.objs.size + 1) scope.names (cloFrom X.env.cells scope.names [])) s3.heap.objs.size X.env)) (compPost (model X.prog X.w) X.A X.xe use Qf (.ref D) s3.heap.objs.size) { s3 with heap := pushCells (s3.heap.push { cls := .type "dict", data := .dict #[] }) scope.names }
  generalize hce : compEnvC scope (cellsFrom (s3.heap.objs.size + 1) scope.names (cloFrom X.env.cells scope.names [])) s3.heap.objs.size X.env = ce at J4 kt kf kk kv ⊢
  have locals_ : ce.locals = s3.heap.objs.size := by rw [← hce]; rfl
  generalize hs4 : ({ s3 with heap := pushCells (s3.heap.push { cls := .type "dict", data := .dict #[] }) scope.names } : Shared) = s4 at J4 ⊢
  have t4 : tn 0 s4.heap := T.keep _ _ _ t3 fun b _ o e => by rw [← hs4]; exact pushCells_keeps _ _ _ _ (Heap.get?_push_of_some _ e)
  -- the iterator's objects are nobody's
  have calmF : ∀ {σ' : L2.St} {H' : Hp} {s' : Shared}, Inv (X.blk s3 H3 scope ce fp) [] σ' H' s' → (∀ b ∈ fp, H' b = none) → ∀ b ∈ fp, FpOk (X.blk s3 H3 scope ce fp) [] H' b := fun {σ' H' s'} I' hn b hb =>
    ⟨hn b hb, (I'.ok.exf b hb).1, I'.ok.exfs b hb, .inl hb, fun x c e => (I'.ok.exf b hb).2 x c e, fun p hp => absurd (show p ∈ ([] : List (Addr × Obj)) ++ [] from hp) (by simp)⟩
  suffices loop : codeAny (model X.prog X.w) X.A (.compLoop (.DictComp kx vx [⟨tg, iter, ifs, 0⟩] scope pos) 0 (.ref it) (.ref D) ce) (compPost (model X.prog X.w) X.A X.xe use Qf (.ref D) s3.heap.objs.size) s4 from
    codeAny_compStart_dict loop (T.self X.A 0 _ _ _ t4 loop)
  refine compLoop_anyD (fun n s' => ∃ i H', Inv (X.blk s3 H3 scope ce fp) [] (wipe σ (own.map (·.2))) H' s' ∧ tn i s'.heap ∧ (∀ b ∈ fp, H' b = none) ∧ W i n H') ?_ m0 ⟨0, H3, J4, t4, away, w0⟩
  rintro n s5 ⟨i, H5, J5, t5, n5, w5⟩
  rcases turn i n H5 w5 with ⟨stop, told⟩ | ⟨go, Nx, less, step⟩
  · refine thnF (T.done (X.blk s3 H3 scope ce fp) rfl rfl rfl hc i [] s5 _ H5 (fun _ _ => False) J5 (calmF J5 n5) t5 stop) fun r s6 ⟨hr6, J6⟩ => ?_
    subst hr6
    have I7 : Inv X pins σ H5 s6 := I3.call' (ch := fp) J6.os J6.base J6.hok J6.bare fun b hb => let f := (f3 b hb).1; ⟨f.2.2.2.1, f.2.1, f.2.2.2.2.1, f.2.2.2.2.2⟩
    have noC : H5 s3.heap.objs.size = none := by
      have z : H5 ce.locals = none := J6.free
      rwa [locals_] at z
    obtain ⟨m, hn, _⟩ := J6.loc
    have hn : s6.heap.Ns ce.locals m := hn
    rw [locals_] at hn
    exact back D _ s6 m H5 I7 told hn (I3.fpOk (Nat.le_refl _) noC)
  · refine thnF (T.item (X.blk s3 H3 scope ce fp) rfl rfl rfl hc i [] s5 _ H5 (fun _ _ => False) J5 (calmF J5 n5) t5 go) fun r s6 ⟨u, hr6, h6⟩ => ?_
    subst hr6
    refine thnF h6 fun _ s7 ⟨x, H7, J7, r7, y7, t7, n7⟩ => ?_
    have P7 := J7.pinned (calmF J7 n7) (T.obj _ _ t7)
    refine thnF (kt.run _ s7 _ H7 x u _ P7 r7 (step x H7 y7)) fun _ s8 ⟨σ8, H8, J8, hw, q8⟩ => thnF (kf.run _ s8 σ8 H8 _ J8 q8) fun b s9 ⟨H9, J9, q9⟩ => ?_
    -- behind a turn
    have next : ∀ {s' : Shared} {H' : Hp}, Inv (X.blk s3 H3 scope ce fp) ([] ++ pinsAt fp s7.heap) σ8 H' s' → Nx H' → ∃ m, m < n ∧ ∃ i H', Inv (X.blk s3 H3 scope ce fp) [] (wipe σ (own.map (·.2))) H' s' ∧ tn i s'.heap ∧ (∀ b ∈ fp, H' b = none) ∧ W i m H' := fun {s' H'} J' nx => by
      obtain ⟨m', lt, w'⟩ := less H' nx
      have stay : ∀ b ∈ fp, ∀ o, s7.heap.get? b = some o → s'.heap.get? b = some o ∧ H' b = none := fun b hb o e =>
        let z := J'.pin (b, o) (List.mem_append_right _ (List.mem_append_right _ (mem_pinsAt hb e)))
        ⟨z.1, z.2.1⟩
      refine ⟨m', lt, i + 1, H', (J'.unpinned (pins := [])).weak (by rw [← hw, wipe_length]) (fun j v e => ?_), T.keep _ _ _ t7 fun b hb o e => (stay b hb o e).1, fun b hb => ?_, w'⟩
      · rw [← hw] at e
        exact (wipe_some e).1
      · obtain ⟨o, e, _⟩ := T.obj _ _ t7 b hb
        exact (stay b hb o e).2
    cases b with
    | false => exact next J9 q9
    | true =>
      refine thnF (kk.run _ s9 σ8 H9 _ J9 q9) fun ku s10 ⟨y, H10, J10, r10, q10⟩ => thnF (kv.run _ s10 σ8 H10 _ J10 q10) fun vu s11 ⟨z, H11, J11, r11, a, kvs, k, ey, g11, k11, l11, nx⟩ => ?_
      subst ey
      exact nd_store (X := X.blk s3 H3 scope ce fp) hu J11 g11 k11 l11 r10 r11 fun s12 H12 J12 g12 st12 => next J12 (nx H12 g12 st12)
section
variable {kx vx tg iter : Expr} {ifs : List Expr} {scope : Scope} {own : List (Str × Nat)} {pos spos : Pos} {wi : TI} {g : TG} {tt : TT} {tk tv : TE} {P : Program} {w : World} {K : PySem.W.Frag} {kr : Nat}
theorem pe_dn (eP : X.prog = P) (ew : X.w = w) (eK : X.K = K) (hr : Room kr X.A) (hc : X.calm = true) (hN : X.N.Nodup) (hi : PI X tg iter wi)
    (ok : BlkOk X.N X.env.scope scope own) (hg : ∀ (s : Shared) (H : Hp) (C : Addr) (cl : List (Str × Addr)) (fp : List Addr), PG (X.blk s H scope (compEnvC scope cl C X.env) fp) tg g) (ht : ∀ (s : Shared) (H : Hp) (C : Addr) (cl : List (Str × Addr)) (fp : List Addr), PTs (X.blk s H scope (compEnvC scope cl C X.env) fp) ifs tt)
    (hk : ∀ (s : Shared) (H : Hp) (C : Addr) (cl : List (Str × Addr)) (fp : List Addr), PE (X.blk s H scope (compEnvC scope cl C X.env) fp) kx tk)
    (hv : ∀ (s : Shared) (H : Hp) (C : Addr) (cl : List (Str × Addr)) (fp : List Addr), PE (X.blk s H scope (compEnvC scope cl C X.env) fp) vx tv) (fold : ∀ x, foldedSetIterable iter X.env x = pure x := by intro _; rfl) :
    PE X (.DictComp kx vx [⟨tg, iter, ifs, 0⟩] scope pos) (tDn P w K wi g tt tk tv (own.map (·.2))) := by
  subst eP ew eK
  refine ⟨fun pins s σ H Q I hq => ?_⟩
  rw [arm_eval_DictComp]
  exact dn_core (hu9 hr) hc hN I hi ok ⟨hg, ht, hk, hv⟩ fold hq fun D C s' m H' I' q hn f => ⟨m, hn, fun h'' sb => ⟨.ref D, H', I'.turned (t' := s'.toks) (fun b o hb e => (sb.2 b hb).trans e) f.1 f.2.1 f.2.2.2.1 f.2.2.2.2.1 f.2.2.2.2.2, rfl, q⟩⟩
/-- kept under a name -/
theorem ps_setDn {i : Nat} {y : Str} {py : Pos} (eP : X.prog = P) (ew : X.w = w) (eK : X.K = K) (hr : Room kr X.A) (hc : X.calm = true) (hN : X.N.Nodup) (hy : X.N[i]? = some y) (hyl : X.env.scope.names.lookup y = some .local)
    (hsw : swapsWith (.DictComp kx vx [⟨tg, iter, ifs, 0⟩] scope pos) (some (.Name y py)) spos.line X.env = pure true) (hi : PI X tg iter wi)
    (ok : BlkOk X.N X.env.scope scope own) (hg : ∀ (s : Shared) (H : Hp) (C : Addr) (cl : List (Str × Addr)) (fp : List Addr), PG (X.blk s H scope (compEnvC scope cl C X.env) fp) tg g) (ht : ∀ (s : Shared) (H : Hp) (C : Addr) (cl : List (Str × Addr)) (fp : List Addr), PTs (X.blk s H scope (compEnvC scope cl C X.env) fp) ifs tt)
    (hk : ∀ (s : Shared) (H : Hp) (C : Addr) (cl : List (Str × Addr)) (fp : List Addr), PE (X.blk s H scope (compEnvC scope cl C X.env) fp) kx tk)
    (hv : ∀ (s : Shared) (H : Hp) (C : Addr) (cl : List (Str × Addr)) (fp : List Addr), PE (X.blk s H scope (compEnvC scope cl C X.env) fp) vx tv) (fold : ∀ x, foldedSetIterable iter X.env x = pure x := by intro _; rfl) :
    PS X (.Assign [.Name y py] (.DictComp kx vx [⟨tg, iter, ifs, 0⟩] scope pos) spos) (tAsg (tDn P w K wi g tt tk tv (own.map (·.2))) (gName i)) := by
  subst eP ew eK
  refine ⟨fun pins s σ H D I hq => ?_⟩
  rw [exec_Assign_Name_used _ _ _ _ hsw]
  have hq : tDn X.prog X.w X.K wi g tt tk tv (own.map (·.2)) σ H (fun x H1 => gName i x σ H1 D.nx) := hq
  refine wpAny_bind (wpAny_standAt (wpAny_bind (wpAny_bind (thn (dn_core (use := some (assign (.Name y py) X.env)) (Qf := fun _ s' => SP X pins D .next s') (hu9 hr) hc hN I hi ok ⟨hg, ht, hk, hv⟩ fold hq fun N C s' m H' I' q hn f => ?_) fun _ s' z => wpAny_pure (wpAny_pure z)))))
  refine wpAny_assign_Name (store_ok2 (v := V.ref N) I' hN hy (.inl hyl) rfl (fun s2 I2 ⟨a, sb, ha⟩ => ?_) (.inr hyl))
  have away : C ≠ a := ha.elim (fun z => by rw [z]; exact f.2.1) fun z e => f.2.2.2.2.1 y a z e.symm
  exact ⟨m, hn.sameBut sb away, fun h3 sb3 => ⟨_, H', I2.turned (t' := s2.toks) (fun b o hb e => (sb3.2 b hb).trans e) f.1 f.2.1 f.2.2.2.1 f.2.2.2.2.1 f.2.2.2.2.2, q⟩⟩
theorem sw_dict {gs : List Comprehension} {py : Pos} {y : Str} {l : Nat} {env : Env} (hk : env.scope.kind = .function) (hy : env.scope.names.lookup y = some .local) (hl : (py.line == pos.line) = true)
    (ha : (scope.names.any fun (n, k) => n == y && (k == .local || k == .cell)) = false) : swapsWith (.DictComp kx vx gs scope pos) (some (.Name y py)) l env = pure true := by
  have ky : env.kindOf y = some .local := hy
  have hb : env.blockKind = .function := by unfold Env.blockKind; rw [hk]; rfl
  simp only [swapsWith, hb, ky, ha, Expr.pos, hl]
  rfl
end
end
section
variable {P : Program} {w : World} {K : PySem.W.Frag} {σ : L2.St} {H : Hp} {Q : VK} {wi : TI} {g : TG} {tt : TT} {tk tv : TE} {vs : List Nat}
theorem i_Dn (q : wi σ H fun J H1 => ∀ D H2, H1 D = none → ND P w K H2 D [] → Stp [] H1 H2 → ∃ W : Nat → Nat → Hp → Prop, (∃ m, W 0 m H2) ∧ ∀ i m H, W i m H →
  (J.stop i H ∧ Q (.ref D) H) ∨ (J.go i H ∧ ∃ Nx : Hp → Prop, (∀ H', Nx H' → ∃ m', m' < m ∧ W (i + 1) m' H') ∧ ∀ x H', J.yld i H x H' → g x (wipe σ vs) H' fun σ2 H2 => wipe σ2 vs = wipe σ vs ∧ tt σ2 H2 fun b H3 =>
    if b = true then tk σ2 H3 fun y H4 => tv σ2 H4 fun z H5 => ∃ a kvs k, y = .ref a ∧ ND P w K H5 D kvs ∧ KyAt K H5 (.ref a) k ∧ kvs.length < sizeLine ∧ ∀ H6, ND P w K H6 D (putK kvs k z) → Stp [D] H5 H6 → Nx H6 else Nx H3)) : tDn P w K wi g tt tk tv vs σ H Q := q
/-- over a list that stays -/
theorem dn_list {a : Addr} {xs : List V} {H2 : Hp} {D : Addr} {Qd : Hp → Prop} (Pv : Nat → Hp → Prop) (h0 : Pv 0 H2) (hl : ∀ i H, i ≤ xs.length → Pv i H → SqL K H a xs)
    (hs : ∀ i x H, xs[i]? = some x → Pv i H → g x (wipe σ vs) H fun σ2 H2 => wipe σ2 vs = wipe σ vs ∧ tt σ2 H2 fun b H3 =>
      if b = true then tk σ2 H3 fun y H4 => tv σ2 H4 fun z H5 => ∃ a kvs k, y = .ref a ∧ ND P w K H5 D kvs ∧ KyAt K H5 (.ref a) k ∧ kvs.length < sizeLine ∧ ∀ H6, ND P w K H6 D (putK kvs k z) → Stp [D] H5 H6 → Pv (i + 1) H6 else Pv (i + 1) H3) (hd : ∀ H, Pv xs.length H → Qd H) :
    ∃ W : Nat → Nat → Hp → Prop, (∃ m, W 0 m H2) ∧ ∀ i m H, W i m H →
      ((Itl K a).stop i H ∧ Qd H) ∨ ((Itl K a).go i H ∧ ∃ Nx : Hp → Prop, (∀ H', Nx H' → ∃ m', m' < m ∧ W (i + 1) m' H') ∧ ∀ x H', (Itl K a).yld i H x H' → g x (wipe σ vs) H' fun σ2 H2 => wipe σ2 vs = wipe σ vs ∧ tt σ2 H2 fun b H3 =>
        if b = true then tk σ2 H3 fun y H4 => tv σ2 H4 fun z H5 => ∃ a kvs k, y = .ref a ∧ ND P w K H5 D kvs ∧ KyAt K H5 (.ref a) k ∧ kvs.length < sizeLine ∧ ∀ H6, ND P w K H6 D (putK kvs k z) → Stp [D] H5 H6 → Nx H6 else Nx H3) := by
  refine ⟨fun i m H => m + i = xs.length ∧ Pv i H, ⟨xs.length, rfl, h0⟩, fun i m H ⟨em, p⟩ => ?_⟩
  have sq := hl i H (by omega) p
  match m, em with
  | 0, em =>
    have e : i = xs.length := by omega
    subst e
    exact .inl ⟨⟨xs, sq, Nat.le_refl _⟩, hd H p⟩
  | m + 1, em =>
    have lt : i < xs.length := by omega
    refine .inr ⟨⟨xs, xs[i], sq, List.getElem?_eq_getElem lt⟩, Pv (i + 1), fun H' p' => ⟨m, Nat.lt_succ_self m, by omega, p'⟩, fun x H' ⟨e, y⟩ => ?_⟩
    subst e
    exact hs i x _ (y xs sq) p
end
end GT

/-! ## sorted(d, key=lambda x: (x[0], x[1], x[2])) -/
namespace GT
open PySem PySem.Spec PyProof.Rows L2 LamX PySem.W
def key3 : Dt → PyData
  | .tup (a :: b :: c :: _) => .tuple [a.py, b.py, c.py]
  | _ => .none
def Has3 (d : Dt) : Prop := ∃ a b c r, d = .tup (a :: b :: c :: r)
theorem key3_depth {d : Dt} (h : Has3 d) (n : d.depth ≤ 8) : (key3 d).depth ≤ 9 := by
  obtain ⟨a, b, c, r, rfl⟩ := h
  have n1 := Dt.py_depth a
  have n2 := Dt.py_depth b
  have n3 := Dt.py_depth c
  simp only [Dt.depth, Dt.depthAll] at n
  simp only [key3, PyData.depth, PyData.depthAll]
  omega
theorem nd_key_at {K : PySem.W.Frag} {H : Hp} {xs : List (NestedKey × Addr × V)} {ds : List Dt} (ks : KeysAt K H xs) (e : xs.map (·.1) = ds.map Dt.key) (f : Dt.flatAll ds = true) {i : Nat} {x : NestedKey × Addr × V} {d : Dt} (hx : xs[i]? = some x) (hd : ds[i]? = some d) : DtAt K H (.ref x.2.1) d := by
  obtain ⟨d', f', k', _, h'⟩ := ks x (List.mem_of_getElem? hx)
  have h1 : (xs.map (·.1))[i]? = some x.1 := by rw [List.getElem?_map, hx]; rfl
  rw [e, List.getElem?_map, hd] at h1
  have h2 : d.key = x.1 := Option.some.inj h1
  rw [← Dt.key_inj d' d f' (Dt.flat_mem f (List.mem_of_getElem? hd)) (k'.trans h2.symm)]
  exact h'
abbrev bod3 (x : Str) (p0 p1 p2 q0 q1 q2 r0 r1 r2 pos : Pos) (d0 d1 d2 kd : Nat) : Expr := .Tuple [.Subscript (.Name x p0) (.Constant (.int (0 : Int)) d0 q0) r0, .Subscript (.Name x p1) (.Constant (.int (1 : Int)) d1 q1) r1, .Subscript (.Name x p2) (.Constant (.int (2 : Int)) d2 q2) r2] kd pos
section
variable {prog : Program} {w : World} {A : Around} {s : Shared} {x q : Str} {params : Arguments} {scope : Scope} {p0 p1 p2 q0 q1 q2 r0 r1 r2 pos : Pos} {d0 d1 d2 kd : Nat} {f c' : Addr} {pm ctv : Value}
/-- one call of the lambda: it tells the key of a datum -/
theorem key3_turn {v : Value} {b : Dt} (hf : s.heap.get? f = some (kla_obj "<lambda>" q params (bod3 x p0 p1 p2 q0 q1 q2 r0 r1 r2 pos d0 d1 d2 kd) scope [] pm c' ctv)) (rc : s.heap.CodeRec (.ref c') q) (nl : s.heap.NoLimit) (room : A.depth < recursionLimit)
    (hbind : ∀ (pm cv ctv v : Value), bindArgs (kla_fn "<lambda>" q params (bod3 x p0 p1 p2 q0 q1 q2 r0 r1 r2 pos d0 d1 d2 kd) scope [] pm cv ctv) ⟨[v], []⟩ = pure [(x, v)])
    (hk : scope.kind = .function) (co : scope.isCoroutine = false) (gen : scope.isGenerator = false) (hcl : ∀ y ∈ scope.names, y.2 ≠ .cell) (hx : scope.names.lookup x = some .local) (hd : (x == ("__debug__" : Str)) = false)
    (h3 : Has3 b) (hbf : b.flat = true) (hdi : DtIs s.heap b v) : wpAny (model prog w) A (call (.ref f) [v]) (KeyPure (key3 b) s) (fun _ _ => False) s := by
  obtain ⟨a1, b1, c1, r1, rfl⟩ := h3
  cases hdi with
  | @tup t its _ ht hall =>
    simp only [Dt.flat, Dt.flatAll, Bool.and_eq_true] at hbf
    obtain ⟨l⟩ := its
    cases hall with
    | @cons _ v0 _ _ g0 hall =>
      cases hall with
      | @cons _ v1 _ _ g1 hall =>
        cases hall with
        | @cons _ v2 _ lr g2 hall =>
          obtain ⟨ot, e1, e2, n2, e4⟩ := ht
          have htup : IsTup s.heap t (Array.mk (v0 :: v1 :: v2 :: lr)) := ⟨ot, e1, e2, n2, e4⟩
          refine wpAny_mono (lam_key3 (x := x) (items := Array.mk (v0 :: v1 :: v2 :: lr)) (v0 := v0) (v1 := v1) (v2 := v2) hf rc nl room (hbind _ _ _ _) hk co gen hcl hx hd htup rfl rfl rfl) (fun u s2 hu => ?_) fun _ _ z => z.elim
          obtain ⟨h2, tk2, b2, rfl, kp2, rfl, hb2⟩ := hu
          exact ⟨h2, tk2, rfl, kp2, .tuple (as := []) hb2 rfl rfl (.cons (as := []) (bs := []) (PyProof.Rows.Reads.keeps kp2 (DtIs.reads a1 v0 hbf.1 g0)) (.cons (as := []) (bs := []) (PyProof.Rows.Reads.keeps kp2 (DtIs.reads b1 v1 hbf.2.1 g1)) (.cons (as := []) (bs := []) (PyProof.Rows.Reads.keeps kp2 (DtIs.reads c1 v2 hbf.2.2.1 g2)) .nil)))⟩
end
section
variable {X : Cx} {x q : Str} {params : Arguments} {scope : Scope} {p0 p1 p2 q0 q1 q2 r0 r1 r2 pos : Pos} {d0 d1 d2 kd : Nat}
def rSortL (P : Program) (w : World) (K : PySem.W.Frag) (q : Str) (params : Arguments) (body : Expr) (scope : Scope) : List V → List V → Hp → VK → Prop := fun vs zs H Q => ∃ (d f c' : Addr) (pm ctv : Value) (kvs : List NKV) (ds : List Dt), vs = [.ref d] ∧ zs = [.ref f] ∧ H f = some (LamO f (kla_obj "<lambda>" q params body scope [] pm c' ctv)) ∧ H c' = some (CodeO c' q) ∧
  ND P w K H d kvs ∧ kvs.map (·.1) = ds.map Dt.key ∧ Dt.flatAll ds = true ∧ Dt.depthAll ds ≤ 8 ∧ (∀ x ∈ ds, Has3 x) ∧ AllAlike (ds.map key3) ∧ Sortable (ds.map key3) ∧
  ∀ (p : Addr) (ys : List V), H p = none → DtsAt K H ys (ds.mergeSort (dataLe false key3)) → Q (.ref p) (upd H p (.lst ys))
theorem cr_sortL {k : Nat} (hc : X.calm = true) (hr : Room (k + 2) X.A)
    (hbind : ∀ (pm cv ctv v : Value), bindArgs (kla_fn "<lambda>" q params (bod3 x p0 p1 p2 q0 q1 q2 r0 r1 r2 pos d0 d1 d2 kd) scope [] pm cv ctv) ⟨[v], []⟩ = pure [(x, v)])
    (hk : scope.kind = .function) (co : scope.isCoroutine = false) (gen : scope.isGenerator = false) (hcl : ∀ y ∈ scope.names, y.2 ≠ .cell) (hx : scope.names.lookup x = some .local) (hd : (x == ("__debug__" : Str)) = false) :
    CallRK X (.builtin "sorted") [Str.ofString "key"] (rSortL X.prog X.w X.K q params (bod3 x p0 p1 p2 q0 q1 q2 r0 r1 r2 pos d0 d1 d2 kd) scope) := by
  intro pins s σ H vs zs us ws Q I r rz h
  obtain ⟨d, f, c', pm, ctv, kvs, ds, rfl, rfl, hf, hco, ⟨xs, e, ks, rfl⟩, hkeys, hfl, hdp, h3, hal, hsk, qq⟩ := h
  obtain rfl := Vals.ref1 r
  obtain rfl := Vals.ref1 rz
  have hun := hr.units
  have hkeys' : xs.map (·.1) = ds.map Dt.key := by rw [← hkeys]; unfold plainX; rw [List.map_map]; rfl
  obtain ⟨hz, lo, ys, rel, o, es, ep, ho, hex, hdat, hen, his, hnd⟩ := nd_raw I (.inl e) ks
  have l1 : es.size = ys.length := size_of_entries hen
  have l2 : xs.length = ys.length := Paired.length rel
  have l3 : xs.length = ds.length := by have := congrArg List.length hkeys'; simpa using this
  have hfob : s.heap.get? f = some (kla_obj "<lambda>" q params (bod3 x p0 p1 p2 q0 q1 q2 r0 r1 r2 pos d0 d1 d2 kd) scope [] pm c' ctv) := (I.hok f _ hf).1
  obtain ⟨oc, vc, tc, hoc, hdc, hvc⟩ : ∃ (oc : Obj) (vs : Array Value) (t : Tok), s.heap.get? c' = some oc ∧ oc.data = .fields vs ∧ vs[1]? = some (.str q t) := (I.hok c' _ hco).1
  have g1 : ∀ (i : Nat) (b : Dt) (hi : i < es.size), ds[i]? = some b → ∃ y, RelV y es[i].key ∧ DtAt X.K H y b := fun i b hi hb => by
    have hi2 : i < xs.length := by omega
    obtain ⟨y, hy, e1, e2, e3⟩ := paired_get rel (List.getElem?_eq_getElem hi2)
    have q1 := entry_at hen i
    rw [hy, Array.getElem?_eq_getElem hi] at q1
    have q2 : es[i] = entryOfKey (nestedKind X.prog X.w) y := Option.some.inj q1
    refine ⟨.ref xs[i].2.1, ?_, nd_key_at ks hkeys' hfl (List.getElem?_eq_getElem hi2) hb⟩
    rw [q2]
    show Value.ref y.2.1 = Value.ref xs[i].2.1
    rw [e2]
  have g2 : ∀ b, b ∈ ds → X.A.units + 2 + (key3 b).depth < cLine := fun b hb => by
    have h1 := key3_depth (h3 b hb) (Nat.le_trans (Dt.depth_mem hb) hdp)
    omega
  have g3 : ∀ (v : Value) (b : Dt), (∃ y, RelV y v ∧ DtAt X.K H y b) → b ∈ ds → ∀ (h : Heap) (tk : Nat), (∀ b o, s.heap.get? b = some o → h.get? b = some o) →
      wpAny (model X.prog X.w) X.A.in1.in1 (call (.ref f) [v]) (KeyPure (key3 b) { s with heap := h, toks := tk }) (fun _ _ => False) { s with heap := h, toks := tk } := fun v b ⟨y, ry, hy⟩ hb h tk kp => by
    have hdi := DtAt.is (s := { s with heap := h, toks := tk }) (I.kept kp) b y v hy ry
    exact key3_turn (s := { s with heap := h, toks := tk }) (kp _ _ hfob) ⟨c', oc, vc, tc, rfl, kp _ _ hoc, hdc, hvc⟩ (I.nolimit.keeps kp) hr.in1.in1.depth hbind hk co gen hcl hx hd (h3 b hb) (Dt.flat_mem hfl hb) hdi
  refine raw_sorted_dict (R := fun (u : Value) (b : Dt) => ∃ y, RelV y u ∧ DtAt X.K H y b) key3 lo ⟨o, ho, hex, hdat⟩ (I.ok.hd hc) (by omega) (by omega) g1 hal hsk g2 g3 fun out c h1 h' tk a hk1 hk2 hle hD hlen hR => ?_
  obtain ⟨yv, vy, dy⟩ := each_dts hR
  have hl9 : yv.length ≤ sizeLine := by
    have h7 := vy.length
    omega
  have I1 : Inv X pins σ H { s with heap := h1, toks := tk } := I.kept hk1
  exact ⟨.ref a, upd H a (.lst yv), I1.laid (t' := tk) hk2 hle ⟨hl9, out, c, vy, hD⟩, rfl, qq a yv (I1.hok.fresh hle) dy⟩
end
end GT

/-! ## the call sorted(d, key=lambda x: (x[0], x[1], x[2])) -/
namespace GT
open PySem PySem.Spec PyProof.Rows L2 LamX PySem.W
/-- a def whose code object is told -/
theorem FunD.okC {P : Program} {w : World} {K : PySem.W.Frag} {mg : Str → Option Value} {base : Heap} {x qual : Str} {params : Arguments} {body : List Stmt} {scope : Scope} {dvs : List V} {kws : List (Str × V)} {f : Addr} {fd : FuncData} {CX : CXT} {N ps : List Str} {k : Nat} {sp : Sp} {c : Addr}
    (F : FunD K x qual params body scope dvs kws f fd) (ec : fd.code = .ref c) (S : FnScope N ps scope) (len : ∀ vs H Q E, sp vs H Q E → vs.length = ps.length)
    (hbody : ∀ (A : Around) (outer : List Env) (s : Shared) (H : Hp) (vs : List V) (Q : VK) (E : XK), Room k (A.deeper (envOfC qual scope s.heap.objs.size f (.ref c))) → sp vs H Q E →
      ∃ t, PSs (cxOf CX P w K mg base N qual scope f (.ref c) A outer s H E) body t ∧ t { nx := fun _ H' => Q .non H', rt := Q } (start N vs) H) : FnOk P w K mg base CX (k + 1) f fd ps sp := by
  obtain ⟨_, _, _, _, _, _, _, cdv, _, _, rfl, lk, hcd, _, _⟩ := F.ex
  obtain rfl : cdv = .ref c := ec
  exact fn_of lk hcd S len fun A outer s H vs Q E hr hsp => hbody A outer s H vs Q E hr hsp
/-- .. found by the head -/
theorem code_told {K : PySem.W.Frag} {d : He.DefD} {fd : FuncData} {dvs : List V} {kws : List (Str × V)} (F : FunD K d.name d.qual d.params d.body d.scope dvs kws (He.fAd K d.at_) fd) : fd.code = .ref (He.codeOf K d.at_) := by
  obtain ⟨_, _, _, _, _, _, _, cdv, _, _, rfl, lk, hcd, _, _⟩ := F.ex
  obtain ⟨c, rfl⟩ := He.codeIn_ref hcd
  rw [He.codeOf_eq lk rfl] <;> rfl
theorem flat_all : ∀ {ds : List Dt}, (∀ z ∈ ds, z.flat = true) → Dt.flatAll ds = true
  | [], _ => rfl
  | d :: ds, h => by rw [Dt.flatAll, h d List.mem_cons_self, flat_all fun z hz => h z (List.mem_cons_of_mem _ hz)]; rfl
def tSortL (P : Program) (w : World) (K : PySem.W.Frag) (T : Addr) (q : Str) (td : TE) : TE := fun σ H Q => td σ H fun x H1 => ∃ L, Tab H1 T q L ∧ ∃ (d : Addr) (kvs : List NKV) (ds : List Dt), x = .ref d ∧ ND P w K H1 d kvs ∧ kvs.map (·.1) = ds.map Dt.key ∧ Dt.flatAll ds = true ∧ Dt.depthAll ds ≤ 8 ∧ (∀ x ∈ ds, Has3 x) ∧ AllAlike (ds.map key3) ∧ Sortable (ds.map key3) ∧
  ∀ (p : Addr) (ys : List V) (H2 : Hp) (L2 : List Addr), Tab H2 T q L2 → (∀ c ∈ L2, c ∈ L ∨ H1 c = none) → Stp [T] H1 H2 → H1 p = none → H2 p = some (.lst ys) → DtsAt K H2 ys (ds.mergeSort (dataLe false key3)) → Q (.ref p) H2
theorem pe_sortL {X : Cx} {P : Program} {w : World} {K : PySem.W.Frag} {c T : Addr} {k : Nat} {x y : Str} {params : Arguments} {scope : Scope} {p0 p1 p2 q0 q1 q2 r0 r1 r2 bpos py pf kpos lpos pos : Pos} {d0 d1 d2 kd i : Nat} (eP : X.prog = P) (ew : X.w = w) (eK : X.K = K) (hr : Room (k + 2) X.A) (hc : X.calm = true) (TB : TabB X.base X.mg c T) (hcode : X.env.code = .ref c)
    (hg : Gl X "sorted") (hm : X.mg "sorted" = none) (he : PE X (.Name y py) (tVar i))
    (hdef : defaultsOf params X.env = ([], []) := by rfl) (hfree : ∀ y ∈ scope.names, y.2 ≠ .free := by decide +kernel) (hclo : cloFrom X.env.cells scope.names [] = [] := by rfl)
    (hbind : ∀ (q : Str) (pm cv ctv v : Value), bindArgs (kla_fn "<lambda>" q params (bod3 x p0 p1 p2 q0 q1 q2 r0 r1 r2 bpos d0 d1 d2 kd) scope [] pm cv ctv) ⟨[v], []⟩ = pure [(x, v)] := by intro _ _ _ _ _; rfl)
    (hk : scope.kind = .function := by rfl) (co : scope.isCoroutine = false := by rfl) (gen : scope.isGenerator = false := by rfl) (hcl : ∀ y ∈ scope.names, y.2 ≠ .cell := by decide +kernel) (hx : scope.names.lookup x = some .local := by decide +kernel) (hd : (x == ("__debug__" : Str)) = false := by decide +kernel) :
    PE X (.Call (.Name "sorted" pf) [.Name y py] [⟨some "key", .Lambda params (bod3 x p0 p1 p2 q0 q1 q2 r0 r1 r2 bpos d0 d1 d2 kd) scope lpos, kpos⟩] pos) (tSortL P w K T (X.env.qual ++ "<lambda>") (tVar i)) := by
  subst eP ew eK
  have all := pe_callBK (p := pf) (pos := pos) (kws := [⟨some "key", .Lambda params (bod3 x p0 p1 p2 q0 q1 q2 r0 r1 r2 bpos d0 d1 d2 kd) scope lpos, kpos⟩]) (cr_sortL (X := X) (q := X.env.qual ++ "<lambda>") (params := params) hc hr (hbind _) hk co gen hcl hx hd) hg hm (by decide +kernel) (pa_cons he pa_nil) (pk_cons (pe_lam TB hcode hdef hfree) pk_nil)
  rw [hclo] at all
  refine ⟨fun pins s σ H Q I h => all.run pins s σ H Q I ?_⟩
  obtain ⟨v, hv, L, hT, d, kvs, ds, rfl, nd, h1, h2, h3, h4, h5, h6, h7⟩ := h
  refine ⟨.ref d, hv, L, hT, fun f c' pm ctv H1 L1 t1 fresh st co1 nf hf => ?_⟩
  obtain ⟨ps, hP⟩ := hT.there
  have dT : d ∉ [T] := by
    obtain ⟨xs, e, _⟩ := nd
    simp only [List.mem_singleton]
    rintro rfl
    rw [hP] at e
    cases e
  refine ⟨d, f, c', pm, ctv, kvs, ds, rfl, rfl, hf, co1, nd.stp st dT, h1, h2, h3, h4, h5, h6, fun p ys np dy => ?_⟩
  have s2 : Stp [] H1 (upd H1 p (.lst ys)) := .new np
  have fl : Dt.flatAll (ds.mergeSort (dataLe false key3)) = true := flat_all fun z hz => Dt.flat_mem h2 ((List.mergeSort_perm _ _).mem_iff.mp hz)
  refine h7 p ys _ L1 (t1.grow s2) fresh (st.trans (s2.mono (by simp))) (st.free np fun z => ?_) upd_same (dy.stp s2 _ _ fl)
  obtain ⟨qs, e⟩ := t1.there
  rw [List.mem_singleton.mp z, e] at np
  cases np
end GT

/-! ## sorted(d): the keys of a dict in order -/
namespace GT
open PySem PySem.Spec PySem.Calls PyProof.Rows L2 PySem.W
section
variable {prog : Program} {w : World} {A : Around} {E : Value → Shared → Prop} {s : Shared} {β : Type} {bs : List β} {R : Value → β → Prop}
theorem raw_sorted_keys {d : Addr} {es : Array DictEntry} {ep : Nat} {Q : Value → Shared → Prop} (enc : β → PyData) (lo : (d == sysModules) = false) (hm : s.heap.DictRaw d es ep) (hh : A.handled = none) (hn : es.size ≤ sizeLine) (hes : es.size = bs.length)
    (hit : ∀ (i : Nat) (b : β) (hi : i < es.size), bs[i]? = some b → R es[i].key b) (er : ∀ (v : Value) (b : β), R v b → b ∈ bs → Reads s.heap v (enc b) []) (hal : AllAlike (bs.map enc)) (hk : Sortable (bs.map enc)) (hu : ∀ x, x ∈ bs → A.units + 2 + (enc x).depth < cLine)
    (h : ∀ (out : List Value) (c : Nat) (h1 h' : Heap) (tk : Nat) (a : Addr), (∀ b o, s.heap.get? b = some o → h1.get? b = some o) → (∀ b o, h1.get? b = some o → h'.get? b = some o) → h1.objs.size ≤ a → h'.get? a = some (seqObj "list" (List.toArray out) c) → out.length = bs.length → EachIs R out (bs.mergeSort (dataLe false enc)) →
      Q (.ref a) { s with heap := h', toks := tk }) :
    wpAny (model prog w) A (call (.builtin "sorted") [.ref d]) Q E s := by
  refine call_function_entry kind_sorted plain_sorted entry_sorted (args_sorted1 _) ?_
  unfold Builtin.«sorted»
  refine wpAny_bind (m := checkCount "sorted" 1 1 _) (wpAny_pure ?_)
  refine wpAny_bind (kdu_collect (A := A.in1) (KdlSrc.rawDict lo) hh hm hn fun h1 tk1 acc hk1 hacc => ?_)
  have he : EachIs R acc.toList bs := each_of_items (P := fun i v => ∃ hi : i < es.size, v = es[i].key) ⟨hacc.1.trans hes, hacc.2⟩ fun i v b ⟨hi, e⟩ hb => by rw [e]; exact hit i b hi hb
  have hl : acc.toList.length = bs.length := he.length
  have hz : acc.toList.length ≤ sizeLine := by rw [hl, ← hes]; exact hn
  refine wpAny_bind (wpAny_newList ?_ hz)
  have ho : (h1.push { cls := .type "list", data := .seq acc.toList.toArray }).get? h1.objs.size = some (seqObj "list" acc.toList.toArray 0) := Heap.get?_push_size _ rfl
  generalize hH2 : h1.push { cls := .type "list", data := .seq acc.toList.toArray } = h2 at ho
  have k2 : ∀ b o, h1.get? b = some o → b ≠ h1.objs.size ∧ b < h2.objs.size ∧ h2.get? b = some o := fun b o q => by
    have l := Heap.lt_size q
    have g : h2.get? b = some o := by rw [← hH2]; exact Heap.get?_push_of_some _ q
    exact ⟨Nat.ne_of_lt l, Heap.lt_size g, g⟩
  have rd : EachIs (fun v b => ∃ as, Reads (sortingHeap h2 h1.objs.size acc.toList) v (enc b) as) acc.toList bs := (each_mem he).mono fun v b ⟨hR, hb⟩ => ⟨[], PyProof.Rows.Reads.keeps (fun b o e => let z := k2 b o (hk1 b o e); sortingHeap_old z.1 z.2.2) (er v b hR hb)⟩
  refine wpAny_bind (wpAny_holding (wpAny_call_entry slot_list_sort ⟨_, ho, rfl⟩ entry_list_sort ?body (args_list_sort _)))
  case body =>
    refine list_sort_vals (κ := dataKind (sortingHeap h2 h1.objs.size acc.toList) (bs.map enc)) (s := { s with heap := h2, toks := tk1 }) ho (SortsAt.data (s := { s with heap := sortingHeap h2 h1.objs.size acc.toList, toks := tk1 }) (each_map (R := fun v d => ∃ as, Reads (sortingHeap h2 h1.objs.size acc.toList) v d as) enc rd) hal hk (bound_map (A := A.in1.in1) hu)) hz ⟨_, rfl, ?_⟩
    obtain ⟨c, hc⟩ := sortedHeap_at (vs := acc.toList) (out := (sortVals (dataKind (sortingHeap h2 h1.objs.size acc.toList) (bs.map enc)) false acc.toList acc.toList).toArray) ho
    exact wpAny_pure ⟨_, rfl, h _ c h1 _ tk1 _ hk1 (fun b o e => (sortedHeap_old (k2 b o e).1 (k2 b o e).2.1).trans (k2 b o e).2.2) (Nat.le_refl _) hc (by rw [sortVals_length false rfl]; exact hl) (sortVals_data false he rd hal)⟩
end
end GT
namespace GT
open PySem PySem.Spec PyProof.Rows L2 PySem.W
section
variable {X : Cx} {P : Program} {w : World} {K : PySem.W.Frag}
/-- sorted(d): d a dict with nested keys, their data ds in the dict's order -/
def rSortK (P : Program) (w : World) (K : PySem.W.Frag) : List V → Hp → VK → Prop := fun vs H Q => ∃ (d : Addr) (kvs : List NKV) (ds : List Dt), vs = [.ref d] ∧ NDR P w K H d kvs ∧ kvs.map (·.1) = ds.map Dt.key ∧ Dt.flatAll ds = true ∧ Dt.depthAll ds ≤ 8 ∧ AllAlike (ds.map Dt.py) ∧ Sortable (ds.map Dt.py) ∧
  ∀ (p : Addr) (ys : List V), H p = none → DtsAt K H ys (ds.mergeSort leD) → Q (.ref p) (upd H p (.lst ys))
theorem cr_sortK (eP : X.prog = P) (ew : X.w = w) (eK : X.K = K) (hc : X.calm = true) (hu : X.A.units + 64 < cLine) : CallR X (.builtin "sorted") (rSortK P w K) := by
  subst eP ew eK
  intro pins s σ H vs us Q I r h
  obtain ⟨d, kvs, ds, rfl, ⟨xs, e, ks, rfl⟩, hkeys, hfl, hdp, hal, hsk, qq⟩ := h
  obtain rfl := Vals.ref1 r
  have hkeys' : xs.map (·.1) = ds.map Dt.key := by rw [← hkeys]; unfold plainX; rw [List.map_map]; rfl
  obtain ⟨hz, lo, ys, rel, o, es, ep, ho, hex, hdat, hen, his, hnd⟩ := nd_raw I e ks
  have l1 : es.size = ys.length := size_of_entries hen
  have l2 : xs.length = ys.length := Paired.length rel
  have l3 : xs.length = ds.length := by have := congrArg List.length hkeys'; simpa using this
  have g1 : ∀ (i : Nat) (b : Dt) (hi : i < es.size), ds[i]? = some b → ∃ y, RelV y es[i].key ∧ DtAt X.K H y b := fun i b hi hb => by
    have hi2 : i < xs.length := by omega
    obtain ⟨y, hy, e1, e2, e3⟩ := paired_get rel (List.getElem?_eq_getElem hi2)
    have q1 := entry_at hen i
    rw [hy, Array.getElem?_eq_getElem hi] at q1
    have q2 : es[i] = entryOfKey (nestedKind X.prog X.w) y := Option.some.inj q1
    refine ⟨.ref xs[i].2.1, ?_, nd_key_at ks hkeys' hfl (List.getElem?_eq_getElem hi2) hb⟩
    rw [q2]
    show Value.ref y.2.1 = Value.ref xs[i].2.1
    rw [e2]
  refine raw_sorted_keys (R := fun (u : Value) (b : Dt) => ∃ y, RelV y u ∧ DtAt X.K H y b) Dt.py lo ⟨o, ho, hex, hdat⟩ (I.ok.hd hc) (by omega) (by omega) g1 (fun v b ⟨y, ry, hy⟩ hb => DtIs.reads b v (Dt.flat_mem hfl hb) (DtAt.is I b y v hy ry)) hal hsk (fun b hb => ?_) fun out c h1 h' tk a hk1 hk2 hle hD hlen hR => ?_
  · have h1 := Dt.depth_mem hb
    have h2 := Dt.py_depth b
    omega
  · obtain ⟨yv, vy, dy⟩ := each_dts hR
    have hl9 : yv.length ≤ sizeLine := by
      have h7 := vy.length
      omega
    have I1 : Inv X pins σ H { s with heap := h1, toks := tk } := I.kept hk1
    exact ⟨.ref a, upd H a (.lst yv), I1.laid (t' := tk) hk2 hle ⟨hl9, out, c, vy, hD⟩, rfl, qq a yv (I1.hok.fresh hle) dy⟩
end
end GT

/-! ## dicts with text keys and data as values; data in order -/
namespace GT
open PySem PySem.Spec PyProof.Rows L2 PySem.W
theorem hu1 {A : Around} {k : Nat} (hr : Room k A) : A.units + 1 < cLine := by have := hr.un; omega
section
variable {σ : L2.St} {H : Hp} {Q : VK} {D : Ends} {R : It → Hp → Prop} {td ty tv : TE}
theorem i_DGet (q : td σ H fun x H1 => ty σ H1 fun y H2 => ∃ a v, x = .ref a ∧ DGet H2 a y (some v) ∧ Q v H2) : tDGet td ty σ H Q := q
theorem i_DIn (q : ty σ H fun y H1 => td σ H1 fun x H2 => ∃ a o, x = .ref a ∧ DGet H2 a y o ∧ Q (.bl o.isSome) H2) : tDIn ty td σ H Q := q
theorem i_DPut (q : tv σ H fun v H1 => td σ H1 fun x H2 => ty σ H2 fun y H3 => ∃ a H4, x = .ref a ∧ DPut H3 a y v H4 ∧ D.nx σ H4) : sDPut td ty tv D σ H := q
theorem i_DNewK (q : ∀ p, H p = none → Q (.ref p) (upd H p (.dK []))) : tDNewK σ H Q := q
theorem i_Keys (q : td σ H fun x H1 => ∃ d o, x = .ref d ∧ ((∃ kvs, H1 d = some (.frz o (.dK kvs)) ∧ R (Itk d o kvs) H1) ∨ ∃ kvs, H1 d = some (.frz o (.dT kvs)) ∧ R (Itkt d o kvs) H1)) : iKeys td σ H R := q
end
/-! ### the dict: texts and what they tell -/
abbrev SD := List (Str × Dt)
abbrev keyS (x : Str) : Key := Sum.inr x
def EntS (K : PySem.W.Frag) (H : Hp) (p : Key × V) (e : Str × Dt) : Prop := p.1 = keyS e.1 ∧ DtAt K H p.2 e.2 ∧ e.2.flat = true
def SdAt (K : PySem.W.Frag) (H : Hp) (d : Addr) (es : SD) : Prop := ∃ kvs, H d = some (.dK kvs) ∧ Paired (EntS K H) kvs es
section
variable {K : PySem.W.Frag} {H H1 : Hp} {M : List Addr} {d : Addr} {es : SD} {kvs : List (Key × V)}
theorem ent_stp (h : Paired (EntS K H) kvs es) (s : Stp M H H1) : Paired (EntS K H1) kvs es := by
  induction h with
  | nil => exact .nil
  | cons x _ ih => exact .cons ⟨x.1, DtAt.stp s _ _ x.2.2 x.2.1, x.2.2⟩ ih
theorem SdAt.stp (h : SdAt K H d es) (s : Stp M H H1) (n : d ∉ M) : SdAt K H1 d es := let ⟨kvs, e, p⟩ := h; ⟨kvs, s.keep _ _ e n, ent_stp p s⟩
theorem ent_keys (h : Paired (EntS K H) kvs es) : kvs.map (·.1) = es.map fun e => keyS e.1 := by
  induction h with
  | nil => rfl
  | cons x _ ih => rw [List.map_cons, List.map_cons, ih, x.1]
theorem ent_len (h : Paired (EntS K H) kvs es) : kvs.length = es.length := by
  have := congrArg List.length (ent_keys h)
  simpa using this
theorem ent_at (h : Paired (EntS K H) kvs es) {i : Nat} {p : Key × V} (e : kvs[i]? = some p) : ∃ r, es[i]? = some r ∧ EntS K H p r := by
  induction h generalizing i with
  | nil => simp at e
  | cons x _ ih =>
    cases i with
    | zero => simp at e; subst e; exact ⟨_, rfl, x⟩
    | succ i => simpa using ih (i := i) (by simpa using e)
theorem ent_none (h : Paired (EntS K H) kvs es) {k : Str} (n : k ∉ es.map (·.1)) : valV kvs (keyS k) = none := by
  induction h with
  | nil => rfl
  | @cons p e ps qs x _ ih =>
    rw [List.map_cons, List.mem_cons, not_or] at n
    rw [valV_neg (fun z => n.1 (by rw [x.1] at z; exact (Sum.inr.inj z).symm))]
    exact ih n.2
theorem ent_val (h : Paired (EntS K H) kvs es) (nd : (es.map (·.1)).Nodup) {i : Nat} {p : Key × V} (e : kvs[i]? = some p) : valV kvs p.1 = some p.2 := by
  refine valV_of ?_ (List.mem_of_getElem? e)
  rw [ent_keys h]
  rw [show (es.map fun e => keyS e.1) = (es.map (·.1)).map keyS by rw [List.map_map]; rfl]
  clear h e
  generalize es.map (·.1) = l at nd
  induction l with
  | nil => exact .nil
  | cons a l ih =>
    rw [List.nodup_cons] at nd
    rw [List.map_cons, List.nodup_cons]
    exact ⟨fun z => nd.1 (by obtain ⟨b, hb, e⟩ := List.mem_map.mp z; cases Sum.inr.inj e; exact hb), ih nd.2⟩
/-- isinstance(d, dict) -/
theorem SdAt.isi {Q : VK} (h : SdAt K H d es) (q : Q (.bl true) H) (e : kitB "dict" "dict" = some true := by decide +kernel) : rIsi K [.ref d, .ty "dict"] H Q := by
  obtain ⟨kvs, hd, _⟩ := h
  exact ⟨.ref d, .ty "dict", _, _, true, rfl, .ty "dict", .base (.dK hd), kit_ty e, q⟩
/-- d[text] = value: a new text -/
theorem sd_put {k : Str} {v : V} {x : Dt} {P : Hp → Prop} (h : SdAt K H d es) (n : k ∉ es.map (·.1)) (l : es.length ≤ 1000) (hv : DtAt K H v x) (f : x.flat = true)
    (q : ∀ H4, SdAt K H4 d (es ++ [(k, x)]) → Stp [d] H H4 → P H4) : ∃ H4, DPut H d (.str k) v H4 ∧ P H4 := by
  obtain ⟨kvs, hd, p⟩ := h
  have pn := ent_none p n
  have pl := ent_len p
  have s : Stp [d] H (upd H d (.dK (putK kvs (keyS k) v))) := .wr (by simp) hd fun _ z => nomatch z
  have s2 := s
  rw [L2.putK_new v pn] at s2
  refine ⟨_, DPut.k (k := keyS k) hd (Nat.lt_of_le_of_lt (show kvs.length ≤ 1000 by omega) (by decide)), q _ ⟨_, upd_same, ?_⟩ s⟩
  rw [L2.putK_new v pn]
  exact Paired.snoc (ent_stp p s2) ⟨rfl, DtAt.stp s2 _ _ f hv, f⟩
end
/-! ### data in order, whatever they are -/
theorem leD_total : PySem.W.TotalLe leD := by
  have h : PySem.W.TotalLe (PySem.W.dataLe false Dt.py) := by
    unfold PySem.W.dataLe
    exact PySem.W.sortLe_total _ _ _
  exact h
theorem dt_perm_map {α : Type} {f : α → Dt} : ∀ {ds : List Dt} {as : List α}, ds.Perm (as.map f) → ∃ bs : List α, bs.Perm as ∧ ds = bs.map f
  | [], as, p => by
    have : as = [] := by
      have := p.length_eq
      cases as with
      | nil => rfl
      | cons _ _ => simp at this
    subst this; exact ⟨[], .refl _, rfl⟩
  | d :: ds, as, p => by
    have hm := p.mem_iff.mp List.mem_cons_self
    obtain ⟨a, ha, ea⟩ := List.mem_map.mp hm
    obtain ⟨l, r, rfl⟩ := List.append_of_mem ha
    have p2 : ds.Perm ((l ++ r).map f) := by
      have q := p.trans (List.perm_middle (a := a) (l₁ := l) (l₂ := r) |>.map f)
      rw [List.map_cons, ea] at q
      exact (List.perm_cons d).mp q
    obtain ⟨bs, pb, eb⟩ := dt_perm_map p2
    exact ⟨a :: bs, (pb.cons a).trans List.perm_middle.symm, by rw [List.map_cons, ea, eb]⟩
/-- sorted: some order of the same, ascending -/
theorem dt_order {α : Type} (f : α → Dt) (as : List α) : ∃ bs : List α, bs.Perm as ∧ (bs.Pairwise fun a b => leD (f a) (f b) = true) ∧ (as.map f).mergeSort leD = bs.map f := by
  have asc := PySem.W.sort_pairwise leD_total (as.map f)
  obtain ⟨bs, pb, eb⟩ := dt_perm_map (List.mergeSort_perm (as.map f) leD)
  rw [eb, List.pairwise_map] at asc
  exact ⟨bs, pb, asc, eb⟩
/-- texts -/
def leT (a b : Str) : Bool := leD (.txt a) (.txt b)
theorem leT_eq (a b : Str) : leT a b = !decide (b.cps.toList < a.cps.toList) := by
  unfold leT leD
  rw [PySem.W.dataLe_eq]
  show (!PySem.W.dataLt (Dt.txt b).py (Dt.txt a).py) = _
  rw [show (Dt.txt b).py = .str b from rfl, show (Dt.txt a).py = .str a from rfl, PySem.W.dataLt_str]
theorem leT_anti {a b : Str} (h1 : leT a b = true) (h2 : leT b a = true) : a = b := by
  rw [leT_eq, Bool.not_eq_true', decide_eq_false_iff_not] at h1 h2
  refine PySem.W.str_of_cps (List.le_antisymm ?_ ?_)
  · exact List.not_lt.mp h1
  · exact List.not_lt.mp h2
/-- the same first part: the second one counts -/
theorem leD_second (d : Dt) (a b : Str) (al : PySem.W.alike d.py d.py = true) (ev : PyData.eqv d.py d.py = true) : leD (.tup [d, .txt a]) (.tup [d, .txt b]) = leT a b := by
  rw [leT_eq]
  unfold leD
  rw [PySem.W.dataLe_eq]
  show (!PySem.W.dataLt (Dt.tup [d, .txt b]).py (Dt.tup [d, .txt a]).py) = _
  rw [show (Dt.tup [d, .txt b]).py = .tuple [d.py, .str b] from rfl, show (Dt.tup [d, .txt a]).py = .tuple [d.py, .str a] from rfl, PySem.W.dataLt_pair al (by simp [PySem.W.alike]), if_pos ev, PySem.W.dataLt_str]
  by_cases e : PyData.eqv (.str b) (.str a) = true
  · rw [if_pos e]
    have e2 : b = a := by simpa [PyData.eqv] using e
    rw [e2]
    simp
  · rw [if_neg e]
/-- a list comprehension over the keys of a dict -/
theorem lc_k {d : Addr} {o : Obj} {kvs : List (Key × V)} {g : TG} {tt : TT} {te : TE} {vs : List Nat} {σ : L2.St} {H1 : Hp} {D : Addr} {Qd : Hp → Prop} (Pv : Nat → Hp → Prop) (h0 : Pv 0 (upd H1 D (.lst []))) (hl : ∀ i H, i ≤ kvs.length → Pv i H → H d = some (.frz o (.dK kvs)))
    (hs : ∀ i p H, kvs[i]? = some p → Pv i H → g (kV p.1) (wipe σ vs) H fun σ2 H2 => wipe σ2 vs = wipe σ vs ∧ tt σ2 H2 fun b H3 =>
      if b = true then te σ2 H3 fun y H4 => ∃ acc, H4 D = some (.lst acc) ∧ acc.length < sizeLine ∧ Pv (i + 1) (upd H4 D (.lst (acc ++ [y]))) else Pv (i + 1) H3) (hd : ∀ H, Pv kvs.length H → Qd H) :
    ∃ W : Nat → Nat → Hp → Prop, (∃ m, W 0 m (upd H1 D (.lst []))) ∧ ∀ i m H, W i m H →
      ((Itk d o kvs).stop i H ∧ Qd H) ∨ ((Itk d o kvs).go i H ∧ ∃ Nx : Hp → Prop, (∀ H', Nx H' → ∃ m', m' < m ∧ W (i + 1) m' H') ∧ ∀ x H', (Itk d o kvs).yld i H x H' → g x (wipe σ vs) H' fun σ2 H2 => wipe σ2 vs = wipe σ vs ∧ tt σ2 H2 fun b H3 =>
        if b = true then te σ2 H3 fun y H4 => ∃ acc, H4 D = some (.lst acc) ∧ acc.length < sizeLine ∧ Nx (upd H4 D (.lst (acc ++ [y]))) else Nx H3) := by
  refine ⟨fun i m H => m = kvs.length - i ∧ i ≤ kvs.length ∧ Pv i H, ⟨kvs.length, by simp, Nat.zero_le _, h0⟩, ?_⟩
  rintro i m H ⟨rfl, hi, p⟩
  have q := hl i H hi p
  by_cases hlt : i < kvs.length
  · refine .inr ⟨⟨q, hlt⟩, Pv (i + 1), fun H' p' => ⟨kvs.length - (i + 1), by omega, rfl, hlt, p'⟩, fun x H' y => ?_⟩
    obtain ⟨e, k, v, hz, rfl⟩ := y
    subst e
    exact hs i (k, v) _ hz p
  · have e : i = kvs.length := by omega
    subst e
    exact .inl ⟨⟨q, Nat.le_refl _⟩, hd H p⟩
/-- len(d) -/
def rLenN (P : Program) (w : World) (K : PySem.W.Frag) : List V → Hp → VK → Prop := fun vs H Q => ∃ (d : Addr) (kvs : List NKV), vs = [.ref d] ∧ NDR P w K H d kvs ∧ Q (.int kvs.length) H
theorem call_lenN {X : Cx} : CallR X (.builtin "len") (rLenN X.prog X.w X.K) := by
  intro pins s σ H vs us Q I r h
  obtain ⟨d, kvs, rfl, ⟨xs, e, ks, rfl⟩, q⟩ := h
  obtain rfl := Vals.ref1 r
  obtain ⟨z, hd, ys, rel, dd⟩ := nd_raw I e ks
  have hl : (plainX xs).length = ys.length := by rw [plainX_len]; exact Paired.length rel
  have hn := line63
  have hz : xs.length = ys.length := Paired.length rel
  refine PySem.call_len_dictH hd dd (by omega) ?_
  exact ⟨.int (plainX xs).length, H, I.tok _, ⟨_, by rw [hl]⟩, q⟩
end GT

/-! ## get with a default, setdefault, index of data, enumerate in a dict comprehension -/
namespace GT
open PySem PySem.Spec PyProof.Rows L2
section
variable {X : Cx} {pins : List (Addr × Obj)} {σ : L2.St} {H : Hp} {s : Shared} {d a : Addr} {k : NestedKey} {kvs : List NKV} {v z : V} {u r : Value} {A : Around} {E : Value → Shared → Prop} {xs : List (NestedKey × Addr × V)}
theorem nd_get2 {Q : Value → Shared → Prop} (hu : A.units + 9 < cLine) (I : Inv X pins σ H s) (g : NDR X.prog X.w X.K H d kvs) (hk : KyAt X.K H (.ref a) k) (rd : RelV z r) (h : ∀ w' s', Inv X pins σ H s' → RelV ((valV kvs k).getD z) w' → Q w' s') :
    wpAny (model X.prog X.w) A (call (.builtin "dict.get") [.ref d, .ref a, r]) Q E s := by
  obtain ⟨xs, e, ks, rfl⟩ := g
  obtain ⟨zz, hd, ys, rel, dd⟩ := nd_raw I e ks
  refine call_meetsIn PySem.F.slot_dict_get dd.typeIs PySem.F.entry_dict_get (PySem.F.args_dict_get_3 _ _ _) (meetsH_dict_get_default (nestedKind X.prog X.w) d a hd r) ⟨nd_room hu, k, ys, hk.is I, dd, h _ _ (I.tok _) ?_⟩
  exact (rel.val k).getD rd
theorem nd_setd {Q : Value → Shared → Prop} (hu : A.units + 9 < cLine) (I : Inv X pins σ H s) (e : H d = some (ndO X.prog X.w d xs)) (ks : KeysAt X.K H xs) (hk : KyAt X.K H (.ref a) k) (hl : xs.length < sizeLine) (rd : RelV z r)
    (h1 : ∀ v w' s', valV (plainX xs) k = some v → Inv X pins σ H s' → RelV v w' → Q w' s') (h2 : ∀ s', valV (plainX xs) k = none → Inv X pins σ (upd H d (ndO X.prog X.w d (putX xs k a z))) s' → Q r s') :
    wpAny (model X.prog X.w) A (call (.builtin "dict.setdefault") [.ref d, .ref a, r]) Q E s := by
  obtain ⟨zz, hd, ys, rel, dd⟩ := nd_raw I (.inl e) ks
  have hz : ys.length ≤ sizeLine := by rw [← Paired.length rel]; exact zz
  have hl2 : (putX xs k a z).length ≤ sizeLine := by have := putX_len xs k a z; omega
  have hv := rel.val k
  refine call_setdefault_heap (hsz := hz) (nd_room hu) (hk.is I) hd dd (fun p hp => ?_) fun hn h' dd' hs => h2 _ ?_ ?_
  · rw [hp] at hv
    cases q : valV (plainX xs) k with
    | none => rw [q] at hv; exact (show False from hv).elim
    | some v => rw [q] at hv; exact h1 v _ _ q (I.tok _) hv
  · rw [hn] at hv
    cases q : valV (plainX xs) k with
    | none => rfl
    | some v => rw [q] at hv; exact (show False from hv).elim
  · obtain ⟨q, es, ep, hq, h2, h3, h4, _, h5⟩ := dd'
    exact d_write I (by rw [e]; exact True.intro) hs ⟨q, hq⟩ (ndO_ok ⟨hl2, hd, _, rel.put k rd, q, es, ep, hq, h2, h3, h4, h5⟩)
theorem nd_base (I : Inv X pins σ H s) (g : NDR X.prog X.w X.K H d kvs) : s.TypeIs (.ref d) "dict" ∧ ∀ b, Value.ref d = .ref b → ∃ ob, s.heap.get? b = some ob ∧ ob.dict = none := by
  obtain ⟨xs, e, ks, rfl⟩ := g
  obtain ⟨z, hd, ys, rel, dd⟩ := nd_raw I e ks
  refine ⟨dd.typeIs, fun b q => ?_⟩
  cases q
  obtain ⟨ob, _, _, h1, h2, _⟩ := dd
  exact ⟨ob, h1, h2.2.1⟩
end
/-- d.get(y, z) -/
def tNGet2 (P : Program) (w : World) (K : PySem.W.Frag) (td ty tx : TE) : TE := fun σ H Q => td σ H fun x H1 => ∃ d kvs, x = .ref d ∧ NDR P w K H1 d kvs ∧ ty σ H1 fun y H2 => tx σ H2 fun z H3 => ∃ a kvs k, y = .ref a ∧ NDR P w K H3 d kvs ∧ KyAt K H3 (.ref a) k ∧ Q ((valV kvs k).getD z) H3
/-- d.setdefault(y, z) -/
def tNSetd (P : Program) (w : World) (K : PySem.W.Frag) (td ty tx : TE) : TE := fun σ H Q => td σ H fun x H1 => ∃ d kvs, x = .ref d ∧ NDR P w K H1 d kvs ∧ ty σ H1 fun y H2 => tx σ H2 fun z H3 => ∃ a kvs k, y = .ref a ∧ ND P w K H3 d kvs ∧ KyAt K H3 (.ref a) k ∧ kvs.length < sizeLine ∧
  (∀ v, valV kvs k = some v → Q v H3) ∧ (valV kvs k = none → ∀ H4, ND P w K H4 d (putK kvs k z) → Stp [d] H3 H4 → Q z H4)
section
variable {X : Cx} {o e f : Expr} {td ty tx : TE} {apos cpos : Pos} {P : Program} {w : World} {K : PySem.W.Frag}
theorem pe_nget2K {k : Nat} (eP : X.prog = P) (ew : X.w = w) (eK : X.K = K) (hr : Room k X.A) (ho : PE X o td) (he : PE X e ty) (hf : PE X f tx) (m : M2 X o "get" apos e f cpos) : PE X (.Call (.Attribute o "get" apos) [e, f] [] cpos) (tNGet2 P w K td ty tx) := by
  subst eP ew eK
  refine ⟨fun pins s σ H Q I h => ?_⟩
  refine wpAny_Call_method m.base m.few m.line PySem.F.plainAttrs_dict PySem.F.slot_dict_get PySem.F.type_dict_get (thn (ho.run pins s σ H _ I h) fun u s1 ⟨x, H1, I1, rx, d, kvs, ex, g, q1⟩ => ?_)
  subst ex
  obtain rfl : u = Value.ref d := rx
  obtain ⟨t1, t2⟩ := nd_base I1 g
  refine ⟨t1, t2, ?_⟩
  rw [m.trees]
  refine Calls.callWith_builtin rfl (Calls.evalArgs_plain (Calls.spliced_cons (thn (he.run pins s1 σ H1 _ I1 q1) fun iv s2 ⟨y, H2, I2, ry, q2⟩ =>
    Calls.spliced_cons (thn (hf.run pins s2 σ H2 _ I2 q2) fun fv s3 ⟨z, H3, I3, rz, a, kv, k, ey, g3, hk, q3⟩ => Calls.spliced_nil ?_))))
  subst ey
  obtain rfl : iv = Value.ref a := ry
  exact nd_get2 (hu9 hr) I3 g3 hk rz fun w' s4 I4 rw' => ⟨_, H3, I4, rw', q3⟩
theorem pe_nsetdK {k : Nat} (eP : X.prog = P) (ew : X.w = w) (eK : X.K = K) (hr : Room k X.A) (ho : PE X o td) (he : PE X e ty) (hf : PE X f tx) (m : M2 X o "setdefault" apos e f cpos) : PE X (.Call (.Attribute o "setdefault" apos) [e, f] [] cpos) (tNSetd P w K td ty tx) := by
  subst eP ew eK
  refine ⟨fun pins s σ H Q I h => ?_⟩
  refine wpAny_Call_method m.base m.few m.line PySem.F.plainAttrs_dict PySem.F.slot_dict_setdefault PySem.F.type_dict_setdefault (thn (ho.run pins s σ H _ I h) fun u s1 ⟨x, H1, I1, rx, d, kvs, ex, g, q1⟩ => ?_)
  subst ex
  obtain rfl : u = Value.ref d := rx
  obtain ⟨t1, t2⟩ := nd_base I1 g
  refine ⟨t1, t2, ?_⟩
  rw [m.trees]
  refine Calls.callWith_builtin rfl (Calls.evalArgs_plain (Calls.spliced_cons (thn (he.run pins s1 σ H1 _ I1 q1) fun iv s2 ⟨y, H2, I2, ry, q2⟩ =>
    Calls.spliced_cons (thn (hf.run pins s2 σ H2 _ I2 q2) fun fv s3 ⟨z, H3, I3, rz, a, kv, k, ey, ⟨xs, e3, ks, exs⟩, hk, hl, q3, q4⟩ => Calls.spliced_nil ?_))))
  subst ey exs
  obtain rfl : iv = Value.ref a := ry
  rw [plainX_len] at hl
  refine nd_setd (hu9 hr) I3 e3 ks hk hl rz (fun v w' s4 hv I4 rw' => ⟨v, H3, I4, rw', q3 v hv⟩) fun s4 hn I4 => ?_
  have st : Stp [d] H3 (upd H3 d (ndO X.prog X.w d (putX xs k a z))) := .wr (by simp) e3 fun _ z => nomatch z
  exact ⟨z, _, I4, rz, q4 hn _ ⟨_, upd_same, (ks.put hk).stp st, plainX_put xs k a z⟩ st⟩
end
section
variable {σ : L2.St} {H : Hp} {Q : VK} {td ty tx : TE} {ta : TA} {R : It → Hp → Prop} {P : Program} {w : World} {K : PySem.W.Frag}
theorem i_NGet2 (q : td σ H fun x H1 => ∃ d kvs, x = .ref d ∧ NDR P w K H1 d kvs ∧ ty σ H1 fun y H2 => tx σ H2 fun z H3 => ∃ a kvs k, y = .ref a ∧ NDR P w K H3 d kvs ∧ KyAt K H3 (.ref a) k ∧ Q ((valV kvs k).getD z) H3) : tNGet2 P w K td ty tx σ H Q := q
theorem i_NSetd (q : td σ H fun x H1 => ∃ d kvs, x = .ref d ∧ NDR P w K H1 d kvs ∧ ty σ H1 fun y H2 => tx σ H2 fun z H3 => ∃ a kvs k, y = .ref a ∧ ND P w K H3 d kvs ∧ KyAt K H3 (.ref a) k ∧ kvs.length < sizeLine ∧
  (∀ v, valV kvs k = some v → Q v H3) ∧ (valV kvs k = none → ∀ H4, ND P w K H4 d (putK kvs k z) → Stp [d] H3 H4 → Q z H4)) : tNSetd P w K td ty tx σ H Q := q
theorem i_Enum (q : ta σ H fun vs H1 => ∃ a xs, vs = [.ref a] ∧ SqL K H1 a xs ∧ R (Ite K a) H1) : iEnum K ta σ H R := q
end
/-! ### list.index of data -/
section
variable {X : Cx}
def rIndexT (K : PySem.W.Frag) : V → List V → Hp → VK → Prop := fun x xs H Q => ∃ (a : Addr) (y : V) (d : Dt) (ds : List Dt) (j : Nat) (z : Dt), x = V.ref a ∧ xs = [y] ∧ DtAt K H (V.ref a) (.lst ds) ∧ DtAt K H y d ∧ d.depth ≤ 60 ∧ Dt.depthAll ds ≤ 60 ∧
  ds[j]? = some z ∧ Dt.beq z d = true ∧ (∀ (m : Nat) (z' : Dt), m < j → ds[m]? = some z' → Dt.beq z' d = false) ∧ Q (.int (j : Nat)) H
theorem DtAll.get {h : Heap} : ∀ {ds : List Dt} {vs : List Value} {m : Nat} {v : Value}, DtAll h ds vs → vs[m]? = some v → ∃ d, ds[m]? = some d ∧ DtIs h d v
  | _, _, _, _, .nil, e => by simp at e
  | _, _, 0, _, .cons r _, e => by simp at e; subst e; exact ⟨_, rfl, r⟩
  | _, _, m + 1, _, .cons _ t, e => by
    obtain ⟨d, h1, h2⟩ := DtAll.get (m := m) t (by simpa using e)
    exact ⟨d, by simpa using h1, h2⟩
theorem DtAll.len {h : Heap} : ∀ {ds : List Dt} {vs : List Value}, DtAll h ds vs → ds.length = vs.length
  | _, _, .nil => rfl
  | _, _, .cons _ t => by rw [List.length_cons, List.length_cons, DtAll.len t]
theorem mt_indexT (hu : X.A.units + 65 < cLine) : MtR X "list.index" (rIndexT X.K) := by
  intro pins s σ H x xs v us Q I rx rxs h
  obtain ⟨a, y, d, ds, j, z, rfl, rfl, hl, hy, hd1, hd2, hz, hzj, hno, q⟩ := h
  cases rx
  cases rxs with
  | cons ry rt =>
    rename_i uy ut
    cases rt
    have r1 := DtAt.is I d y uy hy ry
    cases hl with
    | lst hs ha =>
      obtain ⟨its, rv, ⟨⟨cls, dd, data, sls⟩, n, ho, hc, hdn, hdt⟩, hlen⟩ := I.list hs
      simp only at hc hdt
      subst hc hdt
      have h4 := DtsAt.is I ds _ its ha rv
      have hn := h4.len
      have hvl := rv.length
      have hsl := sizeLine_eq
      obtain ⟨hjd, _⟩ := List.getElem?_eq_some_iff.mp hz
      have hjl : j < its.length := by omega
      have hj : j < its.toArray.size := by simpa using hjl
      have at_ : ∀ (m : Nat) (hm : m < its.toArray.size) (z' : Dt), ds[m]? = some z' → datOf s.heap its.toArray[m] = z' := by
        intro m hm z' hz'
        have hml : m < its.length := by simpa using hm
        obtain ⟨d', h5, h6⟩ := h4.get (List.getElem?_eq_getElem hml)
        rw [hz'] at h5
        obtain rfl := Option.some.inj h5
        exact datOf_eq (by simpa using h6)
      refine call_meets PySem.F.slot_list_index ⟨_, ho, rfl⟩ PySem.F.entry_list_index (PySem.F.args_list_index_2 _ _)
        (SeqAt.list_indexAt a its.toArray n dd sls uy (fun u => Dt.beq (datOf s.heap u) d) j hj (by omega) ?_ ?_) ⟨ho, ?_, ?_⟩
      · show Dt.beq (datOf s.heap its.toArray[j]) d = true
        rw [at_ j hj z hz]
        exact hzj
      · intro m hm hmj
        have hmd : m < ds.length := by omega
        have hz' : ds[m]? = some ds[m] := List.getElem?_eq_getElem hmd
        show Dt.beq (datOf s.heap its.toArray[m]) d = false
        rw [at_ m hm _ hz']
        exact hno m _ hmj hz'
      · intro w hw
        obtain ⟨c, hc, rc⟩ := DtAll.mem h4 (by simpa using hw)
        show SeqAt.EqAt _ _ _ _ (Dt.beq (datOf s.heap w) d)
        rw [datOf_eq rc]
        have hc2 := Dt.depth_mem hc
        exact eqAt_dt c d _ s _ _ rc r1 (by first | (rw [Around.in1_units, Around.in1_units]; omega) | (rw [Around.in1_units]; omega) | omega)
      · exact ⟨.int (j : Nat), H, I.tok _, ⟨_, rfl⟩, q⟩
end
/-! ### a dict comprehension over enumerate(list) -/
theorem dn_enum {K : PySem.W.Frag} {P : Program} {w : World} {g : TG} {tt : TT} {tk tv : TE} {vs : List Nat} {σ : L2.St} {a : Addr} {xs : List V} {H2 : Hp} {D : Addr} {Qd : Hp → Prop} (Pv : Nat → Hp → Prop) (h0 : Pv 0 H2) (hl : ∀ i H, i ≤ xs.length → Pv i H → SqL K H a xs)
    (hs : ∀ i x H T, xs[i]? = some x → Pv i H → H T = none → g (.ref T) (wipe σ vs) (upd H T (.tup [.int (i : Nat), x])) fun σ2 H2 => wipe σ2 vs = wipe σ vs ∧ tt σ2 H2 fun b H3 =>
      if b = true then tk σ2 H3 fun y H4 => tv σ2 H4 fun z H5 => ∃ a kvs k, y = .ref a ∧ ND P w K H5 D kvs ∧ KyAt K H5 (.ref a) k ∧ kvs.length < sizeLine ∧ ∀ H6, ND P w K H6 D (putK kvs k z) → Stp [D] H5 H6 → Pv (i + 1) H6 else Pv (i + 1) H3) (hd : ∀ H, Pv xs.length H → Qd H) :
    ∃ W : Nat → Nat → Hp → Prop, (∃ m, W 0 m H2) ∧ ∀ i m H, W i m H →
      ((Ite K a).stop i H ∧ Qd H) ∨ ((Ite K a).go i H ∧ ∃ Nx : Hp → Prop, (∀ H', Nx H' → ∃ m', m' < m ∧ W (i + 1) m' H') ∧ ∀ x H', (Ite K a).yld i H x H' → g x (wipe σ vs) H' fun σ2 H2 => wipe σ2 vs = wipe σ vs ∧ tt σ2 H2 fun b H3 =>
        if b = true then tk σ2 H3 fun y H4 => tv σ2 H4 fun z H5 => ∃ a kvs k, y = .ref a ∧ ND P w K H5 D kvs ∧ KyAt K H5 (.ref a) k ∧ kvs.length < sizeLine ∧ ∀ H6, ND P w K H6 D (putK kvs k z) → Stp [D] H5 H6 → Nx H6 else Nx H3) := by
  refine ⟨fun i m H => m + i = xs.length ∧ Pv i H, ⟨xs.length, rfl, h0⟩, fun i m H ⟨em, p⟩ => ?_⟩
  have at_ := hl i H (by omega) p
  match m, em with
  | 0, em =>
    have e : i = xs.length := by omega
    subst e
    exact .inl ⟨⟨xs, at_, Nat.le_refl _⟩, hd H p⟩
  | m + 1, em =>
    have lt : i < xs.length := by omega
    refine .inr ⟨⟨xs, xs[i], at_, List.getElem?_eq_getElem lt⟩, Pv (i + 1), fun H' p' => ⟨m, Nat.lt_succ_self m, by omega, p'⟩, fun x H' ⟨T, z, e, n, eh, hz⟩ => ?_⟩
    subst e eh
    exact hs i z _ T (hz xs at_) p n
theorem hu65 {A : Around} {k : Nat} (hr : Room k A) : A.units + 65 < cLine := by have := hr.un; omega
section
variable {X : Cx} {K : PySem.W.Frag}
theorem mt_indexTK (eK : X.K = K) (hu : X.A.units + 65 < cLine) : MtR X "list.index" (rIndexT K) := by subst eK; exact mt_indexT hu
variable {o e : Expr} {es : List Expr} {to : TE} {t : TA} {name : Str} {apos cpos : Pos} {T id : String} {r : V → List V → Hp → VK → Prop}
theorem pe_bmK (eK : X.K = K) (pa : PlainAttrs T) (slot : Slot T name id) (hty : typeOf (.builtin id) = pure (.type "method_descriptor")) (hm : MtR X id r) (ho : PE X o to) (ha : PA X (e :: es) t)
    (hbase : attributeBase o name X.env (eval o X.env) = eval o X.env := by rfl)
    (hfew : ((backTo cpos (starEach (e :: es) X.env)).all (fun x => !x.1) && (backToKw cpos (keywordEach [] X.env)).all (fun x => x.1.isSome)
      && decide ((e :: es).length + ([] : List Keyword).length + (if ([] : List Keyword).isEmpty then 0 else 1) < 30)) = true := by rfl)
    (hline : (apos.endLine == cpos.line) = true := by rfl) (hs : starEach (e :: es) X.env = (false, eval e X.env) :: starEach es X.env := by rfl) (hplain : (backTo cpos (starEach es X.env)).any (·.1) = false := by rfl) :
    PE X (.Call (.Attribute o name apos) (e :: es) [] cpos) (tBM K T r to t) := by
  subst eK; exact pe_bm pa slot hty hm ho ha hbase hfew hline hs hplain
end
section
variable {P : Program} {w : World} {K : PySem.W.Frag} {H H1 : Hp} {M : List Addr} {d : Addr} {kvs : List NKV}
theorem NDR.stp' (h : NDR P w K H d kvs) (s : Stp M H H1) (n : d ∉ M) : NDR P w K H1 d kvs :=
  let ⟨xs, e, k, q⟩ := h
  ⟨xs, e.elim (fun e => .inl (s.keep _ _ e n)) (fun ⟨o, e⟩ => .inr ⟨o, s.keep _ _ e n⟩), k.stp s, q⟩
end
end GT

/-! ## statements that are never reached; a sign so many times -/
namespace GT
open PySem PySem.Spec PyProof.Rows L2
section
variable {X : Cx}
/-- of a statement that is never reached nothing is asked -/
def tNever : TS := fun _ _ _ => False
theorem ps_never {st : Stmt} : PS X st tNever := ⟨fun pins s σ H D I h => h.elim⟩
def rMulS : R2 := fun x y H Q => ∃ (z : Str) (n : Int), x = .str z ∧ y = .int n ∧ z.length = 1 ∧ 0 ≤ n ∧ n ≤ 1000 ∧ Q (.str (Txt.mul z n)) H
theorem op_mul_str : OpR X (binaryOp .Mult) rMulS := by
  rintro pins s σ H x y u v Q I rx ry ⟨z, n, rfl, rfl, hz, h0, h1, q⟩
  obtain ⟨t, rfl⟩ := (show ∃ t, u = Value.str z t from rx)
  obtain ⟨t2, rfl⟩ := (show ∃ t, v = Value.int n t from ry)
  refine PySem.SB.mul ⟨?_, fun a b => ?_, fun a b => ?_⟩ fun t' k => ⟨.str _, H, I.tok _, ⟨t', rfl⟩, q⟩
  · simp; omega
  · rw [hz]
    have h2 : (1 : Int) ≤ (2 ^ 63 - 1) / n := by
      rw [Int.le_ediv_iff_mul_le (by omega)]; omega
    show ¬ ((1 : Nat) : Int) > (2 ^ 63 - 1) / n
    omega
  · rw [hz]
    have h3 : n.toNat ≤ 1000 := by omega
    have h4 := sizeLine_eq
    unfold PySem.Builtin.Str.tooLong
    rw [decide_eq_false_iff_not, h4]
    omega
end
section
variable {σ : L2.St} {H : Hp} {Q : VK} {te : TE} {R : It → Hp → Prop}
theorem i_Str (q : te σ H fun v H1 => ∃ x, v = .str x ∧ R (Its x) H1) : iStr te σ H R := q
end
end GT

/-! ## set(list of ints) -/
namespace GT
open PySem PySem.Spec PyProof.Rows L2
section
variable {P : Program} {w : World} {A : Around} {E : Value → Shared → Prop} {s : Shared}
/-- the set is filled: what stood before stands -/
def Filled (w : World) (s : Shared) (ns : List Int) (t : Shared) : Prop :=
  ∃ (h2 : Heap) (t2 m : Nat), t = { s with heap := h2, toks := t2 } ∧ SetR w h2 s.heap.objs.size (fun j => decide (j ∈ ns)) m ∧ m ≤ ns.length ∧ ∀ b o, s.heap.get? b = some o → h2.get? b = some o
theorem call_set_ints {l : Addr} {xs : Array Value} {ns : List Int} {Q : Value → Shared → Prop} (nh : A.handled = none) (hl : s.heap.IsList l xs) (hx : IntsAre xs.toList ns) (lim : ns.length + 1 < scanBound)
    (fin : ∀ t, Filled w s ns t → Q (.ref s.heap.objs.size) t) : wpAny (model P w) A (call (.type "set") [.ref l]) Q E s := by
  have size_eq : xs.size = ns.length := by rw [← Array.length_toList]; exact IntsAre.length hx
  obtain ⟨_, _, order⟩ := F.called_set.mro
  have is_made := F.called_set.made
  have is_sub := F.called_set.sub
  have not_type := F.called_set.notType
  have creates := F.called_set.canCreate
  have checked := F.typeCall_set_1 (.ref l)
  refine wpAny_call (codeAny_of_tree (wpAny_pure ⟨Code.quiet_builtin _ (by decide +kernel), codeAny_builtin F.entry_type_call ?_⟩))
  rw [Around.under_plain (weight_type_call_type "set" [.ref l] []) rfl]
  repeat (any_goals (first | assumption | wp_step))
  generalize hN : ({ cls := .type "set", dict := none, data := .set #[] 0 (.fresh 0 0 (!w.params.followText "set-order")) } : Obj) = N
  have ncls : N.cls = .type "set" := by rw [← hN]
  refine codeAny_mono (code_set_led1 (.ref l) (E := E) (Q₁ := fun o t => o = .ref s.heap.objs.size ∧ t = { s with heap := s.heap.push N }) (by rw [hN]; exact ⟨rfl, rfl⟩)) fun r t hr => ?_
  rcases r with _ | f
  · exact hr
  rcases f with o | _ | _ | _
  rotate_left
  all_goals try exact hr.elim
  obtain ⟨rfl, rfl⟩ := hr
  have at_new : (s.heap.push N).get? s.heap.objs.size = some N := Heap.get?_push_size _ (by rw [← hN]; rfl)
  have kind : Shared.TypeIs { s with heap := s.heap.push N } (.ref s.heap.objs.size) "set" := ⟨N, at_new, ncls⟩
  have init_at := F.called_set.init.lookup
  have init_bound := F.called_set.init.bind (.ref s.heap.objs.size)
  repeat (any_goals (first | assumption | wp_step))
  refine codeAny_mono (codeAny_call_builtin (R := wants (fun r t => r = .none ∧ Filled w s ns t) E) F.called_set.init.plain F.entry_set_init (check_set_init_1 kind ?_)) fun r t hr => ?_
  · obtain ⟨⟨c, d, dt, sl⟩, ol, hc, n, hd⟩ := hl
    obtain rfl : c = .type "list" := hc
    obtain rfl : dt = .seq xs n := hd
    have l_old := Heap.lt_size ol
    have ol2 : (s.heap.push N).get? l = some { cls := .type "list", dict := d, data := .seq xs n, slots := sl } := Heap.get?_push_of_some _ ol
    have fact1 := F.sub_list_set
    have fact2 := F.sub_list_frozenset
    have fact3 : (Value.type "list" == Value.type "dict") = false := by decide
    have is_l : (s.heap.push N).IsList l xs := ⟨_, ol2, rfl, n, rfl⟩
    have grown : (s.heap.push N).objs.size = s.heap.objs.size + 1 := Heap.size_push ..
    have apart : l ≠ (s.heap.push N).objs.size := by rw [grown]; exact Nat.ne_of_lt (Nat.lt_succ_of_lt l_old)
    have apart2 : s.heap.objs.size ∉ [(s.heap.push N).objs.size, l] := by
      rw [grown]
      intro z
      rcases List.mem_cons.mp z with z | z
      · exact Nat.ne_of_lt (Nat.lt_succ_self _) z
      · exact Nat.ne_of_gt l_old (List.mem_singleton.mp z)
    subst hN
    unfold Builtin.«set.__init__» noKeywords Builtin.Frozenset.updateFrom
    generalize hPI : pyIter = PI
    wp_walk
    subst hPI
    refine wpAny_pyIter_list is_l ?_
    refine wpAny_bind (wpAny_runValue ?_)
    have out : A.in1.in1.in1.handled = none := by simp [nh]
    refine set_update_ints ((Walks.list out _ l apart xs).toS) s.heap.objs.size apart2 ns size_eq lim (fun i v hv => ?_) xs.size 0 _ (Nat.sub_zero _) (Nat.zero_le _) ⟨⟨_, Heap.get?_push_size _ rfl, rfl, rfl⟩, is_l.push _⟩ ⟨0, Nat.le_refl 0, ?_⟩ fun t m mv hm R => ?_
    · have hi : i < ns.length := by rw [← size_eq]; exact (Array.getElem?_eq_some_iff.mp hv).1
      obtain ⟨k, e⟩ := IntsAre.int_at hx i v (by rw [Array.getElem?_toList]; exact hv)
      refine ⟨ns[i], k, List.getElem?_eq_getElem hi, ?_⟩
      rw [e]
      simp [hi]
    · exact setR_new_at (Heap.get?_push_of_some _ at_new)
    · obtain ⟨h2, g2, d2, t2, os2⟩ := t
      obtain rfl : g2 = s.gens := mv.gens
      obtain rfl : d2 = s.drawn := mv.drawn
      obtain rfl : os2 = s.os := mv.os
      refine wpAny_pure (show wpAny _ _ (ret Value.none) _ _ _ from wpAny_pure ⟨rfl, h2, t2, m, rfl, R, by omega, fun b o e => ?_⟩)
      have old := Heap.lt_size e
      exact mv.heap b o (fun z => (List.mem_cons.mp z).elim (fun z => Nat.ne_of_lt old z) fun z => Nat.ne_of_lt (Nat.lt_succ_of_lt old) ((List.mem_singleton.mp z).trans grown)) (Heap.get?_push_of_some _ (Heap.get?_push_of_some _ e))
  · rcases r with _ | f
    · exact hr
    rcases f with o | _ | _ | _
    rotate_left
    all_goals try exact hr.elim
    obtain ⟨rfl, hf⟩ := hr
    repeat (any_goals (first | assumption | wp_step))
    exact fin _ hf
end
end GT

namespace GT
open PySem PySem.Spec PyProof.Rows L2
/-! ### ascending lists of ints -/
theorem asc_eq : ∀ {l m : List Int}, l.Pairwise (· < ·) → m.Pairwise (· < ·) → (∀ k, k ∈ l ↔ k ∈ m) → l = m
  | [], [], _, _, _ => rfl
  | [], b :: m, _, _, h => absurd ((h b).mpr List.mem_cons_self) (by simp)
  | a :: l, [], _, _, h => absurd ((h a).mp List.mem_cons_self) (by simp)
  | a :: l, b :: m, hl, hm, h => by
    obtain ⟨l1, l2⟩ := List.pairwise_cons.mp hl
    obtain ⟨m1, m2⟩ := List.pairwise_cons.mp hm
    have e : a = b := by
      rcases List.mem_cons.mp ((h a).mp List.mem_cons_self) with z | z
      · exact z
      · rcases List.mem_cons.mp ((h b).mpr List.mem_cons_self) with y | y
        · exact y.symm
        · have := m1 a z
          have := l1 b y
          omega
    subst e
    rw [asc_eq l2 m2 fun k => ?_]
    constructor
    · intro hk
      rcases List.mem_cons.mp ((h k).mp (List.mem_cons_of_mem _ hk)) with z | z
      · have := l1 k hk; omega
      · exact z
    · intro hk
      rcases List.mem_cons.mp ((h k).mpr (List.mem_cons_of_mem _ hk)) with z | z
      · have := m1 k hk; omega
      · exact z
def putA (k : Int) : List Int → List Int
  | [] => [k]
  | a :: l => if k < a then k :: a :: l else if k = a then a :: l else a :: putA k l
theorem putA_mem (k : Int) : ∀ (l : List Int) (x : Int), x ∈ putA k l ↔ x = k ∨ x ∈ l
  | [], x => by simp [putA]
  | a :: l, x => by
    unfold putA
    by_cases h1 : k < a
    · rw [if_pos h1]; simp
    · rw [if_neg h1]
      by_cases h2 : k = a
      · rw [if_pos h2]; simp [h2]
      · rw [if_neg h2, List.mem_cons, putA_mem k l x, List.mem_cons]
        constructor
        · rintro (z | z | z)
          · exact .inr (.inl z)
          · exact .inl z
          · exact .inr (.inr z)
        · rintro (z | z | z)
          · exact .inr (.inl z)
          · exact .inl z
          · exact .inr (.inr z)
theorem putA_asc (k : Int) : ∀ (l : List Int), l.Pairwise (· < ·) → (putA k l).Pairwise (· < ·)
  | [], _ => by simp [putA]
  | a :: l, h => by
    obtain ⟨h1, h2⟩ := List.pairwise_cons.mp h
    unfold putA
    by_cases c1 : k < a
    · rw [if_pos c1]
      refine List.pairwise_cons.mpr ⟨fun x hx => ?_, h⟩
      rcases List.mem_cons.mp hx with z | z
      · omega
      · have := h1 x z; omega
    · rw [if_neg c1]
      by_cases c2 : k = a
      · rw [if_pos c2]; exact h
      · rw [if_neg c2]
        refine List.pairwise_cons.mpr ⟨fun x hx => ?_, putA_asc k l h2⟩
        rcases (putA_mem k l x).mp hx with z | z
        · omega
        · exact h1 x z
/-- the members of a list, ascending, each once -/
def sset : List Int → List Int
  | [] => []
  | k :: l => putA k (sset l)
theorem sset_mem : ∀ (l : List Int) (x : Int), x ∈ sset l ↔ x ∈ l
  | [], x => by simp [sset]
  | k :: l, x => by rw [sset, putA_mem, sset_mem l x, List.mem_cons]
theorem sset_asc : ∀ l : List Int, (sset l).Pairwise (· < ·)
  | [] => by simp [sset]
  | k :: l => putA_asc k _ (sset_asc l)
theorem sset_of {l m : List Int} (h : m.Pairwise (· < ·)) (e : ∀ k, k ∈ m ↔ k ∈ l) : m = sset l := asc_eq h (sset_asc l) fun k => (e k).trans (sset_mem l k).symm
theorem sset_cong {l m : List Int} (e : ∀ k, k ∈ l ↔ k ∈ m) : sset l = sset m := sset_of (sset_asc l) fun k => (sset_mem l k).trans (e k)
theorem asc_nodup {l : List Int} (h : l.Pairwise (· < ·)) : l.Nodup := h.imp fun z => Int.ne_of_lt z
theorem sset_nodup (l : List Int) : (sset l).Nodup := asc_nodup (sset_asc l)
theorem sset_le : ∀ l : List Int, (sset l).length ≤ l.length
  | [] => by simp [sset]
  | k :: l => by
    have h := sset_le l
    have : ∀ m : List Int, (putA k m).length ≤ m.length + 1 := by
      intro m
      induction m with
      | nil => simp [putA]
      | cons a m ih =>
        unfold putA
        by_cases c1 : k < a
        · rw [if_pos c1]; simp
        · rw [if_neg c1]
          by_cases c2 : k = a
          · rw [if_pos c2]; simp
          · rw [if_neg c2, List.length_cons, List.length_cons]; omega
    have := this (sset l)
    rw [sset, List.length_cons]; omega
section
variable {X : Cx} {K : PySem.W.Frag}
theorem ints_vals : ∀ {ns : List Int} {us : List Value}, Vals (ns.map V.int) us → IntsAre us ns
  | [], _, .nil => .nil
  | n :: ns, _, .cons r t => by
    obtain ⟨k, rfl⟩ := r
    exact .cons n k (ints_vals t)
/-- set(xs): xs a list of ints -/
def rSetI (K : PySem.W.Frag) (w : World) : List V → Hp → VK → Prop := fun vs H Q => ∃ (l : Addr) (ns : List Int), vs = [.ref l] ∧ SqL K H l (ns.map V.int) ∧ ns.length ≤ 4000 ∧
  ∀ (p : Addr) (m : Nat), H p = none → m ≤ ns.length → Q (.ref p) (upd H p (SetO w p (fun j => decide (j ∈ ns)) m))
theorem cr_setI (hc : X.calm = true) : CallR X (.type "set") (rSetI X.K X.w) := by
  intro pins s σ H vs us Q I r h
  obtain ⟨l, ns, rfl, hs, hl, q⟩ := h
  obtain rfl := Vals.ref1 r
  obtain ⟨its, rv, pl, hz⟩ := I.list hs
  refine call_set_ints (ns := ns) (I.ok.hd hc) pl.isList (by simpa using ints_vals rv) (by unfold scanBound; omega) fun t ⟨h2, t2, m, e, R, hm, hk⟩ => ?_
  subst e
  exact ⟨.ref _, upd H s.heap.objs.size (SetO X.w s.heap.objs.size (fun j => decide (j ∈ ns)) m), I.laid (t' := t2) hk (Nat.le_refl _) (setO_new R), rfl, q _ m (I.hok.fresh (Nat.le_refl _)) hm⟩
/-- len within a comprehension -/
theorem call_len_seqK (e : X.K = K) : CallR X (.builtin "len") (fun xs H Q => ∃ p ys, xs = [V.ref p] ∧ (SqL K H p ys ∨ SqT K H p ys) ∧ Q (V.int (ys.length : Nat)) H) := by subst e; exact call_len_seq
/-- isinstance within a comprehension -/
theorem call_isiK (e : X.K = K) : CallR X (.builtin "isinstance") (rIsi K) := by subst e; exact call_isi
/-- sorted(set(xs)) -/
theorem sset_i {K : PySem.W.Frag} {w : World} {H : Hp} {Q : VK} {l : Addr} {ns : List Int} (h : SqL K H l (ns.map V.int)) (b : ns.length < 64) (q : ∀ (p : Addr) (H1 : Hp), H p = none → H1 p = some (.lst ((sset ns).map V.int)) → Stp [] H H1 → Q (.ref p) H1) :
    rSetI K w [.ref l] H fun v H' => rSortedSet w [v] H' Q := by
  refine ⟨l, ns, rfl, h, by omega, fun p m hp hm => ⟨p, _, m, rfl, upd_same, by omega, fun os p2 h1 h2 h3 h4 => ?_⟩⟩
  have e : os = sset ns := sset_of h1 fun k => by rw [h2]; simp
  have s1 : Stp [] H (upd H p (SetO w p (fun j => decide (j ∈ ns)) m)) := .new hp
  subst e
  exact q p2 _ (s1.free h4 (by simp)) upd_same (s1.trans (.new h4))
theorem sset_t {K : PySem.W.Frag} {w : World} {σ : L2.St} {H : Hp} {Q : VK} {l : Addr} {ns : List Int} (h : SqL K H l (ns.map V.int)) (b : ns.length < 64) (q : ∀ (p : Addr) (H1 : Hp), H p = none → H1 p = some (.lst ((sset ns).map V.int)) → Stp [] H H1 → Q (.ref p) H1) :
    rSetI K w [.ref l] H fun x H1 => tNil σ H1 fun xs H2 => rSortedSet w (x :: xs) H2 Q := sset_i h b q
/-- sorted(d): the keys of d are ints -/
def rSortDI : List V → Hp → VK → Prop := fun vs H Q => ∃ (d : Addr) (kvs : List (Key × V)) (ns : List Int), vs = [.ref d] ∧ H d = some (.dK kvs) ∧ kvs.map (·.1) = ns.map Sum.inl ∧ ns.length < 64 ∧ ns.Nodup ∧
  ∀ p : Addr, H p = none → Q (.ref p) (upd H p (.lst ((sset ns).map V.int)))
theorem sorted_sset {l ns : List Int} (p : l.Perm ns) (o : l.Pairwise (· ≤ ·)) (nd : ns.Nodup) : l = sset ns := by
  refine sset_of ?_ fun k => p.mem_iff
  have nd' := p.nodup_iff.mpr nd
  exact (o.and nd').imp fun ⟨a, b⟩ => by omega
theorem cr_sortDI (hc : X.calm = true) : CallR X (.builtin "sorted") rSortDI := by
  intro pins s σ H vs us Q I r h
  obtain ⟨d, kvs, ns, rfl, hd, hk, h64, nd, q⟩ := h
  obtain rfl := Vals.ref1 r
  obtain ⟨z, lo, es, rel, at0⟩ := dk_of I.hok hd
  obtain ⟨ep, at1⟩ := at0.dictAt
  have l1 : kvs.length = es.length := Paired.length rel
  have l2 : kvs.length = ns.length := by have := congrArg List.length hk; simpa using this
  refine Calls.call_function_entry kind_sorted plain_sorted entry_sorted (args_sorted1 _) ?_
  unfold Builtin.«sorted»
  refine wpAny_bind (m := checkCount "sorted" 1 1 _) (wpAny_pure ?_)
  refine wpAny_bind (PySem.W.kdu_collect (A := X.A.in1) (PySem.W.kdl_dict (knd := mixKind X.prog X.w) (kvs := es) (ep := ep) lo) (I.ok.hd hc) at1 (by omega) fun h1 tk acc keeps items => ?_)
  have l3 : acc.toList.length = ns.length := by rw [Array.length_toList, items.1]; omega
  have vs_ : Vals (ns.map V.int) acc.toList := by
    refine vals_of_at (by rw [List.length_map, l3]) fun j x u e1 e2 => ?_
    obtain ⟨k, y, e3, e4⟩ := items.2 j u (by rw [← Array.getElem?_toList]; exact e2)
    have e5 : (kvs.map (·.1))[j]? = some k := by rw [KV.keys rel, List.getElem?_map, e3]; rfl
    rw [hk, List.getElem?_map] at e5
    obtain ⟨n, e6, rfl⟩ := Option.map_eq_some_iff.mp e5
    rw [List.getElem?_map, e6] at e1
    cases e1
    exact @keyIs_rel (Sum.inl n) u e4
  have iv := ints_vals vs_
  refine wpAny_bind (wpAny_newList ?_ (by rw [l3, sizeLine_eq]; omega))
  have ho : (h1.push (seqObj "list" acc.toList.toArray 0)).get? h1.objs.size = some (seqObj "list" acc.toList.toArray 0) := Heap.get?_push_size _ rfl
  refine wpAny_bind (wpAny_holding (wpAny_call_entry slot_list_sort ⟨_, ho, rfl⟩ entry_list_sort (list_sort_tree ho iv (by rw [l3]; exact h64) fun out os o1 o2 o3 => ⟨_, rfl, ?_⟩) (args_list_sort _)))
  obtain ⟨c, hc'⟩ := sortedHeap_at (vs := acc.toList) (out := out) ho
  obtain rfl := sorted_sset o2 o3 nd
  have lo2 : ((sset ns).map V.int).length ≤ sizeLine := by rw [List.length_map, o2.length_eq]; exact small64 h64
  have I1 : Inv X pins σ H { s with heap := h1, toks := tk } := I.kept keeps
  refine wpAny_pure ⟨_, rfl, .ref h1.objs.size, upd H h1.objs.size (.lst ((sset ns).map V.int)), I1.laid (t' := tk) (fun b u e2 => ?_) (Nat.le_refl _) (show ObjOk X.prog X.w _ _ _ (.lst ((sset ns).map V.int)) from ⟨lo2, out.toList, c, vals_of_ints o1, hc'⟩), rfl, q _ (I1.hok.fresh (Nat.le_refl _))⟩
  have b2 := Heap.lt_size e2
  show (sortedHeap (h1.push (seqObj "list" acc.toList.toArray 0)) h1.objs.size acc.toList out).get? b = some u
  rw [sortedHeap_old (Nat.ne_of_lt b2) (by rw [size_push']; exact Nat.lt_succ_of_lt b2)]
  exact Heap.get?_push_of_some _ e2
end
end GT

/-! ## texts: f'..', split, join -/
namespace GT
open PySem PySem.Spec PyProof.Rows L2
section
variable {σ : L2.St} {H : Hp} {Q : VK} {to te : TE} {r : V → List V → Hp → VK → Prop} {t : TE} {ts : List TE} {acc : Str} {R : Str → Hp → Prop}
theorem i_M1 (q : to σ H fun x H1 => (∃ a, x = .str a) ∧ te σ H1 fun y H2 => r x [y] H2 Q) : tM1 r to te σ H Q := q
theorem i_Fmt (q : te σ H fun x H1 => (∃ y : Str, x = .str y ∧ y.length ≤ sizeLine ∧ Q (.str y) H1) ∨ ∃ i : Int, x = .int i ∧ i.natAbs.log2 < 1920 ∧ Q (.str (toString i)) H1) : tFmt te σ H Q := q
theorem i_Js (q : t σ H fun x H1 => ∃ y : Str, x = .str y ∧ (acc ++ y).length ≤ sizeLine ∧ tJs ts (acc ++ y) σ H1 R) : tJs (t :: ts) acc σ H R := q
theorem i_Js0 (q : R acc H) : tJs [] acc σ H R := q
end
theorem i_SetAt {σ : L2.St} {H : Hp} {v : V} {to ti : TE} {t : TSet} {Q : L2.St → Hp → Prop} (q : to σ H fun o H1 => ti σ H1 fun i H2 => t o i v H2 fun H3 => Q σ H3) : gSub to ti t v σ H Q := q
/-- f'..' of several parts -/
def tJoin (ts : List TE) : TE := fun σ H Q => tJs ts Str.empty σ H fun out H1 => Q (.str out) H1
theorem pe_joinedT {X : Cx} {v1 v2 : Expr} {rest : List Expr} {ts : List TE} {pos : Pos} (h : PJ X (v1 :: v2 :: rest) ts) : PE X (.JoinedStr (v1 :: v2 :: rest) pos) (tJoin ts) := pe_joined h
theorem i_Join {σ : L2.St} {H : Hp} {Q : VK} {ts : List TE} (q : tJs ts Str.empty σ H fun out H1 => Q (.str out) H1) : tJoin ts σ H Q := q
/-- for i, x in enumerate(xs) -/
theorem for_enum {K : PySem.W.Frag} {a : Addr} {xs : List V} {g : TG} {tb : TS} {D : Ends} {σ : L2.St} {H : Hp} (Pv : Nat → L2.St → Hp → Prop) (h0 : Pv 0 σ H) (hl : ∀ i σ H, i ≤ xs.length → Pv i σ H → SqL K H a xs)
    (hs : ∀ i x T σ H, xs[i]? = some x → H T = none → Pv i σ H → g (.ref T) σ (upd H T (.tup [.int (i : Nat), x])) fun σ2 H2 => tb { D with nx := Pv (i + 1), ct := Pv (i + 1), bk := D.nx } σ2 H2) (hd : ∀ σ H, Pv xs.length σ H → D.nx σ H) :
    ∃ W : Nat → Nat → L2.St → Hp → Prop, (∃ m, W 0 m σ H) ∧ ∀ i m σ H, W i m σ H →
      ((Ite K a).stop i H ∧ D.nx σ H) ∨ ((Ite K a).go i H ∧ ∃ N : L2.St → Hp → Prop, (∀ σ' H', N σ' H' → ∃ m', m' < m ∧ W (i + 1) m' σ' H') ∧ ∀ x H', (Ite K a).yld i H x H' → g x σ H' fun σ2 H2 => tb { D with nx := N, ct := N, bk := D.nx } σ2 H2) := by
  refine ⟨fun i m σ H => m = xs.length - i ∧ i ≤ xs.length ∧ Pv i σ H, ⟨xs.length, by simp, Nat.zero_le _, h0⟩, ?_⟩
  rintro i m σ H ⟨em, hi, p⟩
  by_cases c : i < xs.length
  · refine .inr ⟨⟨xs, xs[i], hl i σ H hi p, List.getElem?_eq_getElem c⟩, Pv (i + 1), fun σ' H' h => ⟨m - 1, by omega, by omega, c, h⟩, ?_⟩
    rintro x H' ⟨T, y, rfl, e2, rfl, e4⟩
    exact hs i y T σ H (e4 xs (hl i σ H hi p)) e2 p
  · have e : i = xs.length := by omega
    subst e
    exact .inl ⟨⟨xs, hl _ σ H hi p, Nat.le_refl _⟩, hd σ H p⟩
end GT

/-! ## .. made, raised, caught -/
namespace GT
open PySem PySem.Spec PyProof.Rows L2
section
variable {X : Cx} {e : Expr} {es : List Expr} {ta : TA} {x : Str} {B : Addr} {p p1 p2 pos : Pos}
/-- B.__init__(self, ..), B an own class over ValueError without an __init__ -/
theorem pe_binit {pl : Sem Bool} (T : BasC X.K B) (hg : Gl X x) (hm : X.mg x = some (.ref B)) (ha : PA X (e :: es) ta) (hdb : (x == ("__debug__" : Str)) = false := by decide)
    (hc : eval (.Call (.Attribute (.Name x p1) "__init__" p2) (e :: es) [] pos) X.env = (do
      let ov ← eval (.Name x p1) X.env
      standAt p2.atName
      let (f, first) ← holding [ov] (getMethod ov "__init__" pl)
      callWith pos f first (backTo pos (starEach (e :: es) X.env)) (backToKw pos (keywordEach [] X.env))) := by rfl)
    (he : starEach (e :: es) X.env = (false, eval e X.env) :: starEach es X.env := by rfl) (hpl : (backTo pos (starEach es X.env)).any (·.1) = false := by rfl) :
    PE X (.Call (.Attribute (.Name x p1) "__init__" p2) (e :: es) [] pos) (tVeI X.K ta) := by
  refine ⟨fun pins s σ H Q I h => ?_⟩
  refine PySem.W.methodCall_KW (ld_glob I hg hm ?_ hdb) hc
  obtain ⟨m, fr⟩ := I.fr
  refine PySem.W.method_of_cls fr I.ok.mod.kin T.ga ?_
  refine PySem.W.cls_val fr I.ok.mod.kin T.ty T.rd T.vi (by decide +kernel) ?_
  show wpAny _ _ (callWith pos (Value.builtin "ValueError.__init__") [] (backTo pos (starEach (e :: es) X.env)) []) _ _ _
  refine PyProof.Rows.callWith_method1 (thn (ha.run pos pins _ σ H _ (I.tok _) h) fun us s1 ⟨vs, H1, I1, r1, a, C, ws, ev, hl, O, ea, q⟩ => ?_) he hpl
  subst ev
  cases r1 with
  | @cons _ u0 _ ur ra rw' =>
    obtain rfl : u0 = Value.ref a := ra
    exact oinit_ok O I1 ea (by rw [← Paired.length rw', sizeLine_eq]; omega) fun s' J => ⟨.non, H1, J, rfl, q⟩
end
/-! ### making such an error, raising it -/
theorem exm_same {H : Hp} {a dx : Addr} {o1 o2 o3 o4 : HO} (hn : H a = none) (ne : dx ≠ a) : upd (del (upd (upd (upd H a o1) dx o2) a o3) a) dx o4 = upd H dx o4 := by
  funext b
  by_cases h : b = dx
  · rw [h, upd_same, upd_same]
  · rw [upd_ne h, upd_ne h]
    by_cases h2 : b = a
    · rw [h2, del_same, hn]
    · rw [del_ne h2, upd_ne h2, upd_ne h, upd_ne h2]
/-- __init__(self, v) of the class C: v becomes the field f -/
def spErr (C : Addr) (f : Str) (G : V → Prop) : Sp := fun vs H Q _ => ∃ (a : Addr) (v : V), vs = [.ref a, v] ∧ G v ∧ H a = some (exo a C none) ∧
  ∀ dx, H dx = none → dx ≠ a → Q .non (upd (upd H dx (exd dx [(f, v)])) a (exo a C (some dx)))
/-- the class x, at C: its errors bear the field f, of which G holds -/
def Err (P : Program) (w : World) (K : PySem.W.Frag) (mg : Str → Option Value) (base : Heap) (k : Nat) (C : Addr) (x : Str) (f : Str) (G : V → Prop) (y : Str) : Prop :=
  ErrC K C ∧ PySem.W.findIn K (.ref C) f = some none ∧ mg x = some (.ref C) ∧ ∃ (fI : Addr) (fd : FuncData), FnOk P w K mg base CX0 k fI fd ["self", y] (spErr C f G) ∧
    PySem.W.findIn K (.ref C) "__init__" = some (some (.ref fI)) ∧ PySem.W.typeIn K (.ref fI) = some (.type "function") ∧ Binds K fd ["self", y] []
def tMkE (C : Addr) (f : Str) (G : V → Prop) (ta : TA) : L2.St → Hp → XK → Prop := fun σ H Q => ta σ H fun vs H1 => ∃ v, vs = [v] ∧ G v ∧ ∀ d, H1 d = none → Q (.ref C) (some d) (upd H1 d (.xd [(f, v)]))
section
variable {X : Cx} {e : Expr} {es : List Expr} {ta : TA} {x f y : Str} {C : Addr} {p p1 p2 pos pos2 : Pos} {k : Nat} {G : V → Prop}
def tWeak (ta : TA) : TA := fun σ H Q => ∃ R : List V → Hp → Prop, ta σ H R ∧ ∀ vs H1, R vs H1 → Q vs H1
theorem pa_weak {es : List Expr} (ha : PA X es ta) : PA X es (tWeak ta) := ⟨fun pos pins s σ H Q I ⟨R, h, m⟩ => thn (ha.run pos pins s σ H R I h) fun us s1 ⟨vs, H1, I1, r, q⟩ => ⟨vs, H1, I1, r, m vs H1 q⟩⟩
theorem pmk_err (T : Err X.prog X.w X.K X.mg X.base k C x f G y) (hr : Room (k + 1) X.A) (hg : Gl X x) (ha : PA X (e :: es) ta)
    (hdb : (x == ("__debug__" : Str)) = false := by decide) (he : starEach (e :: es) X.env = (false, eval e X.env) :: starEach es X.env := by rfl) (hpl : (backTo pos (starEach es X.env)).any (·.1) = false := by rfl) :
    PMk X (.Call (.Name x p) (e :: es) [] pos) (tMkE C f G ta) := by
  obtain ⟨E, hf, hm, fI, fd, F, hi, hty, hb⟩ := T
  intro pins s σ H Q I h
  refine pmk_oex E.ox hi hty F hr hb .nil pass0 hg hm (pa_weak ha) hdb he hpl pins s σ H Q I ⟨_, h, ?_⟩
  rintro vs H1 ⟨v, rfl, hG, q⟩
  refine ⟨by simp, fun a hn => ⟨a, v, rfl, hG, upd_same, fun dx hd ne => ?_⟩⟩
  have hd1 : H1 dx = none := by rw [upd_ne ne] at hd; exact hd
  refine ⟨rfl, dx, [(f, v)], upd_same, by rw [upd_ne ne, upd_same], hd1, ?_⟩
  rw [exm_same hn ne]
  exact q dx hd1
end
/-! ### isinstance of a caught error that has fields -/
section
open PySem.W PySem.Calls
theorem found_class {K : Frag} {D : Addr} {od : Option Obj} (T : ExcC K D) : findObj K D od "__class__" = some (.bind (.builtin "getset_descriptor.__get__") (.builtin "object.__class__")) := by
  obtain ⟨cd, hc, _⟩ := any_some T.hd
  have c : (clsIn K D).isSome = true := by rw [hc]; rfl
  cases od with
  | none => exact findObj_dataN c T.ha T.hn T.ht
  | some o => exact findObj_data c T.ha T.hn T.ht
theorem attr_class {prog : Program} {w : World} {A : Around} {E : Value → Shared → Prop} {s : Shared} {K : Frag} {x D : Addr} {ox : Obj} {od : Option Obj} {Q : Option Value → Shared → Prop} (T : ExcC K D) (X : K.In s.heap) (I : InstAt s.heap x ox D od)
    (h : Q (some (.ref D)) { s with toks := s.toks + 1 }) : wpAny (model prog w) A (getAttr? (.ref x) "__class__") Q E s := by
  obtain ⟨hp, g, d, t, os⟩ := s
  have L0 := I.type (M := model prog w)
  have L1 := looks_findIn (M := model prog w) X T.hg
  have L2 := looks_findIn (M := model prog w) X T.hk
  have L3 := looks_find (M := model prog w) X I (found_class T)
  have sub : Looks (model prog w) hp (isInstance (.ref x) (.type "BaseException")) true := L0.andThen (looks_subIn X T.hs)
  have n1 : (false && onTheHeap (Value.builtin "BaseException.__getattribute__")) = false := rfl
  have n2 : (onTheHeap (Value.ref D) && Value.builtin "BaseException.__getattribute__" == Value.builtin "object.__getattribute__") = false := by
    rw [show (Value.builtin "BaseException.__getattribute__" == Value.builtin "object.__getattribute__") = false by decide +kernel]; rfl
  unfold getAttr? getAttrBy? getAttrBy
  refine wpAny_bind (wpAny_mkText (wpAny_bind (wpAny_attempt (wpAny_holding (wpAny_bind (L0.at (wpAny_bind (L1.at ?_))))))))
  show wpAny _ _ (if (onTheHeap (Value.ref D) && Value.builtin "BaseException.__getattribute__" == Value.builtin "object.__getattribute__") = true then _ else _) _ _ _
  rw [n2, if_neg Bool.false_ne_true]
  unfold getAttrByItsOwn hookBefore
  refine wpAny_bind ?_
  rw [if_pos (show onTheHeap (Value.ref D) = true from rfl)]
  refine L2.at (wpAny_bind (wpAny_attempt (wpAny_holding ?_)))
  unfold callGetattribute
  rw [n1, if_neg Bool.false_ne_true]
  unfold boundAndCalled
  rw [PySem.F.excAttr_ValueError.ga.bind (.ref x)]
  refine wpAny_bind (wpAny_pure ?_)
  show wpAny _ _ (call (.builtin "BaseException.__getattribute__") [.ref x, .str "__class__" t]) _ _ _
  refine wpAny_call (codeAny_call_builtin PySem.F.excAttr_ValueError.ga.plain PySem.F.entry_bexc_ga ?_)
  refine @check_slot (model prog w) _ _ ⟨hp, g, d, t + 1, os⟩ "BaseException.__getattribute__" "BaseException" "__getattribute__" (.ref x) [.str "__class__" t] [] _ (by decide +kernel) (by decide +kernel) sub (PySem.F.args_bexc_ga (.ref x) (.str "__class__" t)) ?_
  unfold Builtin.«object.__getattribute__»
  refine wpAny_bind (wpAny_of_eq (a := ((Value.ref x : Value), [Value.str "__class__" t])) (by first | rfl | (simp only [slotArgs]; rfl)) ?_)
  refine wpAny_bind (wpAny_pure (wpAny_bind (L0.at (wpAny_bind (L3.at ?_)))))
  show wpAny _ _ (holding [Value.builtin "object.__class__"] (call (.builtin "getset_descriptor.__get__") [.builtin "object.__class__", .ref x, .ref D]) >>= ret) _ _ _
  refine wpAny_bind (wpAny_holding (wpAny_call (class_get (s := ⟨hp, g, d, t + 1, os⟩) (ox := ox) (od := od) X I T.hm (wpAny_pure ?_))))
  show wpAny _ _ (handedOut (.ref D)) _ _ _
  rw [handedOut_of (v := .ref D) rfl]
  first
    | exact wpAny_pure (wpAny_pure h)
    | exact wpAny_pure h
    | exact wpAny_pure (wpAny_bind (wpAny_pure (wpAny_pure h)))
theorem kit_err {K : Frag} {x D : Addr} {ox : Obj} {od : Option Obj} (T : ExcC K D) : KitX K (.ref x) (.ref D) (fun h => InstAt h x ox D od) := by
  obtain ⟨cd, hc, _⟩ := any_some T.hd
  unfold clsIn at hc
  split at hc
  · rename_i c' d' cd' sl' ho
    refine ⟨fun _ _ _ I => I.type, fun _ _ X _ => ?_, fun h tp dd its n sl X htp => ?_, fun X I k => attr_class T X I k⟩
    · intro A' Q' E' s' k q
      unfold isType loadHead
      exact wpAny_bind (wpAny_loadPart (k _ _ (X _ _ ho)) (wpAny_pure q))
    · refine Bool.eq_false_iff.mpr fun q => ?_
      have e : D = tp := Value.ref.inj (beq_iff_eq.mp q)
      subst e
      cases (X _ _ ho).symm.trans htp
  · cases hc
end
/-- isinstance(e, c), e the error that the suite holds -/
def rIsD (K : PySem.W.Frag) (a : Addr) (cls : Value) (d : Option Addr) : List V → Hp → VK → Prop := fun xs H Q => ∃ (D dd : Addr) (fs : List (Str × V)) (c : V) (cv : Value) (b : Bool), xs = [.ref a, c] ∧ cls = .ref D ∧ ExcC K D ∧ d = some dd ∧ H dd = some (.xd fs) ∧
  ClsV c cv ∧ PySem.W.kitOne K (.ref D) cv = some b ∧ Q (.bl b) H
theorem call_isD {X : Cx} {K : PySem.W.Frag} {a : Addr} {oe : Obj} {cls : Value} {d : Option Addr} {pn : List (Addr × Obj)} (eK : X.K = K) (hz : Zc cls d oe) (hf : ∃ vs, oe.data = .fields vs) : CallR (X.suite a ((a, oe) :: pn)) (.builtin "isinstance") (rIsD K a cls d) := by
  subst eK
  intro pins s σ H xs us Q I r h
  obtain ⟨D, dd, fs, c, cv, b, rfl, rfl, T, rfl, hd, hcv, e, q⟩ := h
  obtain ⟨u1, u2, rfl, r1, r2⟩ := vals2 r
  cases (show u1 = Value.ref a from r1)
  have ec := hcv.eq r2
  subst ec
  obtain ⟨hget, _⟩ := I.pin (a, oe) (List.mem_append.mpr (.inl List.mem_cons_self))
  obtain ⟨vs, hv⟩ := hf
  have hx : ObjOk X.prog X.w H s.heap dd (.xd fs) := I.hok dd _ hd
  obtain ⟨mA, hns, hr⟩ := hx
  obtain ⟨od, ho, hl⟩ := lookIn_ns hns
  have J : PySem.W.InstAt s.heap a oe D (some od) := ⟨hget, hz.1, by unfold PySem.W.notCls; rw [hv] <;> rfl, by rw [hz.2]; exact ho⟩
  exact PySem.W.kia_one (kit_err T) I.kIn J e (fun z => nomatch z) fun tk => ⟨.bl b, H, I.tok tk, rfl, q⟩
/-- a field of it -/
def tXfK (K : PySem.W.Frag) (a : Addr) (cls : Value) (d : Option Addr) (f : Str) (te : TE) : TE := fun σ H Q => te σ H fun x H1 => ∃ C : Addr, x = .ref a ∧ cls = .ref C ∧ XfC K C ∧ PySem.W.findIn K (.ref C) f = some none ∧ ∃ (dd : Addr) (fs : List (Str × V)) (v : V), d = some dd ∧ H1 dd = some (.xd fs) ∧ fs.lookup f = some v ∧ Q v H1
theorem pe_xfK {X : Cx} {K : PySem.W.Frag} {a : Addr} {oe : Obj} {cls : Value} {d : Option Addr} {pn : List (Addr × Obj)} {e : Expr} {te : TE} {pos : Pos} {n : Str} (eK : X.K = K) (hz : Zc cls d oe) (hf : ∃ vs, oe.data = .fields vs) (he : PE (X.suite a ((a, oe) :: pn)) e te)
    (hb : attributeBase e n X.env (eval e X.env) = eval e X.env := by rfl) : PE (X.suite a ((a, oe) :: pn)) (.Attribute e n pos) (tXfK K a cls d n te) := by
  subst eK
  refine ⟨fun pins s σ H Q I h => ?_⟩
  refine attr_of hb (thn (he.run pins s σ H _ I h) fun u s1 hh => ?_)
  obtain ⟨x, H1, I1, rx, C, ex, ec, T, hno, dd, fs, v, ed, ea, l, q⟩ := hh
  subst ex
  obtain rfl : u = Value.ref a := rx
  subst ec
  subst ed
  obtain ⟨ha, _⟩ := I1.pin (a, oe) (List.mem_append_left _ List.mem_cons_self)
  obtain ⟨vs, hd⟩ := hf
  have hx : ObjOk X.prog X.w H1 s1.heap dd (.xd fs) := I1.hok dd _ ea
  obtain ⟨mA, hns, hr⟩ := hx
  obtain ⟨od, ho, hl⟩ := lookIn_ns hns
  obtain ⟨u, hu, ru⟩ := RelO.some_of (v := v) (o := mA n) (by rw [← l]; exact hr n)
  have J : PySem.W.InstAt s1.heap a oe C (some od) := ⟨ha, hz.1, by unfold PySem.W.notCls; rw [hd] <;> rfl, by rw [hz.2]; exact ho⟩
  exact HandSPX.exc_get I1.kIn J T.ga T.gg T.exC (PySem.W.findObj_own T.hdC hno rfl (by rw [hl, hu])) (handed_of ru) ⟨v, H1, I1.tok _, ru, q⟩
/-! ### defs that may raise, their calls -/
def CalX (P : Program) (w : World) (K : PySem.W.Frag) (mg : Str → Option Value) (base : Heap) (k : Nat) (x : Str) (ps : List Str) (sp : Sp) : Prop :=
  ∃ (f : Addr) (fd : FuncData), FnOk P w K mg base (L2.CX P w) k f fd ps sp ∧ mg x = some (.ref f) ∧ PySem.W.keepIn K (.ref f) = true ∧ Binds K fd ps []
def MthX (P : Program) (w : World) (K : PySem.W.Frag) (mg : Str → Option Value) (base : Heap) (k : Nat) (C : Addr) (m : Str) (ps : List Str) (sp : Sp) : Prop :=
  ∃ (f : Addr) (fd : FuncData), FnOk P w K mg base (L2.CX P w) k f fd ps sp ∧ Meth K C m f ∧ PySem.W.keepIn K (.ref f) = true ∧ Binds K fd ps []
def tMethT (C : Addr) (m : Str) (sp : Sp) (E : L2.St → XK) (ta : TE) (t : TA) : TE := fun σ H Q => ta σ H fun x H1 => ∃ a dx fs, x = .ref a ∧ H1 a = some (.ins C dx fs) ∧ fs.lookup m = none ∧ t σ H1 fun vs H2 => sp (x :: vs) H2 Q (E σ)
section
variable {X : Cx} {o e : Expr} {es : List Expr} {t : TA} {ta : TE} {x m : Str} {p pos apos : Pos} {ps : List Str} {sp : Sp} {k : Nat} {C : Addr} {W : WX}
theorem pc_callT (F : CalX X.prog X.w X.K X.mg X.base k x ps sp) (tk : Takes X W) (hr : Room k X.A) (hg : Gl X x) (ha : PA X (e :: es) t)
    (hdb : (x == ("__debug__" : Str)) = false := by decide) (he : starEach (e :: es) X.env = (false, eval e X.env) :: starEach es X.env := by rfl) (hpl : (backTo pos (starEach es X.env)).any (·.1) = false := by rfl) :
    PE X (.Call (.Name x p) (e :: es) [] pos) (tCallS sp (WE W) t) := by
  obtain ⟨f, fd, F, hm, hk, hb⟩ := F
  exact pe_callS F hr hg hm hk hb (fun σ => passAt tk σ) ha hdb he hpl
theorem pc_methT {pl : Sem Bool} (he : PE X o ta) (c : Cls X.K C) (M : MthX X.prog X.w X.K X.mg X.base k C m ps sp) (tk : Takes X W) (hr : Room k X.A) (ha : PA X (e :: es) t)
    (hst : starEach (e :: es) X.env = (false, eval e X.env) :: starEach es X.env := by rfl) (hpl : (backTo pos (starEach es X.env)).any (·.1) = false := by rfl)
    (ht : eval (.Call (.Attribute o m apos) (e :: es) [] pos) X.env = (do
      let ov ← eval o X.env
      standAt apos.atName
      let (f, first) ← holding [ov] (getMethod ov m pl)
      callWith pos f first (backTo pos (starEach (e :: es) X.env)) (backToKw pos (keywordEach [] X.env))) := by rfl) :
    PE X (.Call (.Attribute o m apos) (e :: es) [] pos) (tMethT C m sp (WE W) ta t) := by
  obtain ⟨f, fd, F, hm, hk, hb⟩ := M
  refine ⟨fun pins s σ H Q I h => ?_⟩
  refine PySem.W.methodCall_KW (pl := pl) (thn (he.run pins s σ H _ I h) fun u s1 ⟨x, H1, I1, rx, a, dx, fs, ex, ea, l, q⟩ => ?_) ht
  subst ex
  obtain rfl : u = Value.ref a := rx
  refine getmeth_ok I1 ea c hm l ?_
  refine PySem.W.callWith_K (first := [.ref a]) (h₀ := X.base) I.ok.mod.kin hm.kp (thn (ha.run pos pins s1 σ H1 _ I1 q) fun us s2 ⟨vs, H2, I2, r, q2⟩ => ⟨I2.kIn, ?_⟩) hst hpl
  exact run_fnS (us := .ref a :: us) (vs := .ref a :: vs) F hr hb (passAt tk σ) I2 (.cons rfl r) q2
theorem i_CallT {σ : L2.St} {H : Hp} {Q : VK} {E : L2.St → XK} (q : t σ H fun vs H1 => sp vs H1 Q (E σ)) : tCallS sp E t σ H Q := q
theorem i_MethT {σ : L2.St} {H : Hp} {Q : VK} {E : L2.St → XK} (q : ta σ H fun x H1 => ∃ a dx fs, x = .ref a ∧ H1 a = some (.ins C dx fs) ∧ fs.lookup m = none ∧ t σ H1 fun vs H2 => sp (x :: vs) H2 Q (E σ)) : tMethT C m sp E ta t σ H Q := q
theorem i_MkE {σ : L2.St} {H : Hp} {Q : XK} {f : Str} {G : V → Prop} (q : t σ H fun vs H1 => ∃ v, vs = [v] ∧ G v ∧ ∀ d, H1 d = none → Q (.ref C) (some d) (upd H1 d (.xd [(f, v)]))) : tMkE C f G t σ H Q := q
theorem i_Ost {K : PySem.W.Frag} {to te : TE} {f : Str} {D : Ends} {σ : L2.St} {H : Hp} (q : te σ H fun y H1 => to σ H1 fun x H2 => ∃ a C : Addr, x = .ref a ∧ OexC K C ∧ PySem.W.findIn K (.ref C) f = some none ∧
  ((H2 a = some (exo a C none) ∧ ∀ dx, H2 dx = none → dx ≠ a → D.nx σ (upd (upd H2 dx (exd dx [(f, y)])) a (exo a C (some dx)))) ∨
    ∃ (dx : Addr) (fs : List (Str × V)), H2 a = some (exo a C (some dx)) ∧ H2 dx = some (exd dx fs) ∧ fs.length ≤ 900 ∧ D.nx σ (upd H2 dx (exd dx ((f, y) :: fs))))) : tOst K f to te D σ H := q
theorem i_VeI {K : PySem.W.Frag} {σ : L2.St} {H : Hp} {Q : VK} (q : t σ H fun vs H1 => ∃ (a C : Addr) (ws : List V), vs = .ref a :: ws ∧ ws.length ≤ 1000 ∧ OexC K C ∧ H1 a = some (exo a C none) ∧ Q .non H1) : tVeI K t σ H Q := q
end
end GT

/-! ## methods without arguments that may raise -/
namespace GT
open PySem PySem.Spec PyProof.Rows L2
def tMethT0 (C : Addr) (m : Str) (sp : Sp) (E : L2.St → XK) (ta : TE) : TE := fun σ H Q => ta σ H fun x H1 => ∃ a dx fs, x = .ref a ∧ H1 a = some (.ins C dx fs) ∧ fs.lookup m = none ∧ sp [x] H1 Q (E σ)
section
variable {X : Cx} {o : Expr} {ta : TE} {m : Str} {pos apos : Pos} {ps : List Str} {sp : Sp} {k : Nat} {C : Addr} {W : WX}
theorem pc_methT0 {pl : Sem Bool} (he : PE X o ta) (c : Cls X.K C) (M : MthX X.prog X.w X.K X.mg X.base k C m ps sp) (tk : Takes X W) (hr : Room k X.A)
    (ht : eval (.Call (.Attribute o m apos) [] [] pos) X.env = (do
      let ov ← eval o X.env
      standAt apos.atName
      let (f, first) ← holding [ov] (getMethod ov m pl)
      callWith pos f first (backTo pos (starEach [] X.env)) (backToKw pos (keywordEach [] X.env))) := by rfl) :
    PE X (.Call (.Attribute o m apos) [] [] pos) (tMethT0 C m sp (WE W) ta) := by
  obtain ⟨f, fd, F, hm, hk, hb⟩ := M
  refine ⟨fun pins s σ H Q I h => ?_⟩
  refine PySem.W.methodCall_KW (pl := pl) (thn (he.run pins s σ H _ I h) fun u s1 hh => ?_) ht
  obtain ⟨x, H1, I1, rx, a, dx, fs, ex, ea, l, q⟩ := hh
  subst ex
  obtain rfl : u = Value.ref a := rx
  refine getmeth_ok I1 ea c hm l ?_
  refine PySem.W.callWith_K0 (first := [.ref a]) I1.kIn hm.kp ?_
  exact run_fnS (us := [.ref a]) (vs := [.ref a]) F hr hb (passAt tk σ) I1 (.cons rfl .nil) q
theorem i_MethT0 {σ : L2.St} {H : Hp} {Q : VK} {E : L2.St → XK} (q : ta σ H fun x H1 => ∃ a dx fs, x = .ref a ∧ H1 a = some (.ins C dx fs) ∧ fs.lookup m = none ∧ sp [x] H1 Q (E σ)) : tMethT0 C m sp E ta σ H Q := q
/-- a call without arguments -/
theorem pc_call0 {x : Str} {p : Pos} (C : Cal X.prog X.w X.K X.mg X.base k x ps sp) (hr : Room k X.A) (hg : Gl X x) (hdb : (x == ("__debug__" : Str)) = false := by decide) : PE X (.Call (.Name x p) [] [] pos) (tCall sp [] E0 tNil) := by
  obtain ⟨f, fd, F, hm, hk, hb⟩ := C
  exact pe_call0 F hr hg hm hk hb .nil pass0 hdb
/-- slices where X.K is told by an equation -/
theorem sl_listK {K : PySem.W.Frag} (e : X.K = K) : SlR X (rSlL K) := by subst e; exact sl_list
end
/-! ### what may raise, where it is known not to -/
def calm (sp : Sp) : Sp := fun vs H Q _ => sp vs H Q E0
section
variable {P : Program} {w : World} {K : PySem.W.Frag} {mg : Str → Option Value} {base : Heap} {k : Nat} {f C : Addr} {fd : FuncData} {ps : List Str} {sp : Sp} {x m : Str}
theorem fn_calm (F : FnOk P w K mg base (L2.CX P w) k f fd ps sp) : FnOk P w K mg base CX0 k f fd ps (calm sp) := by
  refine ⟨fun vs H Q E h => F.len vs H Q E0 h, fun A outer s H args us vs Q E hr he hb hv hs => codeAny_mono (F.run A outer s H args us vs Q E0 hr he hb hv hs) fun fin s' h => ?_⟩
  match fin, h with
  | .error e, h =>
    obtain ⟨_, _, _, _, _, _, _, _, _, _, _, _, z⟩ := h
    exact z.elim
  | .ok (.ret _), h => exact h
  | .ok .next, h => exact h
  | .ok .brk, h => exact h
  | .ok .cont, h => exact h
theorem CalX.calm (C : CalX P w K mg base k x ps sp) : Cal P w K mg base k x ps (calm sp) := by
  obtain ⟨f, fd, F, h⟩ := C
  exact ⟨f, fd, fn_calm F, h⟩
theorem MthX.calm (M : MthX P w K mg base k C m ps sp) : Mth P w K mg base k C m ps (GT.calm sp) := by
  obtain ⟨f, fd, F, h⟩ := M
  exact ⟨f, fd, fn_calm F, h⟩
end
end GT

/-! ## defs that are called where no repr is under way (repr of lists and tuples asks for that) -/
namespace GT
open PySem PySem.Spec PyProof.Rows L2
/-- as FnOk, where no guard is on the stack -/
structure FnG (P : Program) (w : World) (K : PySem.W.Frag) (mg : Str → Option Value) (base : Heap) (CX : CXT) (k : Nat) (f : Addr) (fd : FuncData) (ps : List Str) (sp : Sp) : Prop where
  len : ∀ vs H Q E, sp vs H Q E → vs.length = ps.length
  run : ∀ (A : Around) (outer : List Env) (s : Shared) (H : Hp) (args : Args) (us : List Value) (vs : List V) (Q : VK) (E : XK), Room k A → A.guards = some [] → Env0 P w K mg base A outer s H → BindsTo s fd args (ps.zip us) → Vals vs us → sp vs H Q E →
    codeAny (model P w) A (.call (.ref f) args) (CR CX outer P w H s Q E) s
section
variable {P : Program} {w : World} {K : PySem.W.Frag} {mg : Str → Option Value} {base : Heap} {x qual : Str} {params : Arguments} {body : List Stmt} {scope : Scope} {dvs : List V} {kws : List (Str × V)} {f : Addr} {fd : FuncData}
/-- how such a def is proved: the body where no guard stands -/
theorem FunD.okG {CX : CXT} {N ps : List Str} {k : Nat} {sp : Sp} (F : FunD K x qual params body scope dvs kws f fd) (S : FnScope N ps scope) (len : ∀ vs H Q E, sp vs H Q E → vs.length = ps.length)
    (hbody : ∀ (cdv : Value) (A : Around) (outer : List Env) (s : Shared) (H : Hp) (vs : List V) (Q : VK) (E : XK), Room k (A.deeper (envOfC qual scope s.heap.objs.size f cdv)) → (cxOf CX P w K mg base N qual scope f cdv A outer s H E).A.guards = some [] → sp vs H Q E →
      ∃ t, PSs (cxOf CX P w K mg base N qual scope f cdv A outer s H E) body t ∧ t { nx := fun _ H' => Q .non H', rt := Q } (start N vs) H) : FnG P w K mg base CX (k + 1) f fd ps sp := by
  obtain ⟨oc, od, dV, kV, doc, pm, an, cdv, ct, osl, rfl, lk, hcd, _, _⟩ := F.ex
  refine ⟨len, fun A outer s H args us vs Q E hr hA e0 hb r hsp => ?_⟩
  have KX : K.In s.heap := e0.mod.kin.keeps fun b o e => (e0.bs b o e).1
  have bound : ∀ y ∈ ps.zip us, scope.names.lookup y.1 = some .local ∨ (scope.names.lookup y.1 = some .cell ∧ ((cellsFrom (s.heap.objs.size + 1) scope.names []).lookup y.1).isSome = true) := fun y hy =>
    (S.par y.1 (List.of_mem_zip (a := y.1) (b := y.2) hy).1).imp id fun q => ⟨q, PySem.W.cellsFrom_some _ _ _ (.inl q)⟩
  refine codeAny_call_function hr.depth (KX _ _ lk) rfl S.co S.gen rfl (PySem.W.codeRec_of KX hcd) (hb _ _ _ _ (wpAny_newFunctionEnv_cells S.kind bound fun env he s1 hx => ?_))
  subst he
  refine ⟨(e0.mod.nolimit.keeps fun b o e => (e0.bs b o e).1).keeps hx.toInCall.keep, codeAny_func ?_⟩
  obtain ⟨t, ht, hq⟩ := hbody cdv A outer s H vs Q E (hr.deeper _) hA hsp
  refine wpAny_mono (ht.run [] s1 (start N vs) H _ (inv_start S hr.hd e0 (len _ _ _ _ hsp) r hx) hq) (fun fl s' hs => ?_) fun _ _ z => z
  match fl, hs with
  | .ret _, ⟨v, _, H', J, rv, q⟩ => exact ⟨v, H', J.os, J.bare, J.base, J.hok, rv, q⟩
  | .next, ⟨_, H', J, q⟩ => exact ⟨.non, H', J.os, J.bare, J.base, J.hok, rfl, q⟩
  | .brk, ⟨_, _, _, q⟩ => exact q.elim
  | .cont, ⟨_, _, _, q⟩ => exact q.elim
end
/-- the name x is such a def, which raises nothing -/
def CalG (P : Program) (w : World) (K : PySem.W.Frag) (mg : Str → Option Value) (base : Heap) (k : Nat) (x : Str) (ps : List Str) (sp : Sp) : Prop :=
  ∃ (f : Addr) (fd : FuncData), FnG P w K mg base CX0 k f fd ps sp ∧ mg x = some (.ref f) ∧ PySem.W.keepIn K (.ref f) = true ∧ Binds K fd ps []
section
variable {X : Cx} {e : Expr} {es : List Expr} {t : TA} {x : Str} {p pos : Pos} {ps : List Str} {sp : Sp} {k : Nat}
theorem pc_callG (C : CalG X.prog X.w X.K X.mg X.base k x ps sp) (hG : X.A.guards = some []) (hr : Room k X.A) (hg : Gl X x) (ha : PA X (e :: es) t)
    (hdb : (x == ("__debug__" : Str)) = false := by decide) (he : starEach (e :: es) X.env = (false, eval e X.env) :: starEach es X.env := by rfl) (hpl : (backTo pos (starEach es X.env)).any (·.1) = false := by rfl) :
    PE X (.Call (.Name x p) (e :: es) [] pos) (tCall sp [] E0 t) := by
  obtain ⟨f, fd, F, hm, hk, hb⟩ := C
  refine ⟨fun pins s σ H Q I h => ?_⟩
  refine wpAny_Call_Name_kw (ld_glob I hg hm ?_ hdb)
  refine PySem.W.callWith_K (h₀ := X.base) I.ok.mod.kin hk (thn (ha.run pos pins s σ H _ I h) fun us s1 ⟨vs, H1, I1, r, q⟩ => ⟨I1.kIn, ?_⟩) he hpl
  have q1 : sp vs H1 Q E0 := by
    have q2 : sp (vs ++ []) H1 Q E0 := q
    rw [List.append_nil] at q2; exact q2
  have hl : us.length = ps.length := by rw [← r.length]; exact F.len _ _ _ _ q1
  have b := hb s1 us I1.kIn (by rw [List.append_nil]; exact hl)
  rw [List.append_nil] at b
  refine wpAny_call (codeAny_mono (F.run X.A X.stack s1 H1 ⟨us, []⟩ us vs Q E0 hr hG I1.env0 b r q1) fun fin s' hq => ?_)
  match fin, hq with
  | .error _, z => exact z.elim
  | .ok (.ret _), z => exact I1.after z
  | .ok .next, z => exact z.elim
  | .ok .brk, z => exact z.elim
  | .ok .cont, z => exact z.elim
end
/-! ### the end: the law is such a def -/
section
/-- the script's list, and nothing else, told of -/
def scriptHp (a : Addr) (o : Obj) (ns : List Int) : Hp := fun b => if b = a then some (.frz o (.lst (ns.map V.int))) else none
theorem law_callG {P : Program} {w : World} {K : PySem.W.Frag} {mg mb : Str → Option Value} {k : Nat} {fa a : Addr} {fd : FuncData} {x : Str} {sp : Sp} {s₁ : Shared} {vs : List Value} {ns : List Int}
    (KX : K.In s₁.heap) (hns : s₁.heap.Ns mainGlobals mg) (hb : s₁.heap.Ns builtinsNs mb) (hbb : ∀ x : Str, x ≠ "__name__" → mb x = bootBuiltins x) (hlim : s₁.heap.NoLimit) (hg : s₁.gens = #[])
    (ha : s₁.heap.get? a = some { cls := .type "list", data := .seq vs.toArray }) (hi : IntsAre vs ns) (hl : ns.length ≤ sizeLine) (hr : Room k callerA)
    (F : ∀ base : Heap, K.In base → base.Ns mainGlobals mg → FnG P w K mg base CX0 k fa fd [x] sp) (hbind : ∀ (s : Shared) (u : Value), BindsTo s fd ⟨[u], []⟩ [(x, u)])
    (hsp : ∀ H : Hp, Only H → SqL K H a (ns.map V.int) → sp [.ref a] H (fun v _ => v = .bl true) fun _ _ _ => False) :
    codeAny (model P w) callerA (.call (.ref fa) ⟨[.ref a], []⟩) (fun r s' => r = .ok (.ret (.bool true)) ∧ OldK s₁.heap s'.heap ∧ s'.os = s₁.os ∧ AllBare s'.gens) s₁ := by
  have lv := hi.length
  -- H: what is told of the heap; it says of a at most
  suffices go : ∃ H : Hp, Only H ∧ SqL K H a (ns.map V.int) ∧ HOk P w H s₁.heap ∧ (∀ b, H b ≠ none → b = a) ∧ (H a ≠ none → K.lookup a = none) by
    obtain ⟨H, hO, hS, hok, hA, hK⟩ := go
    have free : ∀ {b : Addr}, b ≠ a → H b = none := fun {b} n => Classical.byContradiction fun z => n (hA b z)
    have nsB : ∀ {b : Addr} {m : Str → Option Value}, s₁.heap.Ns b m → (hidT s₁.heap H).Ns b m := fun {b m} ⟨o, es, ep, e, d, r⟩ => by
      refine ⟨o, es, ep, hidT_get e (free fun z => ?_), d, r⟩
      rw [z, ha] at e
      cases e
      cases d
    have KB : K.In (hidT s₁.heap H) := fun b o e => hidT_get (KX b o e) (by
      by_cases c : b = a
      · refine Classical.byContradiction fun z => ?_
        rw [c] at z e
        rw [hK z] at e
        cases e
      · exact free c)
    obtain ⟨mc, l1, l2⟩ := hlim
    have e0 : Env0 P w K mg (hidT s₁.heap H) callerA [] s₁ H := ⟨rfl, ⟨KB, nsB hns, ⟨mb, nsB hb, hbb⟩, ⟨mc, nsB l1, l2⟩⟩, fun b o e => of_hidT e, Nat.le_of_eq (hidT_size _ _), trivial, fun b z => absurd (show b ∈ ([] : List Addr) from z) (by simp), hok, .of_eq hg⟩
    refine codeAny_mono ((F _ KB (nsB hns)).run callerA [] s₁ H ⟨[.ref a], []⟩ [.ref a] [.ref a] _ _ hr rfl e0 (hbind s₁ (.ref a)) (.cons rfl .nil) (hsp H hO hS)) fun r s' h => ?_
    match r, h with
    | .error _, z => exact z.elim
    | .ok .next, z => exact z.elim
    | .ok .brk, z => exact z.elim
    | .ok .cont, z => exact z.elim
    | .ok (.ret u), ⟨v, H', os, bare, un, hok', r', q⟩ =>
      have ev : v = .bl true := q
      subst ev
      obtain rfl : u = Value.bool true := r'
      refine ⟨rfl, OldK.of_keep fun b o e => ?_, os, bare⟩
      rcases hO b with n | ⟨ob, xs, n⟩
      · exact un.keep b o e n (by intro z; exact absurd (show b ∈ ([] : List Addr) from z) (by simp)) (by simp)
      · obtain ⟨e1, _⟩ := hok b _ n
        obtain ⟨e2, _⟩ := hok' b _ (un.frzs b ob _ n)
        rw [e] at e1
        cases e1
        exact e2
  have rv := vals_ints hi
  by_cases hk : K.lookup a = none
  · refine ⟨scriptHp a { cls := .type "list", data := .seq vs.toArray } ns, fun b => ?_, .inl (.inr ⟨_, if_pos rfl⟩), fun b u z => ?_, fun b z => ?_, fun _ => hk⟩
    · by_cases c : b = a
      · exact .inr ⟨_, _, if_pos c⟩
      · exact .inl (if_neg c)
    · by_cases c : b = a
      · subst c
        cases (if_pos rfl).symm.trans z
        exact ⟨ha, by rw [List.length_map]; exact hl, vs, _, rv, ha⟩
      · cases (if_neg c).symm.trans z
    · exact Classical.byContradiction fun c => z (if_neg c)
  · obtain ⟨o, e⟩ := Option.ne_none_iff_exists'.mp hk
    cases ha.symm.trans (KX a o e)
    exact ⟨fun _ => none, fun _ => .inl rfl, .inr ⟨_, vs.toArray, _, e, rfl, rfl, rfl, by rw [List.size_toArray, lv]; exact hl, by simpa using rv⟩, fun b u z => (by cases z), fun b z => absurd rfl z, fun z => absurd rfl z⟩
theorem walk_ofG {l : PySem.W.OpenLaw} {n k : Nat} {q : Program} {loose : List Str} {XP : (Str → Option Value) → Heap → Prop} {YP : World → Heap → Prop} {d : DefRec} {x : Str}
    (hn : l.most = some n) (hn2 : n ≤ sizeLine) (hdf : d.params.defaults = []) (hr : Room k callerA)
    (F : ∀ (w : World) (mg : Str → Option Value) (fa : Addr) (h : Heap), YP w h → h.Ns mainGlobals mg → mg d.name = some (.ref fa) →
      ∃ (K : PySem.W.Frag) (fd : FuncData) (sp : Sp), K.In h ∧ (∀ (s : Shared) (u : Value), BindsTo s fd ⟨[u], []⟩ [(x, u)]) ∧
        (∀ (H : Hp) (a : Addr) (ns : List Int), ns.length ≤ n → Only H → SqL K H a (ns.map V.int) → sp [.ref a] H (fun v _ => v = .bl true) fun _ _ _ => False) ∧
        ∀ base : Heap, K.In base → base.Ns mainGlobals mg → FnG l.prog w K mg base CX0 k fa fd [x] sp) : PySem.W.WalkO q loose XP YP l.row.toRowW d [] (fun f vs => PySem.call f vs) := by
  refine Att.attach_call hn hdf fun w s₀ s₁ mg mb fa o pm cd doc a vs ns G Y ho hd hcd hmg hobj hints hlen hg => ?_
  obtain ⟨K, fd, sp, KX, hb, hsp, hF⟩ := F w mg fa _ Y G.T.g hmg
  exact law_callG KX G.T.g G.T.b G.T.builtins G.T.nolimit hg hobj hints (Nat.le_trans hlen hn2) hr hF hb fun H hO hS => hsp H a ns hlen hO hS
end
end GT

/-! ## repr of data -/
namespace GT
open PySem PySem.Spec PyProof.Rows L2
mutual
theorem DtIs.readsX {h : Heap} : ∀ (d : Dt) (v : Value), DtIs h d v → ∃ as, Reads h v d.py as
  | .non, _, r => by cases r; exact ⟨_, .none⟩
  | .bl _, _, r => by cases r; exact ⟨_, .bool _⟩
  | .num _, _, r => by cases r; exact ⟨_, .int _ _⟩
  | .txt _, _, r => by cases r; exact ⟨_, .str _ _⟩
  | .tup ds, _, r => by
    cases r with
    | tup h1 h2 =>
      obtain ⟨o, e, c, n, dd⟩ := h1
      obtain ⟨as, q⟩ := DtAll.readsX ds _ h2
      exact ⟨_, .tuple e c dd q⟩
  | .lst ds, _, r => by
    cases r with
    | lst h1 h2 =>
      obtain ⟨o, e, c, n, dd⟩ := h1
      obtain ⟨as, q⟩ := DtAll.readsX ds _ h2
      exact ⟨_, .list e c dd q⟩
theorem DtAll.readsX {h : Heap} : ∀ (ds : List Dt) (vs : List Value), DtAll h ds vs → ∃ as, ReadsAll h vs (Dt.pys ds) as
  | [], _, r => by cases r; exact ⟨_, .nil⟩
  | d :: ds, _, r => by
    cases r with
    | cons r1 r2 =>
      obtain ⟨as, q1⟩ := DtIs.readsX d _ r1
      obtain ⟨bs, q2⟩ := DtAll.readsX ds _ r2
      exact ⟨_, .cons q1 q2⟩
end
mutual
theorem Dt.noDict : ∀ d : Dt, d.py.hasDict = false
  | .non => by simp [Dt.py, PyData.hasDict]
  | .bl _ => by simp [Dt.py, PyData.hasDict]
  | .num _ => by simp [Dt.py, PyData.hasDict]
  | .txt _ => by simp [Dt.py, PyData.hasDict]
  | .tup ds => by simp only [Dt.py, PyData.hasDict]; exact Dt.noDicts ds
  | .lst ds => by simp only [Dt.py, PyData.hasDict]; exact Dt.noDicts ds
theorem Dt.noDicts : ∀ ds : List Dt, PyData.hasDictAll (Dt.pys ds) = false
  | [] => by simp [Dt.pys, PyData.hasDictAll]
  | d :: ds => by simp only [Dt.pys, PyData.hasDictAll, Dt.noDict d, Dt.noDicts ds, Bool.or_self]
end
/-- what repr tells of data -/
def Dt.shown (d : Dt) : Str := d.py.shown
/-- numbers not too long, and the text not either -/
def Dt.Shows (d : Dt) : Prop := d.py.showable = true ∧ d.shown.length ≤ sizeLine ∧ d.depth ≤ 60
section
variable {X : Cx} {K : PySem.W.Frag}
def rRepr (K : PySem.W.Frag) : List V → Hp → VK → Prop := fun xs H Q => ∃ (x : V) (d : Dt), xs = [x] ∧ DtAt K H x d ∧ d.Shows ∧ Q (.str d.shown) H
theorem call_repr (eK : X.K = K) (hG : X.A.guards = some []) (hu : X.A.units + 64 < cLine) : CallR X (.builtin "repr") (rRepr K) := by
  subst eK
  intro pins s σ H xs us Q I r h
  obtain ⟨x, d, rfl, hd, ⟨hs, hz, hdp⟩, q⟩ := h
  obtain ⟨u, rfl, rx⟩ := vals1 r
  have hx := DtAt.is I d x u hd rx
  obtain ⟨as, rd⟩ := DtIs.readsX d u hx
  have fin : ∀ (h' : Heap) (t : Tok) (tk : Nat), (∀ b o, s.heap.get? b = some o → h'.get? b = some o) → EP X pins σ Q (.str d.shown t) { heap := h', gens := s.gens, drawn := s.drawn, toks := tk, os := s.os } := fun h' t tk k =>
    ⟨.str d.shown, H, I.kept (t' := tk) k, ⟨t, rfl⟩, q⟩
  cases hx with
  | non => exact PySem.P.repr_of_none (fin _ _ _ fun _ _ z => z)
  | bl b => exact PySem.P.repr_of_bool (fin _ _ _ fun _ _ z => z)
  | num i t => exact PySem.P.repr_of_int (by simpa [Dt.py, PyData.showable] using hs) (fin _ _ _ fun _ _ z => z)
  | txt z t => exact PySem.P.repr_of_str (fin _ _ _ fun _ _ z => z) (by simpa [Dt.shown, Dt.py, PyData.shown] using hz)
  | tup h1 h2 => exact repr_of_reads' (h₀ := s.heap) rd hs (fun z => by rw [Dt.noDict] at z; cases z) hG (by rw [Dt.py_depth]; omega) (fun _ _ z => z) (fun h' t tk k => fin h' t tk k) hz
  | lst h1 h2 => exact repr_of_reads' (h₀ := s.heap) rd hs (fun z => by rw [Dt.noDict] at z; cases z) hG (by rw [Dt.py_depth]; omega) (fun _ _ z => z) (fun h' t tk k => fin h' t tk k) hz
end
end GT

/-! ## del xs[a:], a at least 0 -/
namespace GT
open PySem PySem.Spec PyProof.Rows L2
section
variable {prog : Program} {w : World} {A : Around} {E : Value → Shared → Prop} {s : Shared}
theorem bounds_from (a n : Nat) : sliceBounds (some (a : Int)) none none n = (((min a n : Nat) : Int), (n : Int), 1) := by
  simp only [sliceBounds, Option.getD_none]
  have h1 : ¬ ((a : Int) < 0) := by omega
  simp only [h1, if_false, show (1 : Int) > 0 by decide, if_true]
  refine Prod.ext ?_ rfl
  show max (0 : Int) (min (a : Int) (n : Int)) = ((min a n : Nat) : Int)
  omega
theorem zip_keep2 {α : Type} (f : α × Nat → Option α) (a : Nat) : ∀ (l : List α) (i : Nat), (∀ x k, i ≤ k → k < i + l.length → f (x, k) = if a ≤ k then none else some x) → (l.zipIdx i).filterMap f = l.take (a - i)
  | [], i, _ => by simp
  | x :: l, i, hf => by
    rw [List.zipIdx_cons, List.filterMap_cons, hf x i (Nat.le_refl _) (by simp)]
    have ih := zip_keep2 f a l (i + 1) fun y k h1 h2 => hf y k (by omega) (by simp only [List.length_cons]; omega)
    by_cases c : a ≤ i
    · rw [if_pos c, ih, show a - (i + 1) = 0 by omega, show a - i = 0 by omega]; rfl
    · rw [if_neg c, ih, show a - i = (a - (i + 1)) + 1 by omega]; rfl
set_option maxRecDepth 100000 in
theorem delItem_from {l sl : Addr} {items : Array Value} {n a : Nat} {vl : Value} {Q : Unit → Shared → Prop} (e : s.heap.get? l = some { cls := .type "list", data := .seq items n })
    (hs : s.heap.IsSliceOf sl vl .none .none) (pl : IsPart vl (some (a : Int))) (hsz : items.size ≤ sizeLine)
    (h : ∀ f : Array Value → Array Value, f items = (items.toList.take a).toArray → Q () { s with heap := s.heap.update l (Obj.mapSeq f) }) : wpAny (model prog w) A (delItem (.ref l) (.ref sl)) Q E s := by
  have hl : s.heap.IsList l items := PySem.IsL.isList e
  obtain ⟨os, hos, hcs, hds⟩ := id hs
  have hTs : s.TypeIs (.ref sl) "slice" := ⟨os, hos, hcs⟩
  refine wpAny_delItem_slot hl.typeIs (by decide) F.slot_list_delitem (wpAny_call_entry F.slot_list_delitem hl.typeIs F.entry_list_delitem ?_ (F.args_list_delitem_2 _ _))
  show wpAny _ _ (Builtin.List.listSubscript? (.ref sl) >>= _) _ _ s
  refine wpAny_bind ?_
  unfold Builtin.List.listSubscript?
  refine wpAny_bind (wpAny_specialOf hTs slice_no_index ?_)
  simp only [Option.isNone_none, if_true]
  refine wpAny_pure ?_
  show wpAny _ _ (typeOf (.ref sl) >>= _) _ _ s
  refine wpAny_bind (wpAny_typeOf hTs ?_)
  rw [if_neg (by decide), listSliceParts_eq]
  refine wpAny_bind (wpAny_bind (wpAny_field hos hds (x := .none) rfl (wpAny_bind (wpAny_listPart .none ?_))))
  rw [if_neg (show ¬ ((rawPart none == rawInt 0) = true) from Bool.false_ne_true)]
  refine wpAny_bind (wpAny_field hos hds (x := vl) rfl (wpAny_bind (wpAny_listPart pl ?_)))
  refine wpAny_bind (wpAny_field hos hds (x := .none) rfl (wpAny_bind (wpAny_listPart .none (wpAny_pure ?_))))
  unfold Builtin.List.listItems
  refine wpAny_bind (wpAny_bind (wpAny_seqItems e rfl (wpAny_pure ?_)))
  refine wpAny_bind (wpAny_of_eq ((sliceIndices_raw (some (a : Int)) none none items.size (by simp)).trans (congrArg (pure : Int × Int × Int → Sem (Int × Int × Int)) (bounds_from a items.size))) ?_)
  refine wpAny_bind (wpAny_rule ?_)
  have key : ∀ f : Array Value → Array Value, (∃ g : Value × Nat → Option Value, (∀ x k, g (x, k) = if (if (1 : Int) > 0 then decide (((min a items.size : Nat) : Int) ≤ (k : Int)) && decide ((k : Int) < (items.size : Int)) && (((k : Int) - ((min a items.size : Nat) : Int)) % 1 == 0) else decide ((items.size : Int) < (k : Int)) && decide ((k : Int) ≤ ((min a items.size : Nat) : Int)) && ((((min a items.size : Nat) : Int) - (k : Int)) % (-1) == 0)) = true then none else some x) ∧ ∀ xs, f xs = (xs.toList.zipIdx.filterMap g).toArray) → f items = (items.toList.take a).toArray := by
    rintro f ⟨g, hg, hf⟩
    rw [hf]
    have hk : ∀ x k, k < items.size → g (x, k) = if min a items.size ≤ k then none else some x := fun x k hk => by
      rw [hg, if_pos (show (1 : Int) > 0 by decide), Int.emod_one]
      by_cases c : min a items.size ≤ k
      · rw [if_pos c, if_pos]
        simp only [Bool.and_eq_true, decide_eq_true_eq, beq_self_eq_true, and_true]
        omega
      · rw [if_neg c, if_neg]
        simp only [Bool.and_eq_true, decide_eq_true_eq, beq_self_eq_true, and_true]
        omega
    rw [zip_keep2 g (min a items.size) items.toList 0 (fun x k h1 h2 => hk x k (by simpa using h2))]
    congr 1
    rw [Nat.sub_zero]
    by_cases c : a ≤ items.size
    · rw [Nat.min_eq_left c]
    · rw [Nat.min_eq_right (by omega), List.take_of_length_le (by simp), List.take_of_length_le (by simp; omega)]
  refine wpAny_bind (wpAny_updateSeq (hz := hsz) (_hz' := ?z) e rfl (wpAny_bind (wpAny_letGo (wpAny_pure ⟨.none, rfl, h _ (key _ ⟨_, fun x k => rfl, fun xs => rfl⟩)⟩))))
  refine Nat.le_trans ?_ (Nat.le_succ_of_le hsz)
  rw [List.size_toArray]
  refine Nat.le_trans (List.length_filterMap_le _ _) ?_
  simp
end
section
variable {X : Cx}
def tDelF (to te : TE) : TS := fun D σ H => to σ H fun x H1 => te σ H1 fun y H2 => ∃ (l : Addr) (xs : List V) (a : Nat), x = .ref l ∧ y = .int (a : Nat) ∧ H2 l = some (.lst xs) ∧ D.nx σ (upd H2 l (.lst (xs.take a)))
theorem ps_delF {o e : Expr} {to te : TE} {tpos pos p2 : Pos} (ho : PE X o to) (he : PE X e te) : PS X (.Delete [.Subscript o (.Slice (some e) none none p2) tpos] pos) (tDelF to te) := by
  refine ⟨fun pins s σ H D I h => ?_⟩
  refine wpAny_Delete (wpAny_deleteEach_cons (wpAny_delete_Subscript (thn (ho.run pins s σ H _ I h) fun u s1 ⟨x, H1, I1, rx, q1⟩ => wpAny_Slice ?_)))
  rw [evalPart_some]
  refine thn (he.run pins s1 σ H1 _ I1 q1) fun vl s2 ⟨y, H2, I2, ry, l, xs, a, ex, ey, hH, q⟩ => ?_
  subst ex
  subst ey
  cases (show u = Value.ref l from rx)
  obtain ⟨t, rfl⟩ := (show ∃ t, vl = Value.int (a : Nat) t from ry)
  rw [evalPart_none]
  refine wpAny_pure ?_
  refine wpAny_pure ?_
  have I4 : Inv X pins σ H2 { s2 with heap := s2.heap.push { cls := .type "slice", data := .fields #[.int (a : Nat) t, .none, .none] } } := I2.kept (t' := s2.toks) fun b ob q => Heap.get?_push_of_some _ q
  obtain ⟨z, its, n, r, hl, e⟩ := I4.lstM hH
  refine delItem_from e (Heap.IsSliceOf.new ..) (.int _ _) (by rw [List.size_toArray]; omega) fun f hf => ?_
  refine wpAny_deleteEach_nil ⟨σ, _, ?_, q⟩
  refine I4.lset (its' := its.take a) (t' := s2.toks) hH e hf (r.take _) ?_
  rw [List.length_take]
  omega
end
end GT

/-! ## errors whose text shows a tuple: made where no guard stands -/
namespace GT
open PySem PySem.Spec PyProof.Rows L2
theorem make_guards {A : Around} {C : Addr} {us : List Value} {kw : List (Str × Value)} : (A.under (.builtin "type.__call__" ⟨.ref C :: us, kw⟩)).guards = A.guards := by
  first | rfl | simp [Around.under, Code.guards, Code.isGuard, pushGuards, guardIds]
/-- an f-string's part: data -/
def tFmtD (K : PySem.W.Frag) (te : TE) : TE := fun σ H Q => te σ H fun x H1 => ∃ (a : Addr) (d : Dt), x = .ref a ∧ DtAt K H1 x d ∧ d.Shows ∧ Q (.str d.shown) H1
section
variable {X : Cx} {e : Expr} {es : List Expr} {te : TE} {ta : TA} {x f y : Str} {C : Addr} {p pos apos : Pos} {k : Nat} {G : V → Prop} {o : Expr} {to : TE} {m : Str} {ps : List Str} {sp : Sp} {W : WX}
theorem pe_fmtD {K : PySem.W.Frag} (eK : X.K = K) (hG : X.A.guards = some []) (hu : X.A.units + 64 < cLine) (he : PE X e te) : PE X (.FormattedValue e (-1) none pos) (tFmtD K te) := by
  subst eK
  refine ⟨fun pins s σ H Q I h => ?_⟩
  refine wpAny_FormattedValue_plain (thn (he.run pins s σ H _ I h) fun v s1 hv => ?_)
  obtain ⟨x, H1, I1, r1, a, d, rfl, hd, ⟨hs, hz, hdp⟩, q⟩ := hv
  obtain rfl : v = Value.ref a := r1
  have hx := DtAt.is I1 d _ _ hd rfl
  obtain ⟨as, rd⟩ := DtIs.readsX d _ hx
  exact formatField_of_reads (h₀ := s1.heap) rd hs (fun z => by rw [Dt.noDict] at z; cases z) hG (by rw [Dt.py_depth]; omega) (fun _ _ z => z) (fun h' t tk kp => ⟨.str d.shown, H1, I1.kept (t' := tk) kp, ⟨t, rfl⟩, q⟩) hz
/-- the class x, at C, whose __init__ needs no guard above -/
def ErrG (P : Program) (w : World) (K : PySem.W.Frag) (mg : Str → Option Value) (base : Heap) (k : Nat) (C : Addr) (x : Str) (f : Str) (H : Hp → V → Prop) (y : Str) : Prop :=
  ErrC K C ∧ PySem.W.findIn K (.ref C) f = some none ∧ mg x = some (.ref C) ∧ ∃ (fI : Addr) (fd : FuncData), FnG P w K mg base CX0 k fI fd ["self", y]
      (fun vs H1 Q _ => ∃ (a : Addr) (v : V), vs = [.ref a, v] ∧ H H1 v ∧ H1 a = some (exo a C none) ∧ ∀ dx, H1 dx = none → dx ≠ a → Q .non (upd (upd H1 dx (exd dx [(f, v)])) a (exo a C (some dx)))) ∧
    PySem.W.findIn K (.ref C) "__init__" = some (some (.ref fI)) ∧ PySem.W.typeIn K (.ref fI) = some (.type "function") ∧ Binds K fd ["self", y] []
def tMkG (C : Addr) (f : Str) (G : Hp → V → Prop) (ta : TA) : L2.St → Hp → XK → Prop := fun σ H Q => ta σ H fun vs H1 => ∃ v, vs = [v] ∧ (∀ H2, Stp [] H1 H2 → G H2 v) ∧ ∀ d, H1 d = none → Q (.ref C) (some d) (upd H1 d (.xd [(f, v)]))
theorem pmk_errG {G : Hp → V → Prop} (T : ErrG X.prog X.w X.K X.mg X.base k C x f G y) (hG : X.A.guards = some []) (hr : Room (k + 1) X.A) (hg : Gl X x) (ha : PA X (e :: es) ta)
    (hdb : (x == ("__debug__" : Str)) = false := by decide) (he : starEach (e :: es) X.env = (false, eval e X.env) :: starEach es X.env := by rfl) (hpl : (backTo pos (starEach es X.env)).any (·.1) = false := by rfl) :
    PMk X (.Call (.Name x p) (e :: es) [] pos) (tMkG C f G ta) := by
  obtain ⟨E, hf, hm, fI, fd, F1, iC, tI, hb⟩ := T
  intro pins s σ H Q I h
  obtain ⟨nm, q, N, bs, bm, sn, sub, ab, col, dd, k0, k1, k2, k3, k5, hC, hbm⟩ := E.ox.cls
  refine wpAny_Call_Name_kw (ld_glob I hg hm ?_ hdb)
  refine PySem.W.callWith_K (h₀ := X.base) I.ok.mod.kin E.ox.kC (thn (ha.run pos pins s σ H _ I h) fun us s1 ⟨vs, H1, I1, r1, v, ev, hGv, q1⟩ => ⟨I1.kIn, ?_⟩) he hpl
  subst ev
  obtain ⟨u, rfl, ru⟩ := vals1 r1
  show wpAny _ _ (call (.ref C) [u]) _ _ _
  obtain ⟨hp, g, dr, tk, os⟩ := s1
  -- the new exception stands behind its arguments' tuple
  have hsz : hp.objs.size ≤ hp.objs.size + 1 := Nat.le_succ _
  have hn : H1 (hp.objs.size + 1) = none := I1.hok.fresh hsz
  have kk : ∀ b o, hp.get? b = some o → ((hp.push (PySem.W.kdv_tup [u])).push (PySem.HandSPX.excO C hp.objs.size)).get? b = some o := fun b o e => Heap.get?_push_of_some _ (Heap.get?_push_of_some _ e)
  have hget : ((hp.push (PySem.W.kdv_tup [u])).push (PySem.HandSPX.excO C hp.objs.size)).get? (hp.objs.size + 1) = some (PySem.HandSPX.excO C hp.objs.size) := by heap_get
  have I2 : Inv X pins σ (upd H1 (hp.objs.size + 1) (exo (hp.objs.size + 1) C none)) ⟨(hp.push (PySem.W.kdv_tup [u])).push (PySem.HandSPX.excO C hp.objs.size), g, dr, tk, os⟩ :=
    I1.laid (t' := tk) (a := hp.objs.size + 1) (o := exo (hp.objs.size + 1) C none) (h' := (hp.push (PySem.W.kdv_tup [u])).push (PySem.HandSPX.excO C hp.objs.size)) kk hsz (exo_ok hget)
  have r2 : Vals [V.ref (hp.objs.size + 1), v] [Value.ref (hp.objs.size + 1), u] := .cons rfl (.cons ru .nil)
  refine wpAny_call (PySem.HandSPX.call_own F.excBase_ValueError (fun Y => PySem.HandSPX.refsVE_contains Y bm hbm) (I1.kIn _ _ hC) (PySem.W.looks_findIn I1.kIn iC) (fun self => PySem.W.bind_fn I1.kIn self tI) (by rw [sizeLine_eq]; simp)
    (codeAny_mono (F1.run _ X.stack _ _ ⟨Value.ref (hp.objs.size + 1) :: [u], []⟩ [Value.ref (hp.objs.size + 1), u] _
      (fun v' H2 => v' = .non ∧ ∃ (d : Addr) (fs : List (Str × V)), H2 (hp.objs.size + 1) = some (exo (hp.objs.size + 1) C (some d)) ∧ H2 d = some (exd d fs) ∧ H1 d = none ∧ Q (.ref C) (some d) (upd (del H2 (hp.objs.size + 1)) d (.xd fs))) (fun _ _ _ => False)
      (hr.make C [u] []) (by rw [make_guards]; exact hG) (I2.env0.make C [u] []) (by have z := hb _ (Value.ref (hp.objs.size + 1) :: [u]) I2.kIn rfl; simpa using z) r2
      ⟨hp.objs.size + 1, v, rfl, hGv _ (.new hn), upd_same, fun dx hd ne => ?_⟩) fun r s' hq' => ?_))
  · have hd1 : H1 dx = none := by rw [upd_ne ne] at hd; exact hd
    refine ⟨rfl, dx, [(f, v)], upd_same, by rw [upd_ne ne, upd_same], hd1, ?_⟩
    rw [exm_same hn ne]
    exact q1 dx hd1
  · match r, hq' with
    | .error er, z => exact z.elim
    | .ok .next, z => exact z.elim
    | .ok .brk, z => exact z.elim
    | .ok .cont, z => exact z.elim
    | .ok (.ret u'), ⟨v', H2, os2, bare2, un2, hok2, rv, ev, d, fs, ea, ed, hd1, q2⟩ =>
      subst ev
      obtain ⟨h2, g2, d2, t2, os'⟩ := s'
      exact ⟨rv, mk_end (raises_own E.ox.exC E.ox.tyC) I1 hsz kk un2 hok2 os2 bare2 ea ed hd1 q2⟩
end
/-! ### defs that may raise, where no guard stands; their calls -/
def CalXG (P : Program) (w : World) (K : PySem.W.Frag) (mg : Str → Option Value) (base : Heap) (k : Nat) (x : Str) (ps : List Str) (sp : Sp) : Prop :=
  ∃ (f : Addr) (fd : FuncData), FnG P w K mg base (L2.CX P w) k f fd ps sp ∧ mg x = some (.ref f) ∧ PySem.W.keepIn K (.ref f) = true ∧ Binds K fd ps []
def MthXG (P : Program) (w : World) (K : PySem.W.Frag) (mg : Str → Option Value) (base : Heap) (k : Nat) (C : Addr) (m : Str) (ps : List Str) (sp : Sp) : Prop :=
  ∃ (f : Addr) (fd : FuncData), FnG P w K mg base (L2.CX P w) k f fd ps sp ∧ Meth K C m f ∧ PySem.W.keepIn K (.ref f) = true ∧ Binds K fd ps []
section
variable {X : Cx} {o e : Expr} {es : List Expr} {t : TA} {ta : TE} {x m : Str} {p pos apos : Pos} {ps : List Str} {sp : Sp} {k : Nat} {C f : Addr} {fd : FuncData} {W : WX} {E : L2.St → XK}
theorem run_fnG {CX : CXT} {pins : List (Addr × Obj)} {σ : L2.St} {H : Hp} {s : Shared} {Q : VK} {us : List Value} {vs : List V} (F : FnG X.prog X.w X.K X.mg X.base CX k f fd ps sp) (hG : X.A.guards = some []) (hr : Room k X.A) (hb : Binds X.K fd ps []) (hx : PassesAt CX X σ (E σ))
    (I : Inv X pins σ H s) (r : Vals vs us) (h : sp vs H Q (E σ)) : wpAny (model X.prog X.w) X.A (call (.ref f) us) (EP X pins σ Q) X.xe s := by
  have hl : us.length = ps.length := by rw [← r.length]; exact F.len _ _ _ _ h
  have b := hb s us I.kIn (by rw [List.append_nil]; exact hl)
  rw [List.append_nil] at b
  refine wpAny_call (codeAny_mono (F.run X.A X.stack s H ⟨us, []⟩ us vs Q (E σ) hr hG I.env0 b r h) fun fin s' hq => ?_)
  match fin, hq with
  | .error e, z => exact hx pins H s e s' I z
  | .ok (.ret _), z => exact I.after z
  | .ok .next, z => exact z.elim
  | .ok .brk, z => exact z.elim
  | .ok .cont, z => exact z.elim
theorem pc_callTG (F : CalXG X.prog X.w X.K X.mg X.base k x ps sp) (tk : Takes X W) (hG : X.A.guards = some []) (hr : Room k X.A) (hg : Gl X x) (ha : PA X (e :: es) t)
    (hdb : (x == ("__debug__" : Str)) = false := by decide) (he : starEach (e :: es) X.env = (false, eval e X.env) :: starEach es X.env := by rfl) (hpl : (backTo pos (starEach es X.env)).any (·.1) = false := by rfl) :
    PE X (.Call (.Name x p) (e :: es) [] pos) (tCallS sp (WE W) t) := by
  obtain ⟨f, fd, F, hm, hk, hb⟩ := F
  refine ⟨fun pins s σ H Q I h => ?_⟩
  refine wpAny_Call_Name_kw (ld_glob I hg hm ?_ hdb)
  refine PySem.W.callWith_K (h₀ := X.base) I.ok.mod.kin hk (thn (ha.run pos pins s σ H _ I h) fun us s1 ⟨vs, H1, I1, r, q⟩ => ⟨I1.kIn, ?_⟩) he hpl
  exact run_fnG F hG hr hb (passAt tk σ) I1 r q
theorem pc_methTG {pl : Sem Bool} (he : PE X o ta) (c : Cls X.K C) (M : MthXG X.prog X.w X.K X.mg X.base k C m ps sp) (tk : Takes X W) (hG : X.A.guards = some []) (hr : Room k X.A) (ha : PA X (e :: es) t)
    (hst : starEach (e :: es) X.env = (false, eval e X.env) :: starEach es X.env := by rfl) (hpl : (backTo pos (starEach es X.env)).any (·.1) = false := by rfl)
    (ht : eval (.Call (.Attribute o m apos) (e :: es) [] pos) X.env = (do
      let ov ← eval o X.env
      standAt apos.atName
      let (f, first) ← holding [ov] (getMethod ov m pl)
      callWith pos f first (backTo pos (starEach (e :: es) X.env)) (backToKw pos (keywordEach [] X.env))) := by rfl) :
    PE X (.Call (.Attribute o m apos) (e :: es) [] pos) (tMethT C m sp (WE W) ta t) := by
  obtain ⟨f, fd, F, hm, hk, hb⟩ := M
  refine ⟨fun pins s σ H Q I h => ?_⟩
  refine PySem.W.methodCall_KW (pl := pl) (thn (he.run pins s σ H _ I h) fun u s1 ⟨x, H1, I1, rx, a, dx, fs, ex, ea, l, q⟩ => ?_) ht
  subst ex
  obtain rfl : u = Value.ref a := rx
  refine getmeth_ok I1 ea c hm l ?_
  refine PySem.W.callWith_K (first := [.ref a]) (h₀ := X.base) I.ok.mod.kin hm.kp (thn (ha.run pos pins s1 σ H1 _ I1 q) fun us s2 ⟨vs, H2, I2, r, q2⟩ => ⟨I2.kIn, ?_⟩) hst hpl
  exact run_fnG (us := .ref a :: us) (vs := .ref a :: vs) F hG hr hb (passAt tk σ) I2 (.cons rfl r) q2
theorem i_MkG {σ : L2.St} {H : Hp} {Q : XK} {f : Str} {G : Hp → V → Prop} (q : t σ H fun vs H1 => ∃ v, vs = [v] ∧ (∀ H2, Stp [] H1 H2 → G H2 v) ∧ ∀ d, H1 d = none → Q (.ref C) (some d) (upd H1 d (.xd [(f, v)]))) : tMkG C f G t σ H Q := q
end
end GT

/-! ## methods where no guard stands; list.remove of data -/
namespace GT
open PySem PySem.Spec PyProof.Rows L2
def MthG (P : Program) (w : World) (K : PySem.W.Frag) (mg : Str → Option Value) (base : Heap) (k : Nat) (C : Addr) (m : Str) (ps : List Str) (sp : Sp) : Prop :=
  ∃ (f : Addr) (fd : FuncData), FnG P w K mg base CX0 k f fd ps sp ∧ Meth K C m f ∧ PySem.W.keepIn K (.ref f) = true ∧ Binds K fd ps []
section
variable {X : Cx} {o e : Expr} {es : List Expr} {t : TA} {ta : TE} {x m : Str} {p pos apos : Pos} {ps : List Str} {sp : Sp} {k : Nat} {C : Addr}
theorem pc_methG {pl : Sem Bool} (he : PE X o ta) (c : Cls X.K C) (M : MthG X.prog X.w X.K X.mg X.base k C m ps sp) (hG : X.A.guards = some []) (hr : Room k X.A) (ha : PA X (e :: es) t)
    (hst : starEach (e :: es) X.env = (false, eval e X.env) :: starEach es X.env := by rfl) (hpl : (backTo pos (starEach es X.env)).any (·.1) = false := by rfl)
    (ht : eval (.Call (.Attribute o m apos) (e :: es) [] pos) X.env = (do
      let ov ← eval o X.env
      standAt apos.atName
      let (f, first) ← holding [ov] (getMethod ov m pl)
      callWith pos f first (backTo pos (starEach (e :: es) X.env)) (backToKw pos (keywordEach [] X.env))) := by rfl) :
    PE X (.Call (.Attribute o m apos) (e :: es) [] pos) (tMeth C m sp [] E0 ta t) := by
  obtain ⟨f, fd, F, hm, hk, hb⟩ := M
  refine ⟨fun pins s σ H Q I h => ?_⟩
  refine PySem.W.methodCall_KW (pl := pl) (thn (he.run pins s σ H _ I h) fun u s1 ⟨x, H1, I1, rx, a, dx, fs, ex, ea, l, q⟩ => ?_) ht
  subst ex
  obtain rfl : u = Value.ref a := rx
  refine getmeth_ok I1 ea c hm l ?_
  refine PySem.W.callWith_K (first := [.ref a]) (h₀ := X.base) I.ok.mod.kin hm.kp (thn (ha.run pos pins s1 σ H1 _ I1 q) fun us s2 ⟨vs, H2, I2, r, q2⟩ => ⟨I2.kIn, ?_⟩) hst hpl
  have q3 : sp (.ref a :: vs) H2 Q E0 := by
    have z : sp (.ref a :: (vs ++ [])) H2 Q E0 := q2
    rwa [List.append_nil] at z
  exact run_fnG (CX := CX0) (E := fun _ => E0) (us := .ref a :: us) (vs := .ref a :: vs) F hG hr hb (fun _ _ _ _ _ _ h => h.elim) I2 (.cons rfl r) q3
theorem pc_meth0G {pl : Sem Bool} (he : PE X o ta) (c : Cls X.K C) (M : MthG X.prog X.w X.K X.mg X.base k C m ps sp) (hG : X.A.guards = some []) (hr : Room k X.A)
    (ht : eval (.Call (.Attribute o m apos) [] [] pos) X.env = (do
      let ov ← eval o X.env
      standAt apos.atName
      let (f, first) ← holding [ov] (getMethod ov m pl)
      callWith pos f first (backTo pos (starEach [] X.env)) (backToKw pos (keywordEach [] X.env))) := by rfl) :
    PE X (.Call (.Attribute o m apos) [] [] pos) (tMeth C m sp [] E0 ta tNil) := by
  obtain ⟨f, fd, F, hm, hk, hb⟩ := M
  refine ⟨fun pins s σ H Q I h => ?_⟩
  refine PySem.W.methodCall_KW (pl := pl) (thn (he.run pins s σ H _ I h) fun u s1 hh => ?_) ht
  obtain ⟨x, H1, I1, rx, a, dx, fs, ex, ea, l, q⟩ := hh
  subst ex
  obtain rfl : u = Value.ref a := rx
  refine getmeth_ok I1 ea c hm l ?_
  refine PySem.W.callWith_K0 (first := [.ref a]) I1.kIn hm.kp ?_
  exact run_fnG (CX := CX0) (E := fun _ => E0) (us := [.ref a]) (vs := [.ref a]) F hG hr hb (fun _ _ _ _ _ _ h => h.elim) I1 (.cons rfl .nil) q
end
section
variable {P : Program} {w : World} {K : PySem.W.Frag} {mg : Str → Option Value} {base : Heap} {k : Nat} {f C : Addr} {fd : FuncData} {ps : List Str} {sp : Sp} {x m : Str}
theorem fnG_calm (F : FnG P w K mg base (L2.CX P w) k f fd ps sp) : FnG P w K mg base CX0 k f fd ps (calm sp) := by
  refine ⟨fun vs H Q E h => F.len vs H Q E0 h, fun A outer s H args us vs Q E hr hA he hb hv hs => codeAny_mono (F.run A outer s H args us vs Q E0 hr hA he hb hv hs) fun fin s' h => ?_⟩
  match fin, h with
  | .error e, h =>
    obtain ⟨_, _, _, _, _, _, _, _, _, _, _, _, z⟩ := h
    exact z.elim
  | .ok (.ret _), h => exact h
  | .ok .next, h => exact h
  | .ok .brk, h => exact h
  | .ok .cont, h => exact h
theorem CalXG.calm (C : CalXG P w K mg base k x ps sp) : CalG P w K mg base k x ps (GT.calm sp) := by
  obtain ⟨f, fd, F, h⟩ := C
  exact ⟨f, fd, fnG_calm F, h⟩
theorem MthXG.calm (M : MthXG P w K mg base k C m ps sp) : MthG P w K mg base k C m ps (GT.calm sp) := by
  obtain ⟨f, fd, F, h⟩ := M
  exact ⟨f, fd, fnG_calm F, h⟩
end
section
variable {X : Cx} {K : PySem.W.Frag}
def rRemT (K : PySem.W.Frag) : V → List V → Hp → VK → Prop := fun x xs H Q => ∃ (l : Addr) (vs : List V) (y : V) (d : Dt) (ds : List Dt) (j : Nat) (z : Dt), x = .ref l ∧ xs = [y] ∧ H l = some (.lst vs) ∧ DtsAt K H vs ds ∧ DtAt K H y d ∧ d.depth ≤ 60 ∧ Dt.depthAll ds ≤ 60 ∧
  ds[j]? = some z ∧ Dt.beq z d = true ∧ (∀ (m : Nat) (z' : Dt), m < j → ds[m]? = some z' → Dt.beq z' d = false) ∧ Q .non (upd H l (.lst (vs.eraseIdx j)))
theorem mt_removeT (eK : X.K = K) (hu : X.A.units + 65 < cLine) : MtM X "list.remove" (rRemT K) := by
  subst eK
  intro pins s σ H x xs v us Q I rx rxs h
  obtain ⟨l, vs, y, d, ds, j, z, rfl, rfl, hH, ha, hy, hd1, hd2, hz, hzj, hno, q⟩ := h
  cases rx
  obtain ⟨u, rfl, ru⟩ := rxs.one
  have r1 := DtAt.is I d y u hy ru
  obtain ⟨zz, its, n, r, hl, e⟩ := I.lstM hH
  have h4 := DtsAt.is I ds _ its ha r
  have hn := h4.len
  obtain ⟨hjd, _⟩ := List.getElem?_eq_some_iff.mp hz
  have hjl : j < its.length := by omega
  have hj : j < its.toArray.size := by simpa using hjl
  have hvl := r.length
  have hsl := sizeLine_eq
  have at_ : ∀ (m : Nat) (hm : m < its.toArray.size) (z' : Dt), ds[m]? = some z' → datOf s.heap its.toArray[m] = z' := by
    intro m hm z' hz'
    have hml : m < its.length := by simpa using hm
    obtain ⟨d', h5, h6⟩ := h4.get (List.getElem?_eq_getElem hml)
    rw [hz'] at h5
    obtain rfl := Option.some.inj h5
    exact datOf_eq (by simpa using h6)
  refine call_meets PySem.F.slot_list_remove ⟨_, e, rfl⟩ PySem.F.entry_list_remove (PySem.F.args_list_remove_2 _ _)
    (SeqAt.list_removeAt l its.toArray n none #[] u (fun u => Dt.beq (datOf s.heap u) d) j hj ?_ ?_ (by rw [List.size_toArray]; omega)) ⟨e, ?_, ?_⟩
  · show Dt.beq (datOf s.heap its.toArray[j]) d = true
    rw [at_ j hj z hz]
    exact hzj
  · intro m hm hmj
    have hmd : m < ds.length := by have : m < its.length := by simpa using hm
                                   omega
    have hz' : ds[m]? = some ds[m] := List.getElem?_eq_getElem hmd
    show Dt.beq (datOf s.heap its.toArray[m]) d = false
    rw [at_ m hm _ hz']
    exact hno m _ hmj hz'
  · intro w hw
    obtain ⟨c, hc, rc⟩ := DtAll.mem h4 (by simpa using hw)
    show SeqAt.EqAt _ _ _ _ (Dt.beq (datOf s.heap w) d)
    rw [datOf_eq rc]
    have hc2 := Dt.depth_mem hc
    exact eqAt_dt c d _ s _ _ rc r1 (by first | (rw [Around.in1_units, Around.in1_units]; omega) | (rw [Around.in1_units]; omega) | omega)
  · have rr := r.eraseIdx j
    refine ⟨.non, _, I.lset (its' := its.eraseIdx j) (t' := s.toks) hH e ?_ rr ?_, rfl, q⟩
    · show its.toArray.eraseIdxIfInBounds j = (its.eraseIdx j).toArray
      rw [List.eraseIdxIfInBounds_toArray]
    · have z2 := len_erase vs j
      omega
end
end GT

/-! ## list(reversed(list)); == of dicts whose values are lists -/
namespace GT
open PySem PySem.Spec PyProof.Rows L2 RT
section
variable {prog : Program} {w : World} {A : Around} {E : Value → Shared → Prop} {s : Shared}
set_option maxRecDepth 100000 in
theorem extend_rev {R : Result → Shared → Prop} (hh : A.handled = none) {it l S : Addr} {items : Array Value} (res : Value) (c₀ : Nat) (hit : s.heap.IsRevIter it l ((items.size : Int) - 1)) (hl : s.heap.IsList l items) (hne : l ≠ it) (hSi : S ≠ it) (hSl : S ≠ l) (hn : items.size ≤ sizeLine)
    (hS : s.heap.get? S = some { cls := .type "list", data := .seq #[] c₀ })
    (hR : ∀ h' tk acc' c', (∀ b o, b ≠ S → b ≠ it → s.heap.get? b = some o → h'.get? b = some o) → h'.get? S = some { cls := .type "list", dict := none, data := .seq acc' c', slots := #[] } →
      ItemsOf (fun i v => items[items.size - 1 - i]? = some v) acc' items.size → R (.ok (.ret res)) { s with heap := h', toks := tk }) :
    wpAny (model prog w) A.in1 (Builtin.List.listExtendWith (.ref S) (.ref it) res)
      (fun fin s' => match fin with | .done f => R (.ok f) s' | .again c' => c'.quiet = true ∧ codeAny (model prog w) A c' R s') (fun e s' => R (.error e) s') s := by
  have W := (Walks.listRev (prog := prog) (w := w) (A := A.in1) hh it l hne items).toS
  have hSf : S ∉ [it, l] := by simp only [List.mem_cons, List.not_mem_nil, or_false, not_or]; exact ⟨hSi, hSl⟩
  have hT : s.TypeIs (.ref it) "list_reverseiterator" := hit.typeIs
  have h1 : Builtin.List.listSameRef (.ref S) (.ref it) = false := by simp [Builtin.List.listSameRef, hSi]
  unfold Builtin.List.listExtendWith
  refine wpAny_bind (wpAny_typeOf hT ?_)
  rw [if_neg (by rw [h1]; decide)]
  refine wpAny_bind (wpAny_pyIter_revIter hit ?_)
  refine wpAny_bind (wpAny_holding ?_)
  unfold Builtin.List.listLengthHint
  refine wpAny_bind (wpAny_specialOf hT nolen_lri ?_)
  show wpAny _ A.in1 (specialOf (Value.ref it) (Str.ofString "__length_hint__") >>= _) _ _ _
  refine wpAny_bind (wpAny_specialOf hT hint_lri ?_)
  generalize hid : ("list_reverseiterator.__length_hint__" : String) = id0
  wp_delta
  rw [show splitId id0 = some ("list_reverseiterator", "__length_hint__") from by subst hid; decide +kernel]
  subst hid
  refine wpAny_bind (wpAny_isInstance (b := true) hT (by rw [isSubtype_type]; kernel_rfl) ?_)
  refine wpAny_pure ?_
  rw [if_neg (by decide)]
  have e0 : ((items.size : Nat) : Int) - 1 - ((0 : Nat) : Int) = (items.size : Int) - 1 := by omega
  refine wpAny_pure ⟨plainId_quiet F.plain_extend_loop _, codeAny_extend_loopS W hn _ hSf _ items.size 0 _ _ _ rfl (Nat.zero_le _) ⟨Nat.zero_le _, by rw [e0]; exact hit, hl⟩ hS (ItemsOf.nil _) fun s' acc' c' hm hS' hacc => ?_⟩
  rw [Moved.eq_with hm]
  refine hR s'.heap s'.toks acc' c' (fun b ob hb hb2 e => hm.heap b ob (fun hmem => ?_) e) hS' hacc
  rcases List.mem_cons.mp hmem with e' | hmem
  · exact hb e'
  · exact hb2 (List.mem_singleton.mp hmem)
theorem list_init_rev {R : Result → Shared → Prop} (hh : A.handled = none) {it l S : Addr} {items : Array Value} (hit : s.heap.IsRevIter it l ((items.size : Int) - 1)) (hl : s.heap.IsList l items) (hne : l ≠ it) (hSi : S ≠ it) (hSl : S ≠ l) (hn : items.size ≤ sizeLine)
    (hS : s.heap.get? S = some { cls := .type "list", data := .seq #[] })
    (hR : ∀ h' tk acc' c', (∀ b o, b ≠ S → b ≠ it → s.heap.get? b = some o → h'.get? b = some o) → h'.get? S = some { cls := .type "list", dict := none, data := .seq acc' c', slots := #[] } →
      ItemsOf (fun i v => items[items.size - 1 - i]? = some v) acc' items.size → R (.ok (.ret .none)) { s with heap := h', toks := tk }) :
    wpAny (model prog w) A.in1 (Builtin.«list.__init__» ⟨[.ref S, .ref it], []⟩)
      (fun fin s' => match fin with | .done f => R (.ok f) s' | .again c' => c'.quiet = true ∧ codeAny (model prog w) A c' R s') (fun e s' => R (.error e) s') s := by
  show wpAny _ _ (do let old ← Builtin.List.listItems (.ref S); Builtin.List.listUpdate (.ref S) (fun _ => #[]); letGo old.toList.reverse; Builtin.List.listExtendWith (.ref S) (.ref it) .none) _ _ s
  refine wpAny_bind ?_
  unfold Builtin.List.listItems
  refine wpAny_bind (wpAny_seqItems hS rfl (wpAny_pure ?_))
  show wpAny _ _ (updateSeq S (fun _ => #[]) >>= fun _ => letGo (#[] : Array Value).toList.reverse >>= fun _ => Builtin.List.listExtendWith (.ref S) (.ref it) .none) _ _ s
  refine wpAny_bind (wpAny_updateSeq hS rfl ?_)
  have hS₂ := Heap.get?_update_self (Obj.mapSeq (fun _ => (#[] : Array Value))) hS rfl
  have oth : ∀ b o, b ≠ S → s.heap.get? b = some o → (s.heap.update S (Obj.mapSeq (fun _ => (#[] : Array Value)))).get? b = some o :=
    fun b o hb e => (Heap.get?_update_other _ _ (Ne.symm hb)).trans e
  refine wpAny_bind (wpAny_letGo ?_)
  obtain ⟨ol, hol, hlr⟩ := id hl
  refine extend_rev (hn := hn) hh .none _ (hit.at fun o e => oth it o hSi.symm e) ⟨ol, oth l ol hSl.symm hol, hlr⟩ hne hSi hSl hS₂ fun h' tk acc' c' hk hS' hacc => ?_
  exact hR h' tk acc' c' (fun b o hb hb2 e => hk b o hb hb2 (oth b o hb e)) hS' hacc
theorem call_list_rev {it l : Addr} {items : Array Value} {Q : Value → Shared → Prop} (hh : A.handled = none) (hit : s.heap.IsRevIter it l ((items.size : Int) - 1)) (hl : s.heap.IsList l items) (hne : l ≠ it) (hn : items.size ≤ sizeLine)
    (hQ : ∀ h' tk acc' c', (∀ b o, b ≠ it → s.heap.get? b = some o → h'.get? b = some o) →
      h'.get? s.heap.objs.size = some { cls := .type "list", dict := none, data := .seq acc' c', slots := #[] } → ItemsOf (fun i v => items[items.size - 1 - i]? = some v) acc' items.size → Q (.ref s.heap.objs.size) { s with heap := h', toks := tk }) :
    wpAny (model prog w) A (call (.type "list") [.ref it]) Q E s := by
  obtain ⟨oi, hoi, _⟩ := id hit
  obtain ⟨ol, hol, _⟩ := id hl
  refine callType_codes (Q₁ := fun obj s₁ => obj = .ref s.heap.objs.size ∧ s₁ = { s with heap := s.heap.push { cls := .type "list", data := .seq #[] } }) F.called_list (F.typeCall_list_1 _) F.entry_list_init
    (code_list_new _ ⟨rfl, rfl⟩) fun obj s₁ h₁ => ?_
  obtain ⟨rfl, rfl⟩ := h₁
  have hS : (s.heap.push { cls := .type "list", data := .seq #[] }).get? s.heap.objs.size = some { cls := .type "list", data := .seq #[] } := Heap.get?_push_size _ rfl
  refine ⟨⟨_, hS, rfl⟩, F.args_list_init_2 _ _, list_init_rev (A := A.in1) (hn := hn) hh (hit.at fun o e => Heap.get?_push_of_some _ e) (hl.push _) hne (Nat.ne_of_gt (Heap.lt_size hoi)) (Nat.ne_of_gt (Heap.lt_size hol)) hS fun h' tk acc' c' hk hS' hacc => ?_⟩
  exact ⟨rfl, hQ h' tk acc' c' (fun b o hb e => hk b o (Nat.ne_of_lt (Heap.lt_size e)) hb (Heap.get?_push_of_some _ e)) hS' hacc⟩
end
/-- list(reversed(x)), x a list: a new list -/
def tListRev (K : PySem.W.Frag) (te : TE) : TE := fun σ H Q => te σ H fun v H1 => ∃ (a : Addr) (xs : List V), v = .ref a ∧ SqL K H1 a xs ∧ ∀ q, H1 q = none → Q (.ref q) (upd H1 q (.lst xs.reverse))
section
variable {X : Cx}
theorem pe_listRev {e : Expr} {te : TE} {p p2 pos pos2 : Pos} (hc : X.calm = true) (hg : Gl X "list") (hm : X.mg "list" = none) (hg2 : Gl X "reversed") (hm2 : X.mg "reversed" = none) (he : PE X e te)
    (hs : starEach [e] X.env = (false, eval e X.env) :: starEach [] X.env := by rfl)
    (hs2 : starEach [.Call (.Name "reversed" p2) [e] [] pos2] X.env = (false, eval (.Call (.Name "reversed" p2) [e] [] pos2) X.env) :: starEach [] X.env := by rfl) :
    PE X (.Call (.Name "list" p) [.Call (.Name "reversed" p2) [e] [] pos2] [] pos) (tListRev X.K te) := by
  refine ⟨fun pins s σ H Q I h => ?_⟩
  refine Call_ (ld_blt I hg hm boot_list (PyProof.Rows.callWith_type1 (args_cons (Call_ (ld_blt I hg2 hm2 PyProof.Rows.boot_reversed (PyProof.Rows.callWith_type1 (args_cons (thn (he.run pins s σ H _ I h) fun u s1 ⟨v, H1, I1, r1, q1⟩ => args_nil ?_) hs) hs rfl))) hs2) hs2 rfl))
  obtain ⟨a, xs, ev, hq, q⟩ := q1
  subst ev
  obtain rfl : u = Value.ref a := r1
  obtain ⟨its, rv, p', hz⟩ := I1.list hq
  refine call_reversed_list p'.isList (args_nil ?_)
  have k0 : ∀ b o, s1.heap.get? b = some o → (s1.heap.push (revObj a ((its.toArray.size : Int) - 1))).get? b = some o := fun b o e => Heap.get?_push_of_some _ e
  have I2 : Inv X pins σ H1 { s1 with heap := s1.heap.push (revObj a ((its.toArray.size : Int) - 1)) } := I1.kept (t' := s1.toks) k0
  have hni : H1 s1.heap.objs.size = none := I1.hok.fresh (Nat.le_refl _)
  obtain ⟨f0, f1, f2, f3, f4, f5⟩ := I1.fpOk (H' := H1) (b := s1.heap.objs.size) (Nat.le_refl _) hni
  have hl := p'.isList
  obtain ⟨ol, hol, _⟩ := id hl
  have hne : a ≠ s1.heap.objs.size := Nat.ne_of_lt (Heap.lt_size hol)
  have hn : its.toArray.size ≤ sizeLine := by rw [List.size_toArray, ← rv.length]; exact hz
  have sz : (s1.heap.push (revObj a ((its.toArray.size : Int) - 1))).objs.size = s1.heap.objs.size + 1 := Heap.size_push ..
  refine call_list_rev (s := { s1 with heap := s1.heap.push (revObj a ((its.toArray.size : Int) - 1)) }) (I1.ok.hd hc) ⟨_, Heap.get?_push_size _ rfl, rfl, rfl⟩ (hl.push _) hne hn fun h' tk acc c' hk hS' hi => ?_
  have I3 : Inv X pins σ H1 { s1 with heap := h', toks := tk } := I2.turned (t' := tk) (fun b o hb e => hk b o hb e) f0 f1 f3 f4 f5
  have hq2 : H1 (s1.heap.objs.size + 1) = none := I1.hok.fresh (Nat.le_succ _)
  rw [sz] at hS'
  show EP X pins σ Q (Value.ref (s1.heap.push (revObj a ((its.toArray.size : Int) - 1))).objs.size) { s1 with heap := h', toks := tk }
  rw [sz]
  refine ⟨.ref (s1.heap.objs.size + 1), upd H1 (s1.heap.objs.size + 1) (.lst xs.reverse), I1.laid (t' := tk) (a := s1.heap.objs.size + 1) (o := .lst xs.reverse) (h' := h') (fun b o e => hk b o (Nat.ne_of_lt (Heap.lt_size e)) (Heap.get?_push_of_some _ e)) (Nat.le_succ _) (show ObjOk X.prog X.w _ _ _ (.lst xs.reverse) from ⟨by rw [List.length_reverse]; exact hz, acc.toList, c', vals_rev rv hi, ?_⟩), rfl, q _ hq2⟩
  rw [Array.toArray_toList]
  exact hS'
end
/-! ### == of dicts whose values may be lists -/
def DL (K : PySem.W.Frag) (H : Hp) : List NKV → List NKD → Prop := Paired fun p q => p.1 = q.1 ∧ DtAt K H p.2 q.2 ∧ q.2.depth ≤ 8
section
variable {X : Cx} {pins : List (Addr × Obj)} {σ : L2.St} {H : Hp} {s : Shared}
theorem yd_ofL (I : Inv X pins σ H s) : ∀ {xs : List (NestedKey × Addr × V)} {ys : List (NestedKey × Addr × Value)} {da : List NKD}, NdRel xs ys → DL X.K H (plainX xs) da → YD s.heap ys da := by
  intro xs ys da r
  induction r generalizing da with
  | nil =>
    intro d
    have d' : DL X.K H [] da := d
    cases d'
    exact .nil
  | @cons p q ps qs h t ih =>
    intro d
    have d' : DL X.K H ((p.1, p.2.2) :: plainX ps) da := d
    cases d' with
    | cons e et => exact .cons ⟨h.1.symm.trans e.1, DtAt.is I _ _ _ e.2.1 h.2.2, e.2.2⟩ (ih et)
end
section
variable {P : Program} {w : World} {K : PySem.W.Frag} {X : Cx}
def rEqL (P : Program) (w : World) (K : PySem.W.Frag) : R2 := fun x y H Q => ∃ a b ka kb da db, x = .ref a ∧ y = .ref b ∧ NDR P w K H a ka ∧ NDR P w K H b kb ∧ DL K H ka da ∧ DL K H kb db ∧
  ((da.map (·.1)).Nodup → (db.map (·.1)).Nodup → Q (.bl (dEq da db)) H)
def rNeL (P : Program) (w : World) (K : PySem.W.Frag) : R2 := fun x y H Q => ∃ a b ka kb da db, x = .ref a ∧ y = .ref b ∧ NDR P w K H a ka ∧ NDR P w K H b kb ∧ DL K H ka da ∧ DL K H kb db ∧
  ((da.map (·.1)).Nodup → (db.map (·.1)).Nodup → Q (.bl (!dEq da db)) H)
theorem op_eqL (eP : X.prog = P) (ew : X.w = w) (eK : X.K = K) (hu : X.A.units + 64 < cLine) : OpR X (compareOp .Eq) (rEqL P w K) := by
  subst eP; subst ew; subst eK
  intro pins s σ H x y v u Q I rx ry h
  obtain ⟨a, b, ka, kb, da, db, rfl, rfl, ⟨xa, ea, ksa, rfl⟩, ⟨xb, eb, ksb, rfl⟩, dda, ddb, q⟩ := h
  obtain rfl : v = Value.ref a := rx
  obtain rfl : u = Value.ref b := ry
  obtain ⟨_, ha, ya, ra, oa⟩ := nd_raw I ea ksa
  obtain ⟨_, hb, yb, rb, ob⟩ := nd_raw I eb ksb
  have ja := yd_ofL I ra dda
  have jb := yd_ofL I rb ddb
  have na : (da.map (·.1)).Nodup := by rw [← ja.keys]; exact DictOfH.nd oa
  have nb : (db.map (·.1)).Nodup := by rw [← jb.keys]; exact DictOfH.nd ob
  have hu1 : X.A.in1.units = X.A.units + 1 := Around.in1_units ..
  refine h_eq (knd := nestedKind X.prog X.w) (show X.A.in1.units + 8 < cLine by omega) ha hb oa ob (by omega) (fun _ => YD.hits (by omega) jb nb ja) ?_
  refine ⟨.bl _, H, I, rfl, ?_⟩
  rw [ja.len, jb.len]
  exact q na nb
theorem op_neL (eP : X.prog = P) (ew : X.w = w) (eK : X.K = K) (hu : X.A.units + 64 < cLine) : OpR X (compareOp .NotEq) (rNeL P w K) := by
  subst eP; subst ew; subst eK
  intro pins s σ H x y v u Q I rx ry h
  obtain ⟨a, b, ka, kb, da, db, rfl, rfl, ⟨xa, ea, ksa, rfl⟩, ⟨xb, eb, ksb, rfl⟩, dda, ddb, q⟩ := h
  obtain rfl : v = Value.ref a := rx
  obtain rfl : u = Value.ref b := ry
  obtain ⟨_, ha, ya, ra, oa⟩ := nd_raw I ea ksa
  obtain ⟨_, hb, yb, rb, ob⟩ := nd_raw I eb ksb
  have ja := yd_ofL I ra dda
  have jb := yd_ofL I rb ddb
  have na : (da.map (·.1)).Nodup := by rw [← ja.keys]; exact DictOfH.nd oa
  have nb : (db.map (·.1)).Nodup := by rw [← jb.keys]; exact DictOfH.nd ob
  have hu1 : X.A.in1.units = X.A.units + 1 := Around.in1_units ..
  refine h_ne (knd := nestedKind X.prog X.w) (show X.A.in1.units + 8 < cLine by omega) ha hb oa ob (by omega) (fun _ => YD.hits (by omega) jb nb ja) ?_
  refine ⟨.bl _, H, I, rfl, ?_⟩
  rw [ja.len, jb.len]
  exact q na nb
/-- the same rows of pairs with the same values -/
theorem dEq_same {da db : List NKD} (na : (da.map (·.1)).Nodup) (nb : (db.map (·.1)).Nodup) (l : da.length = db.length) (h : ∀ p ∈ da, p ∈ db) : dEq da db = true := by
  unfold dEq
  rw [Bool.and_eq_true, beq_iff_eq, List.all_eq_true]
  refine ⟨l, fun p hp => ?_⟩
  rw [valD_of nb (k := p.1) (d := p.2) (h p hp)]
  exact Dt.beq_self _
end
end GT

/-! ## the values of dicts with nested keys -/
namespace GT
open PySem PySem.Spec PyProof.Rows L2
def ItNv (P : Program) (w : World) (d : Addr) (o : Obj) (xs : List (NestedKey × Addr × V)) : It :=
  ⟨fun i H => H d = some (.frz o (ndO P w d xs)) ∧ i < xs.length, fun i H x H' => H' = H ∧ ∃ e, xs[i]? = some e ∧ x = e.2.2, fun i H => H d = some (.frz o (ndO P w d xs)) ∧ xs.length ≤ i⟩
section
variable {P : Program} {w : World} {K : PySem.W.Frag} {tg : Expr} {d : Addr} {o : Obj} {es : Array DictEntry} {ep : Nat} {xs : List (NestedKey × Addr × V)}
theorem turn_nv (it : Addr) (hod : o.data = .dict es ep) : Turn P w K tg (ItNv P w d o xs) [it] it (fun i h => h.IsValIter it d i xs.length ep) where
  mem := by simp
  obj := fun i h st b hb => by
    have e : b = it := by simpa using hb
    subst e
    obtain ⟨oi, e, c, dd⟩ := st
    exact ⟨oi, e, fun v z => by rw [dd] at z; cases z⟩
  keep := fun i h h' st k => st.at fun oi e => k it (by simp) oi e
  item := by
    intro X hP hw hK hc i pins s σ H E I hf st hg
    subst hP hw hK
    obtain ⟨hd, hi⟩ := hg
    obtain ⟨f0, f1, f2, f3, f4, f5⟩ := hf it (by simp)
    obtain ⟨hs, hgd, hx, es', ep', hdt, hsz, ent⟩ := nd_frz I hd
    obtain ⟨rfl, rfl⟩ := dict_ep hod hdt
    obtain ⟨e, he⟩ : ∃ e, xs[i]? = some e := ⟨xs[i], List.getElem?_eq_getElem hi⟩
    obtain ⟨en, hen, _, hval⟩ := ent i e he
    obtain ⟨hie, hen2⟩ := Array.getElem?_eq_some_iff.mp hen
    rw [← hsz] at st
    refine wpAny_pyNext_values_item_raw st ⟨o, hgd, hx, hdt⟩ hie fun h' st' sb => ?_
    have I1 : Inv X pins σ H { s with heap := h' } := I.turned (t' := s.toks) (fun b ob hb e => (sb.2 b hb).trans e) f0 f1 f3 f4 f5
    obtain ⟨oi, e1, c, dd⟩ := id st'
    rw [hen2]
    refine ⟨en.val, rfl, go_of (s := { s with heap := h' }) e1 c dd (by decide) ⟨e.2.2, H, I1, hval, ⟨rfl, e, he, rfl⟩, ?_, fun b hb => (hf b hb).1⟩⟩
    show h'.IsValIter it d (i + 1) xs.length _
    rw [← hsz]; exact st'
  done := by
    intro X hP hw hK hc i pins s σ H E I hf st hg
    subst hP hw hK
    obtain ⟨hd, hi⟩ := hg
    obtain ⟨f0, f1, f2, f3, f4, f5⟩ := hf it (by simp)
    obtain ⟨hs, hgd, hx, es', ep', hdt, hsz, ent⟩ := nd_frz I hd
    obtain ⟨rfl, rfl⟩ := dict_ep hod hdt
    rw [← hsz] at st hi
    exact wpAny_pyNext_values_end_raw (I.ok.hd hc) st ⟨o, hgd, hx, hdt⟩ hi fun h' eb => ⟨rfl, I.turned (t' := s.toks) (fun b ob hb e => eb b ob hb e) f0 f1 f3 f4 f5⟩
  self := fun A i s Q E st h => wpAny_pyIter_valiter st h
end
def iNv (P : Program) (w : World) (td : TE) : TI := fun σ H R => td σ H fun x H1 => ∃ d o xs, x = .ref d ∧ H1 d = some (.frz o (ndO P w d xs)) ∧ R (ItNv P w d o xs) H1
section
variable {X : Cx} {tg e : Expr} {td : TE} {apos cpos : Pos}
theorem pi_nv (he : PE X e td) (hbase : attributeBase e "values" X.env (eval e X.env) = eval e X.env := by rfl) (hline : (apos.endLine == cpos.line) = true := by rfl) :
    PI X tg (.Call (.Attribute e "values" apos) [] [] cpos) (iNv X.prog X.w td) := by
  refine ⟨fun pins s σ H R I h => ?_⟩
  refine wpAny_Call_method (T := "dict") (id := "dict.values") hbase rfl hline F.plainAttrs_dict F.slot_dict_values F.type_dict_values (thn (he.run pins s σ H _ I h) fun u s1 ⟨x, H1, I1, rx, d, o, xs, ex, hd, q⟩ => ?_)
  subst ex
  obtain rfl : u = Value.ref d := rx
  obtain ⟨hs, hgd, hx, es, ep, hdt, hsz, ent⟩ := nd_frz I1 hd
  have dr : s1.heap.DictRaw d es ep := ⟨o, hgd, hx, hdt⟩
  refine ⟨dr.typeIs, fun b q => by cases q; exact ⟨o, hgd, hx.2.1⟩, ?_⟩
  have I2 : Inv X pins σ H1 { s1 with heap := s1.heap.push { cls := .type "dict_values", data := .fields #[.ref d] } } := I1.kept (t' := s1.toks) fun b ob q => Heap.get?_push_of_some _ q
  have fin : wpAny (model X.prog X.w) X.A (pyIter (.ref s1.heap.objs.size)) (PIE X pins σ tg R) X.xe { s1 with heap := s1.heap.push { cls := .type "dict_values", data := .fields #[.ref d] } } := by
    refine wpAny_pyIter_values_raw (d := d) (es := es) (ep := ep) ⟨_, Heap.get?_push_size _ rfl, rfl, rfl⟩ (dr.at fun ob q => Heap.get?_push_of_some _ q) (pi_one (tk := s1.toks) I2 _ (turn_nv _ hdt) ⟨_, Heap.get?_push_size _ rfl, rfl, ?_⟩ q)
    rw [← hsz] <;> rfl
  show wpAny _ _ (callWith cpos (.builtin "dict.values") [.ref d] [] []) _ X.xe s1
  exact method_meetsIn F.slot_dict_values F.entry_dict_values rfl (PySem.evalArgs_none ⟨rfl, dr.typeIs, F.args_dict_values_1 _, _, meets_dict_values_raw d hs, ⟨es, ep, dr⟩, fin⟩)
end
section
variable {P : Program} {w : World} {d : Addr} {o : Obj} {xs : List (NestedKey × Addr × V)}
theorem lc_nv {g : TG} {tt : TT} {te : TE} {vs : List Nat} {σ : L2.St} {H1 : Hp} {D : Addr} {Qd : Hp → Prop} (Pv : Nat → Hp → Prop) (h0 : Pv 0 (upd H1 D (.lst []))) (hl : ∀ i H, i ≤ xs.length → Pv i H → H d = some (.frz o (ndO P w d xs)))
    (hs : ∀ i x H, xs[i]? = some x → Pv i H → g x.2.2 (wipe σ vs) H fun σ2 H2 => wipe σ2 vs = wipe σ vs ∧ tt σ2 H2 fun b H3 =>
      if b = true then te σ2 H3 fun y H4 => ∃ acc, H4 D = some (.lst acc) ∧ acc.length < sizeLine ∧ Pv (i + 1) (upd H4 D (.lst (acc ++ [y]))) else Pv (i + 1) H3) (hd : ∀ H, Pv xs.length H → Qd H) :
    ∃ W : Nat → Nat → Hp → Prop, (∃ m, W 0 m (upd H1 D (.lst []))) ∧ ∀ i m H, W i m H →
      ((ItNv P w d o xs).stop i H ∧ Qd H) ∨ ((ItNv P w d o xs).go i H ∧ ∃ Nx : Hp → Prop, (∀ H', Nx H' → ∃ m', m' < m ∧ W (i + 1) m' H') ∧ ∀ x H', (ItNv P w d o xs).yld i H x H' → g x (wipe σ vs) H' fun σ2 H2 => wipe σ2 vs = wipe σ vs ∧ tt σ2 H2 fun b H3 =>
        if b = true then te σ2 H3 fun y H4 => ∃ acc, H4 D = some (.lst acc) ∧ acc.length < sizeLine ∧ Nx (upd H4 D (.lst (acc ++ [y]))) else Nx H3) := by
  refine ⟨fun i m H => m = xs.length - i ∧ i ≤ xs.length ∧ Pv i H, ⟨xs.length, by simp, Nat.zero_le _, h0⟩, ?_⟩
  rintro i m H ⟨rfl, hi, p⟩
  have q := hl i H hi p
  by_cases hlt : i < xs.length
  · refine .inr ⟨⟨q, hlt⟩, Pv (i + 1), fun H' p' => ⟨xs.length - (i + 1), by omega, rfl, hlt, p'⟩, fun x H' y => ?_⟩
    obtain ⟨e, z, hz, rfl⟩ := y
    subst e
    exact hs i z _ hz p
  · have e : i = xs.length := by omega
    subst e
    exact .inl ⟨⟨q, Nat.le_refl _⟩, hd H p⟩
end
end GT

/-! ## comprehensions within comprehensions -/
namespace GT
open PySem PySem.Spec PyProof.Rows L2
section
variable {X : Cx} {P : Program} {w : World} {K : PySem.W.Frag} {tg e : Expr} {td : TE}
theorem pi_listK (h : X.K = K) (he : PE X e td) : PI X tg e (iList K td) := by subst h; exact pi_list he
theorem pi_nK (h1 : X.prog = P) (h2 : X.w = w) (he : PE X e td) : PI X tg e (iN P w td) := by subst h1; subst h2; exact pi_n he
end
end GT

/-! ## dict comprehensions with two clauses, the keys tuples -/
namespace GT
open PySem PySem.Spec PyProof.Rows L2
section
variable {pr : Program} {wo : World} {A : Around} {R : Result → Shared → Prop} {s : Shared} {kx vx ta ia tb ib : Expr} {fa fb : List Expr} {sc : Scope} {po : Pos} {it : Value} {D : Addr} {en : Env}
/-- what is noted where a turn ends badly -/
abbrev Bad (pr : Program) (wo : World) (A : Around) (en : Env) (R : Result → Shared → Prop) : Value → Shared → Prop := notedBy (model pr wo) A en fun e s' => R (.error e) s'
abbrev TestsOf (en : Env) (fs : List Expr) : Sem Bool := forIn fs true fun c r => if r = true then do { let ok ← isTrue c en (eval c en); pure (ForInStep.yield ok) } else pure (ForInStep.yield r)
theorem dcOut (hs : ∀ x, foldedSetIterable ib en x = pure x) (I : Nat → Shared → Prop)
    (turn : ∀ n s, I n s → wpAny (model pr wo) A (pyNext it) (fun r sa => match r with
      | none => R (.ok .next) sa
      | some v => wpAny (model pr wo) A (letOwnedTupleGo ta it v) (fun _ sb => wpAny (model pr wo) A (assign ta en v) (fun _ sc' =>
          wpAny (model pr wo) A (TestsOf en fa) (fun ok sd => if ok = true then
            wpAny (model pr wo) A (eval ib en) (fun x se => wpAny (model pr wo) A (pyIter x) (fun jt sf =>
              codeAny (model pr wo) A (.compStart (.DictComp kx vx [⟨ta, ia, fa, 0⟩, ⟨tb, ib, fb, 0⟩] sc po) 1 jt (.ref D) en) (fun r s' => match r with
                | .ok _ => ∃ m, m < n ∧ I m s'
                | .error _ => False) sf) (Bad pr wo A en R) se) (Bad pr wo A en R) sd
            else ∃ m, m < n ∧ I m sd) (Bad pr wo A en R) sc') (Bad pr wo A en R) sb) (Bad pr wo A en R) sa) (Bad pr wo A en R) s)
    (n : Nat) (h : I n s) : codeAny (model pr wo) A (.compLoop (.DictComp kx vx [⟨ta, ia, fa, 0⟩, ⟨tb, ib, fb, 0⟩] sc po) 0 it (.ref D) en) R s := by
  refine codeAny_loop rfl I (fun n s hI => ?_) n h
  refine wpAny_noted (m := compTurn (.DictComp kx vx [⟨ta, ia, fa, 0⟩, ⟨tb, ib, fb, 0⟩] sc po) 0 it (.ref D) en) ?_
  show wpAny _ _ (standAt ia.pos >>= _) _ _ s
  refine wpAny_bind (wpAny_standAt (wpAny_bind (wpAny_mono (turn n s hI) (fun r sa ha => ?_) fun _ _ z => z)))
  cases r with
  | none => exact wpAny_pure ha
  | some v =>
    refine wpAny_bind (wpAny_mono ha (fun _ sb hb => wpAny_bind (wpAny_mono hb (fun _ sc' hc => ?_) fun _ _ z => z)) fun _ _ z => z)
    refine wpAny_bind (wpAny_mono hc (fun ok sd hd => ?_) fun _ _ z => z)
    cases ok with
    | false => exact wpAny_pure ⟨rfl, hd⟩
    | true =>
      refine wpAny_bind (wpAny_mono hd (fun x se he => wpAny_bind (wpAny_standAt (wpAny_bind (wpAny_of_eq (hs x) ?_)))) fun _ _ z => z)
      refine wpAny_bind (wpAny_holding (wpAny_mono he (fun jt sf hf => wpAny_bind (wpAny_runOwn ?_)) fun _ _ z => z))
      rw [Around.mark_none]
      refine codeAny_mono hf fun q s' hr => ?_
      cases q with
      | error e => exact False.elim hr
      | ok g => first | exact wpAny_pure ⟨rfl, hr⟩ | exact wpAny_bind (wpAny_pure (wpAny_pure ⟨rfl, hr⟩))
theorem dcIn (I : Nat → Shared → Prop)
    (turn : ∀ n s, I n s → wpAny (model pr wo) A (pyNext it) (fun r sa => match r with
      | none => R (.ok .next) sa
      | some v => wpAny (model pr wo) A (letOwnedTupleGo tb it v) (fun _ sb => wpAny (model pr wo) A (assign tb en v) (fun _ sc' =>
          wpAny (model pr wo) A (TestsOf en fb) (fun ok sd => if ok = true then
            wpAny (model pr wo) A (eval kx en) (fun ku se => wpAny (model pr wo) A (eval vx en) (fun vu sf =>
              wpAny (model pr wo) A (dictSet D ku vu) (fun _ sg => ∃ m, m < n ∧ I m sg) (Bad pr wo A en R) sf) (Bad pr wo A en R) se) (Bad pr wo A en R) sd
            else ∃ m, m < n ∧ I m sd) (Bad pr wo A en R) sc') (Bad pr wo A en R) sb) (Bad pr wo A en R) sa) (Bad pr wo A en R) s)
    (n : Nat) (h : I n s) : codeAny (model pr wo) A (.compLoop (.DictComp kx vx [⟨ta, ia, fa, 0⟩, ⟨tb, ib, fb, 0⟩] sc po) 1 it (.ref D) en) R s := by
  refine codeAny_loop rfl I (fun n s hI => ?_) n h
  refine wpAny_noted (m := compTurn (.DictComp kx vx [⟨ta, ia, fa, 0⟩, ⟨tb, ib, fb, 0⟩] sc po) 1 it (.ref D) en) ?_
  show wpAny _ _ (standAt ib.pos >>= _) _ _ s
  refine wpAny_bind (wpAny_standAt (wpAny_bind (wpAny_mono (turn n s hI) (fun r sa ha => ?_) fun _ _ z => z)))
  cases r with
  | none => exact wpAny_pure ha
  | some v =>
    refine wpAny_bind (wpAny_mono ha (fun _ sb hb => wpAny_bind (wpAny_mono hb (fun _ sc' hc => ?_) fun _ _ z => z)) fun _ _ z => z)
    refine wpAny_bind (wpAny_mono hc (fun ok sd hd => ?_) fun _ _ z => z)
    cases ok with
    | false => exact wpAny_pure ⟨rfl, hd⟩
    | true =>
      have hd : wpAny (model pr wo) A (eval kx en) _ _ sd := hd
      first
        | exact wpAny_bind (wpAny_bind (wpAny_mono hd (fun ku se he => wpAny_bind (wpAny_holding (wpAny_mono he (fun vu sf hf => wpAny_bind (wpAny_standAt (wpAny_holding (wpAny_mono hf (fun _ sg hg => wpAny_pure ⟨rfl, hg⟩) fun _ _ z => z)))) fun _ _ z => z))) fun _ _ z => z))
        | exact wpAny_bind (wpAny_mono hd (fun ku se he => wpAny_bind (wpAny_holding (wpAny_mono he (fun vu sf hf => wpAny_bind (wpAny_standAt (wpAny_bind (wpAny_holding (wpAny_mono hf (fun _ sg hg => wpAny_pure ⟨rfl, hg⟩) fun _ _ z => z))))) fun _ _ z => z))) fun _ _ z => z)
/-- the start of the second clause -/
theorem dcStart (h0 : codeAny (model pr wo) A (.compLoop (.DictComp kx vx [⟨ta, ia, fa, 0⟩, ⟨tb, ib, fb, 0⟩] sc po) 1 it (.ref D) en) R s)
    (h : wpAny (model pr wo) A (pyIter it) (fun jt s' => codeAny (model pr wo) A (.compLoop (.DictComp kx vx [⟨ta, ia, fa, 0⟩, ⟨tb, ib, fb, 0⟩] sc po) 1 jt (.ref D) en) R s') (Bad pr wo A en R) s) :
    codeAny (model pr wo) A (.compStart (.DictComp kx vx [⟨ta, ia, fa, 0⟩, ⟨tb, ib, fb, 0⟩] sc po) 1 it (.ref D) en) R s := by
  refine codeAny_of_tree (wpAny_notedAt (m := compStart (.DictComp kx vx [⟨ta, ia, fa, 0⟩, ⟨tb, ib, fb, 0⟩] sc po) 1 it (.ref D) en) ?_)
  unfold compStart
  show wpAny _ _ (ask >>= _) _ _ s
  refine wpAny_bind (wpAny_askSetting (wpAny_ite ?_))
  split
  · first | exact wpAny_pure ⟨rfl, h0⟩ | exact wpAny_bind (wpAny_pure (wpAny_pure ⟨rfl, h0⟩))
  · first
      | exact wpAny_bind (wpAny_rule (wpAny_bind (wpAny_standAt (wpAny_bind (wpAny_mono h (fun jt s' hj => wpAny_pure ⟨rfl, hj⟩) fun _ _ z => z)))))
      | (refine wpAny_bind (wpAny_rule ?_)
         show wpAny _ _ (standAt ib.pos >>= _) _ _ s
         exact wpAny_bind (wpAny_standAt (wpAny_bind (wpAny_mono h (fun jt s' hj => wpAny_pure ⟨rfl, hj⟩) fun _ _ z => z))))
end
section
variable {X : Cx} {pins : List (Addr × Obj)} {σ : L2.St} {H : Hp} {s : Shared}
/-- {k: v for target in iter if .. for target in iter if ..} -/
def tDn2 (P : Program) (w : World) (K : PySem.W.Frag) (wi : TI) (g : TG) (tt : TT) (wj : TI) (gj : TG) (tj : TT) (tk tv : TE) (vs vj : List Nat) : TE := fun σ H Q => wi σ H fun J H1 => ∀ D H2, H1 D = none → ND P w K H2 D [] → Stp [] H1 H2 → ∃ W : Nat → Nat → Hp → Prop, (∃ m, W 0 m H2) ∧ ∀ i m H, W i m H →
  (J.stop i H ∧ Q (.ref D) H) ∨ (J.go i H ∧ ∃ Nx : Hp → Prop, (∀ H', Nx H' → ∃ m', m' < m ∧ W (i + 1) m' H') ∧ ∀ x H', J.yld i H x H' → g x (wipe σ vs) H' fun σ2 H2 => wipe σ2 vs = wipe σ vs ∧ tt σ2 H2 fun b H3 =>
    if b = true then wj σ2 H3 fun L H4 => ∃ V : Nat → Nat → Hp → Prop, (∃ m, V 0 m H4) ∧ ∀ j k H, V j k H →
      (L.stop j H ∧ Nx H) ∨ (L.go j H ∧ ∃ Ny : Hp → Prop, (∀ H', Ny H' → ∃ k', k' < k ∧ V (j + 1) k' H') ∧ ∀ x H', L.yld j H x H' → gj x (wipe σ2 vj) H' fun σ3 H5 => wipe σ3 vj = wipe σ2 vj ∧ tj σ3 H5 fun b H6 =>
        if b = true then tk σ3 H6 fun y H7 => tv σ3 H7 fun z H8 => ∃ a kvs k, y = .ref a ∧ ND P w K H8 D kvs ∧ KyAt K H8 (.ref a) k ∧ kvs.length < sizeLine ∧ ∀ H9, ND P w K H9 D (putK kvs k z) → Stp [D] H8 H9 → Ny H9 else Ny H6)
    else Nx H3)
structure DcB2 (X : Cx) (scope : Scope) (tg : Expr) (ifs : List Expr) (tgj itj : Expr) (ifj : List Expr) (kx vx : Expr) (g : TG) (tt : TT) (wj : TI) (gj : TG) (tj : TT) (tk tv : TE) : Prop where
  one : DcB X scope tg ifs kx vx g tt tk tv
  src : ∀ (s : Shared) (H : Hp) (C : Addr) (cl : List (Str × Addr)) (fp : List Addr), PI (X.blk s H scope (compEnvC scope cl C X.env) fp) tgj itj wj
  tgt : ∀ (s : Shared) (H : Hp) (C : Addr) (cl : List (Str × Addr)) (fp : List Addr), PG (X.blk s H scope (compEnvC scope cl C X.env) fp) tgj gj
  tst : ∀ (s : Shared) (H : Hp) (C : Addr) (cl : List (Str × Addr)) (fp : List Addr), PTs (X.blk s H scope (compEnvC scope cl C X.env) fp) ifj tj
theorem dn2_core {kx vx tg iter tgj itj : Expr} {ifs ifj : List Expr} {vj : List Nat} {wj : TI} {gj : TG} {tj : TT} {scope : Scope} {own : List (Str × Nat)} {pos pos' : Pos} {wi : TI} {g : TG} {tt : TT} {tk tv : TE} {Q : VK} {use : Option (Value → Sem Unit)} {Qf : Value → Shared → Prop} (hu : X.A.units + 9 < cLine) (hc : X.calm = true) (hN : X.N.Nodup) (I : Inv X pins σ H s) (hi : PI X tg iter wi)
    (ok : BlkOk X.N X.env.scope scope own) (B : DcB2 X scope tg ifs tgj itj ifj kx vx g tt wj gj tj tk tv) (hvj : ∀ i ∈ vj, i ∈ own.map (·.2)) (foldj : ∀ en x, foldedSetIterable itj en x = pure x) (fold : ∀ x, foldedSetIterable iter X.env x = pure x) (hq : tDn2 X.prog X.w X.K wi g tt wj gj tj tk tv (own.map (·.2)) vj σ H Q)
    (back : ∀ (D C : Addr) (s' : Shared) (m : Str → Option Value) (H' : Hp), Inv X pins σ H' s' → Q (.ref D) H' → s'.heap.Ns C m → FpOk X pins H' C → compPost (model X.prog X.w) X.A X.xe use Qf (.ref D) C (.ok .next) s') :
    wpAny (model X.prog X.w) X.A (comprehension (.DictComp kx vx [⟨tg, iter, ifs, 0⟩, ⟨tgj, itj, ifj, 0⟩] scope pos) scope X.env pos' newDict false (eval iter X.env) use) Qf X.xe s := by
  have captured : ∀ y ∈ scope.names, y.2 = .free → ∃ c, X.env.cells.lookup y.1 = some c := fun y hy e =>
    (ok.free y hy e).elim (fun z => I.ok.has _ (.inl z)) fun z => I.ok.has _ (.inr z)
  refine wpAny_comprehension_free (use := use) rfl fold (closure_ok captured) ok.kind (fun y hy e => by rw [ok.uniq y hy, e]) (thn (hi.run pins s σ H _ I hq) fun _ s1 w1 => thn w1 fun _ s2 w2 => ?_)
  obtain ⟨it, fp, tn, J, H2, rfl, I2, T, t2, f2, body⟩ := w2
  refine wpAny_newObj_type (newEnv_comp ?_)
  -- the new dict at D
  generalize hD : s2.heap.objs.size = D
  have freeD : H2 D = none := I2.hok.fresh (Nat.le_of_eq hD)
  have got : (s2.heap.push { cls := .type "dict", data := .dict #[] }).get? D = some { cls := .type "dict", data := .dict #[] } := by
    rw [← hD]
    exact Heap.get?_push_size _ rfl
  generalize hs3 : ({ s2 with heap := s2.heap.push { cls := .type "dict", data := .dict #[] } } : Shared) = s3
  have hp3 : s3.heap = s2.heap.push { cls := .type "dict", data := .dict #[] } := by rw [← hs3]
  obtain ⟨H3, hH3⟩ : ∃ H3 : Hp, upd H2 D (ndO X.prog X.w D []) = H3 := ⟨_, rfl⟩
  have at3 : H3 D = some (ndO X.prog X.w D []) := by rw [← hH3]; exact upd_same
  have stp3 : Stp [] H2 H3 := by rw [← hH3]; exact .new freeD
  have I3 : Inv X pins σ H3 s3 := by
    rw [← hs3, ← hH3]
    refine I2.laid (a := D) (o := ndO X.prog X.w D []) (t' := s2.toks) (fun b o e => Heap.get?_push_of_some _ e) (Nat.le_of_eq hD) (ndO_ok ⟨Nat.zero_le _, beq_eq_false_iff_ne.mpr (Ne.symm (Nat.ne_of_lt (by rw [← hD]; exact I2.big))), [], .nil, _, #[], 0, got, ⟨rfl, rfl, rfl⟩, rfl, rfl, List.nodup_nil⟩)
  obtain ⟨W, ⟨m0, w0⟩, turn⟩ := body D H3 freeD ⟨[], at3, fun _ z => (nomatch z), rfl⟩ stp3
  have below : ∀ b ∈ fp, b < s2.heap.objs.size := fun b hb => by
    obtain ⟨o, e, _⟩ := T.obj _ _ t2 b hb
    exact Heap.lt_size e
  have f3 : ∀ b ∈ fp, FpOk X pins H3 b ∧ b < s3.heap.objs.size := fun b hb => by
    have lt := below b hb
    refine ⟨⟨?_, (f2 b hb).2⟩, by rw [hp3, Heap.size_push]; exact Nat.lt_succ_of_lt lt⟩
    rw [← hH3, upd_ne (by rw [← hD]; exact Nat.ne_of_lt lt)]
    exact (f2 b hb).1
  have t3 : tn 0 s3.heap := T.keep _ _ _ t2 fun b _ o e => by rw [hp3]; exact Heap.get?_push_of_some _ e
  have J4 := block_start I3 ok hN f3
  have kt := B.one.tgt s3 H3 s3.heap.objs.size (cellsFrom (s3.heap.objs.size + 1) scope.names (cloFrom X.env.cells scope.names [])) fp
  have kf := B.one.tst s3 H3 s3.heap.objs.size (cellsFrom (s3.heap.objs.size + 1) scope.names (cloFrom X.env.cells scope.names [])) fp
  have kk := B.one.key s3 H3 s3.heap.objs.size (cellsFrom (s3.heap.objs.size + 1) scope.names (cloFrom X.env.cells scope.names [])) fp
  have kv := B.one.val s3 H3 s3.heap.objs.size (cellsFrom (s3.heap.objs.size + 1) scope.names (cloFrom X.env.cells scope.names [])) fp
  have ks2 := B.src s3 H3 s3.heap.objs.size (cellsFrom (s3.heap.objs.size + 1) scope.names (cloFrom X.env.cells scope.names [])) fp
  have kt2 := B.tgt s3 H3 s3.heap.objs.size (cellsFrom (s3.heap.objs.size + 1) scope.names (cloFrom X.env.cells scope.names [])) fp
  have kf2 := B.tst s3 H3 s3.heap.objs.size (cellsFrom (s3.heap.objs.size + 1) scope.names (cloFrom X.env.cells scope.names [])) fp
  have away : ∀ b ∈ fp, H3 b = none := fun b hb => (f3 b hb).1.1
  show codeAny _ _ (.compStart (.DictComp kx vx [⟨tg, iter, ifs, 0⟩, ⟨tgj, itj, ifj, 0⟩] scope pos) 0 (.ref it) (.ref D) (compEnvC scope (cellsFrom (s3.heap.objs.size + 1) scope.names (cloFrom X.env.cells scope.names [])) s3.heap.objs.size X.env)) (compPost (model X.prog X.w) X.A X.xe use Qf (.ref D) s3.heap.objs.size) { s3 with heap := pushCells (s3.heap.push { cls := .type "dict", data := .dict #[] }) scope.names }
  generalize hce : compEnvC scope (cellsFrom (s3.heap.objs.size + 1) scope.names (cloFrom X.env.cells scope.names [])) s3.heap.objs.size X.env = ce at J4 kt kf kk kv ks2 kt2 kf2 ⊢
  have locals_ : ce.locals = s3.heap.objs.size := by rw [← hce]; rfl
  generalize hs4 : ({ s3 with heap := pushCells (s3.heap.push { cls := .type "dict", data := .dict #[] }) scope.names } : Shared) = s4 at J4 ⊢
  have t4 : tn 0 s4.heap := T.keep _ _ _ t3 fun b _ o e => by rw [← hs4]; exact pushCells_keeps _ _ _ _ (Heap.get?_push_of_some _ e)
  -- the iterator's objects are nobody's
  have calmF : ∀ {σ' : L2.St} {H' : Hp} {s' : Shared}, Inv (X.blk s3 H3 scope ce fp) [] σ' H' s' → (∀ b ∈ fp, H' b = none) → ∀ b ∈ fp, FpOk (X.blk s3 H3 scope ce fp) [] H' b := fun {σ' H' s'} I' hn b hb =>
    ⟨hn b hb, (I'.ok.exf b hb).1, I'.ok.exfs b hb, .inl hb, fun x c e => (I'.ok.exf b hb).2 x c e, fun p hp => absurd (show p ∈ ([] : List (Addr × Obj)) ++ [] from hp) (by simp)⟩
  suffices loop : codeAny (model X.prog X.w) X.A (.compLoop (.DictComp kx vx [⟨tg, iter, ifs, 0⟩, ⟨tgj, itj, ifj, 0⟩] scope pos) 0 (.ref it) (.ref D) ce) (compPost (model X.prog X.w) X.A X.xe use Qf (.ref D) s3.heap.objs.size) s4 from
    codeAny_compStart_dict loop (T.self X.A 0 _ _ _ t4 loop)
  refine dcOut (foldj ce) (fun n s' => ∃ i H', Inv (X.blk s3 H3 scope ce fp) [] (wipe σ (own.map (·.2))) H' s' ∧ tn i s'.heap ∧ (∀ b ∈ fp, H' b = none) ∧ W i n H') ?_ m0 ⟨0, H3, J4, t4, away, w0⟩
  rintro n s5 ⟨i, H5, J5, t5, n5, w5⟩
  rcases turn i n H5 w5 with ⟨stop, told⟩ | ⟨go, Nx, less, step⟩
  · refine thnF (T.done (X.blk s3 H3 scope ce fp) rfl rfl rfl hc i [] s5 _ H5 (fun _ _ => False) J5 (calmF J5 n5) t5 stop) fun r s6 ⟨hr6, J6⟩ => ?_
    subst hr6
    have I7 : Inv X pins σ H5 s6 := I3.call' (ch := fp) J6.os J6.base J6.hok J6.bare fun b hb => let f := (f3 b hb).1; ⟨f.2.2.2.1, f.2.1, f.2.2.2.2.1, f.2.2.2.2.2⟩
    have noC : H5 s3.heap.objs.size = none := by
      have z : H5 ce.locals = none := J6.free
      rwa [locals_] at z
    obtain ⟨m, hn, _⟩ := J6.loc
    have hn : s6.heap.Ns ce.locals m := hn
    rw [locals_] at hn
    exact back D _ s6 m H5 I7 told hn (I3.fpOk (Nat.le_refl _) noC)
  · refine thnF (T.item (X.blk s3 H3 scope ce fp) rfl rfl rfl hc i [] s5 _ H5 (fun _ _ => False) J5 (calmF J5 n5) t5 go) fun r s6 ⟨u, hr6, h6⟩ => ?_
    subst hr6
    refine thnF h6 fun _ s7 ⟨x, H7, J7, r7, y7, t7, n7⟩ => ?_
    have P7 := J7.pinned (calmF J7 n7) (T.obj _ _ t7)
    refine thnF (kt.run _ s7 _ H7 x u _ P7 r7 (step x H7 y7)) fun _ s8 ⟨σ8, H8, J8, hw, q8⟩ => thnF (kf.run _ s8 σ8 H8 _ J8 q8) fun b s9 ⟨H9, J9, q9⟩ => ?_
    -- behind a turn, from slots that know what the block knew
    have next : ∀ {σ' : L2.St} {s' : Shared} {H' : Hp}, Inv (X.blk s3 H3 scope ce fp) ([] ++ pinsAt fp s7.heap) σ' H' s' → (wipe σ (own.map (·.2))).length = σ'.length → (∀ (j : Nat) v, (wipe σ (own.map (·.2)))[j]? = some (some v) → σ'[j]? = some (some v)) → Nx H' →
        ∃ m, m < n ∧ ∃ i H', Inv (X.blk s3 H3 scope ce fp) [] (wipe σ (own.map (·.2))) H' s' ∧ tn i s'.heap ∧ (∀ b ∈ fp, H' b = none) ∧ W i m H' := fun {σ' s' H'} J' el ev nx => by
      obtain ⟨m', lt, w'⟩ := less H' nx
      have stay : ∀ b ∈ fp, ∀ o, s7.heap.get? b = some o → s'.heap.get? b = some o ∧ H' b = none := fun b hb o e =>
        let z := J'.pin (b, o) (List.mem_append_right _ (List.mem_append_right _ (mem_pinsAt hb e)))
        ⟨z.1, z.2.1⟩
      refine ⟨m', lt, i + 1, H', (J'.unpinned (pins := [])).weak el ev, T.keep _ _ _ t7 fun b hb o e => (stay b hb o e).1, fun b hb => ?_, w'⟩
      obtain ⟨o, e, _⟩ := T.obj _ _ t7 b hb
      exact (stay b hb o e).2
    have el8 : (wipe σ (own.map (·.2))).length = σ8.length := by rw [← hw, wipe_length]
    have ev8 : ∀ (j : Nat) v, (wipe σ (own.map (·.2)))[j]? = some (some v) → σ8[j]? = some (some v) := fun j v e => by
      rw [← hw] at e
      exact (wipe_some e).1
    have ev9 : ∀ (j : Nat) v, (wipe σ (own.map (·.2)))[j]? = some (some v) → (wipe σ8 vj)[j]? = some (some v) := fun j v e => by
      rw [← hw] at e
      have e2 := wipe_some e
      rw [wipe_out fun z => e2.2 (hvj j z)]
      exact e2.1
    cases b with
    | false => exact next J9 el8 ev8 q9
    | true =>
      refine thnF (ks2.run _ s9 σ8 H9 _ J9 q9) fun _ s10 w10 => thnF w10 fun _ s11 w11 => ?_
      obtain ⟨jt, fj, tu, L, H11, rfl, J11, U, u11, g11, V, ⟨k0, v0⟩, round⟩ := w11
      have calmJ : ∀ {H' : Hp}, (∀ b ∈ fj, H' b = none) → ∀ b ∈ fj, FpOk (X.blk s3 H3 scope ce fp) ([] ++ pinsAt fp s7.heap) H' b := fun hn b hb => ⟨hn b hb, (g11 b hb).2⟩
      suffices inner : codeAny (model X.prog X.w) X.A (.compLoop (.DictComp kx vx [⟨tg, iter, ifs, 0⟩, ⟨tgj, itj, ifj, 0⟩] scope pos) 1 (.ref jt) (.ref D) ce)
          (fun r s' => match r with
            | .ok _ => ∃ m, m < n ∧ ∃ i H', Inv (X.blk s3 H3 scope ce fp) [] (wipe σ (own.map (·.2))) H' s' ∧ tn i s'.heap ∧ (∀ b ∈ fp, H' b = none) ∧ W i m H'
            | .error _ => False) s11 from dcStart inner (U.self X.A 0 _ _ _ u11 inner)
      refine dcIn (fun k s' => ∃ j H', Inv (X.blk s3 H3 scope ce fp) ([] ++ pinsAt fp s7.heap) (wipe σ8 vj) H' s' ∧ tu j s'.heap ∧ (∀ b ∈ fj, H' b = none) ∧ V j k H') ?_ k0 ⟨0, H11, J11.weak (wipe_length _ _) (fun j v e => (wipe_some e).1), u11, fun b hb => (g11 b hb).1, v0⟩
      rintro k s12 ⟨j, H12, J12, u12, n12, v12⟩
      rcases round j k H12 v12 with ⟨stop2, nx2⟩ | ⟨go2, Ny, fewer, step2⟩
      · refine thnF (U.done (X.blk s3 H3 scope ce fp) rfl rfl rfl hc j _ s12 (wipe σ8 vj) H12 (fun _ _ => False) J12 (calmJ n12) u12 stop2) fun r s13 ⟨hr13, J13⟩ => ?_
        subst hr13
        exact next J13 (el8.trans (wipe_length σ8 vj).symm) ev9 nx2
      · refine thnF (U.item (X.blk s3 H3 scope ce fp) rfl rfl rfl hc j _ s12 (wipe σ8 vj) H12 (fun _ _ => False) J12 (calmJ n12) u12 go2) fun r s13 ⟨u2, hr13, h13⟩ => ?_
        subst hr13
        refine thnF h13 fun _ s14 ⟨x2, H14, J14, r14, y14, u14, n14⟩ => ?_
        have P14 := J14.pinned (calmJ n14) (U.obj _ _ u14)
        refine thnF (kt2.run _ s14 (wipe σ8 vj) H14 x2 u2 _ P14 r14 (step2 x2 H14 y14)) fun _ s15 ⟨σ15, H15, J15, hw15, q15⟩ => thnF (kf2.run _ s15 σ15 H15 _ J15 q15) fun b2 s16 ⟨H16, J16, q16⟩ => ?_
        have next2 : ∀ {s' : Shared} {H' : Hp}, Inv (X.blk s3 H3 scope ce fp) (([] ++ pinsAt fp s7.heap) ++ pinsAt fj s14.heap) σ15 H' s' → Ny H' → ∃ m, m < k ∧ ∃ j H', Inv (X.blk s3 H3 scope ce fp) ([] ++ pinsAt fp s7.heap) (wipe σ8 vj) H' s' ∧ tu j s'.heap ∧ (∀ b ∈ fj, H' b = none) ∧ V j m H' := fun {s' H'} J' nx => by
          obtain ⟨m', lt, w'⟩ := fewer H' nx
          have stay : ∀ b ∈ fj, ∀ o, s14.heap.get? b = some o → s'.heap.get? b = some o ∧ H' b = none := fun b hb o e =>
            let z := J'.pin (b, o) (List.mem_append_right _ (List.mem_append_right _ (mem_pinsAt hb e)))
            ⟨z.1, z.2.1⟩
          refine ⟨m', lt, j + 1, H', J'.unpinned.weak (by rw [← hw15, wipe_length]) (fun j v e => by rw [← hw15] at e; exact (wipe_some e).1), U.keep _ _ _ u14 fun b hb o e => (stay b hb o e).1, fun b hb => ?_, w'⟩
          obtain ⟨o, e, _⟩ := U.obj _ _ u14 b hb
          exact (stay b hb o e).2
        cases b2 with
        | false => exact next2 J16 q16
        | true =>
          refine thnF (kk.run _ s16 σ15 H16 _ J16 q16) fun ku s17 ⟨y, H17, J17, r17, q17⟩ => thnF (kv.run _ s17 σ15 H17 _ J17 q17) fun vu s18 ⟨z, H18, J18, r18, a, kvs, k, ey, d18, k18, l18, nx⟩ => ?_
          subst ey
          exact nd_store (X := X.blk s3 H3 scope ce fp) hu J18 d18 k18 l18 r17 r18 fun s19 H19 J19 d19 st19 => next2 J19 (nx H19 d19 st19)
section
variable {kx vx tg iter tgj itj : Expr} {ifs ifj : List Expr} {scope : Scope} {own : List (Str × Nat)} {vj : List Nat} {pos : Pos} {wi wj : TI} {g gj : TG} {tt tj : TT} {tk tv : TE} {P : Program} {w : World} {K : PySem.W.Frag} {kr : Nat}
theorem pe_dn2 (eP : X.prog = P) (ew : X.w = w) (eK : X.K = K) (hr : Room kr X.A) (hc : X.calm = true) (hN : X.N.Nodup) (hi : PI X tg iter wi) (ok : BlkOk X.N X.env.scope scope own) (hvj : ∀ i ∈ vj, i ∈ own.map (·.2))
    (hg : ∀ (s : Shared) (H : Hp) (C : Addr) (cl : List (Str × Addr)) (fp : List Addr), PG (X.blk s H scope (compEnvC scope cl C X.env) fp) tg g) (ht : ∀ (s : Shared) (H : Hp) (C : Addr) (cl : List (Str × Addr)) (fp : List Addr), PTs (X.blk s H scope (compEnvC scope cl C X.env) fp) ifs tt)
    (hj : ∀ (s : Shared) (H : Hp) (C : Addr) (cl : List (Str × Addr)) (fp : List Addr), PI (X.blk s H scope (compEnvC scope cl C X.env) fp) tgj itj wj)
    (hgj : ∀ (s : Shared) (H : Hp) (C : Addr) (cl : List (Str × Addr)) (fp : List Addr), PG (X.blk s H scope (compEnvC scope cl C X.env) fp) tgj gj) (htj : ∀ (s : Shared) (H : Hp) (C : Addr) (cl : List (Str × Addr)) (fp : List Addr), PTs (X.blk s H scope (compEnvC scope cl C X.env) fp) ifj tj)
    (hk : ∀ (s : Shared) (H : Hp) (C : Addr) (cl : List (Str × Addr)) (fp : List Addr), PE (X.blk s H scope (compEnvC scope cl C X.env) fp) kx tk)
    (hv : ∀ (s : Shared) (H : Hp) (C : Addr) (cl : List (Str × Addr)) (fp : List Addr), PE (X.blk s H scope (compEnvC scope cl C X.env) fp) vx tv) (fold : ∀ x, foldedSetIterable iter X.env x = pure x := by intro _; rfl) (foldj : ∀ en x, foldedSetIterable itj en x = pure x := by intro _ _; rfl) :
    PE X (.DictComp kx vx [⟨tg, iter, ifs, 0⟩, ⟨tgj, itj, ifj, 0⟩] scope pos) (tDn2 P w K wi g tt wj gj tj tk tv (own.map (·.2)) vj) := by
  subst eP ew eK
  refine ⟨fun pins s σ H Q I hq => ?_⟩
  rw [arm_eval_DictComp]
  exact dn2_core (hu9 hr) hc hN I hi ok ⟨⟨hg, ht, hk, hv⟩, hj, hgj, htj⟩ hvj foldj fold hq fun D C s' m H' I' q hn f => ⟨m, hn, fun h'' sb => ⟨.ref D, H', I'.turned (t' := s'.toks) (fun b o hb e => (sb.2 b hb).trans e) f.1 f.2.1 f.2.2.2.1 f.2.2.2.2.1 f.2.2.2.2.2, rfl, q⟩⟩
end
end
end GT

/-! ## max(list of ints, default=z) -/
namespace GT
open PySem PySem.Spec PySem.W PyProof.Rows L2
section
variable {X : Cx}
def rMaxZ (K : PySem.W.Frag) : List V → List V → Hp → VK → Prop := fun vs zs H Q => ∃ (a : Addr) (ns : List Int) (z : V), vs = [.ref a] ∧ zs = [z] ∧ SqL K H a (ns.map V.int) ∧
  (ns = [] → Q z H) ∧ ∀ m, m ∈ ns → (∀ x ∈ ns, x ≤ m) → Q (.int m) H
theorem int_dts (K : PySem.W.Frag) (H : Hp) : ∀ ns : List Int, DtsAt K H (ns.map V.int) (ns.map Dt.num)
  | [] => .nil
  | n :: ns => .cons (.num n) (int_dts K H ns)
theorem int_flat : ∀ ns : List Int, Dt.flatAll (ns.map Dt.num) = true
  | [] => rfl
  | n :: ns => by rw [List.map_cons, Dt.flatAll, int_flat ns]; rfl
theorem int_dep : ∀ ns : List Int, Dt.depthAll (ns.map Dt.num) = 0
  | [] => rfl
  | n :: ns => by
    rw [List.map_cons, Dt.depthAll, int_dep ns]
    rfl
theorem int_py (ns : List Int) : (ns.map Dt.num).map Dt.py = ns.map PyData.int := by rw [List.map_map]; rfl
theorem foldl_max_in : ∀ (ns : List Int) (n : Int), ns.foldl max n ∈ n :: ns
  | [], n => by simp
  | y :: ns, n => by
    have h := foldl_max_in ns (max n y)
    rw [List.foldl_cons]
    rcases List.mem_cons.mp h with e | e
    · rw [e]
      rcases Int.le_total n y with l | l
      · rw [Int.max_eq_right l]; simp
      · rw [Int.max_eq_left l]; simp
    · exact List.mem_cons_of_mem _ (List.mem_cons_of_mem _ e)
theorem foldl_max_ge : ∀ (ns : List Int) (n : Int), n ≤ ns.foldl max n ∧ ∀ x ∈ ns, x ≤ ns.foldl max n
  | [], n => by simp
  | y :: ns, n => by
    obtain ⟨h1, h2⟩ := foldl_max_ge ns (max n y)
    rw [List.foldl_cons]
    refine ⟨Int.le_trans (Int.le_max_left n y) h1, fun x hx => ?_⟩
    rcases List.mem_cons.mp hx with e | e
    · rw [e]; exact Int.le_trans (Int.le_max_right n y) h1
    · exact h2 x e
theorem cr_maxZ (hc : X.calm = true) (hu : X.A.units + 64 < cLine) : CallRK X (.builtin "max") [Str.ofString "default"] (rMaxZ X.K) := by
  intro pins s σ H vs zs us ws Q I r rz h
  obtain ⟨a, ns, z, rfl, rfl, hs, q0, q1⟩ := h
  obtain rfl := Vals.ref1 r
  obtain ⟨w1, rfl, e1⟩ := vals1 rz
  have hd := int_dts X.K H ns
  have hf := int_flat ns
  obtain ⟨its, rv, hl, hz⟩ := I.list hs
  have hr : ReadsAll s.heap its (Dt.pys (ns.map Dt.num)) [] := DtAll.reads (ns.map Dt.num) its hf (DtsAt.is I _ _ its hd rv)
  have hr' : ReadsAll s.heap (its.toArray).toList (ns.map PyData.int) [] := by rw [← int_py, ← Dt.pys_map]; simpa using hr
  have ha : AlikeAll (ns.map PyData.int) := ⟨fun x hx y hy => by
    obtain ⟨i, _, rfl⟩ := List.mem_map.mp hx
    obtain ⟨j, _, rfl⟩ := List.mem_map.mp hy
    rfl, fun x hx => by
    obtain ⟨d, hd, rfl⟩ := List.mem_map.mp hx
    exact fun z => nomatch z⟩
  have hdep : PyData.depthAll (ns.map PyData.int) ≤ 8 := by
    rw [← int_py, ← Dt.pys_map, Dt.pys_depth, int_dep]; omega
  refine max_list_default (I.ok.hd hc) hl.isList hr' ha (by omega) (fun hnil h' tk k => ?_) fun y ys i v h' tk bs hx hv hR k => ?_
  · exact ⟨z, H, I.kept k, e1, q0 (by simpa using hnil)⟩
  · cases ns with
    | nil => cases hx
    | cons n ns =>
      rw [List.map_cons] at hx
      injection hx with h1 h2
      rw [← h1, ← h2, maxD_ints] at hR
      obtain ⟨g1, g2⟩ := foldl_max_ge ns n
      refine ⟨.int (ns.foldl max n), H, I.kept k, ?_, q1 _ (foldl_max_in ns n) fun x hx => ?_⟩
      · cases hR
        exact ⟨_, rfl⟩
      · rcases List.mem_cons.mp hx with e | e
        · rw [e]; exact g1
        · exact g2 x e
end
end GT

/-! ## errors of the program's own with two fields -/
namespace GT
open PySem PySem.Spec PyProof.Rows L2
/-- __init__(self, v, u) of the class C: v becomes the field f, u the field g -/
def spErr2 (C : Addr) (f g : Str) (G : V → V → Prop) : Sp := fun vs H Q _ => ∃ (a : Addr) (v u : V), vs = [.ref a, v, u] ∧ G v u ∧ H a = some (exo a C none) ∧
  ∀ dx, H dx = none → dx ≠ a → Q .non (upd (upd H dx (exd dx [(g, u), (f, v)])) a (exo a C (some dx)))
def Err2 (P : Program) (w : World) (K : PySem.W.Frag) (mg : Str → Option Value) (base : Heap) (k : Nat) (C : Addr) (x : Str) (f g : Str) (G : V → V → Prop) (y z : Str) : Prop :=
  ErrC K C ∧ PySem.W.findIn K (.ref C) f = some none ∧ PySem.W.findIn K (.ref C) g = some none ∧ mg x = some (.ref C) ∧ ∃ (fI : Addr) (fd : FuncData), FnOk P w K mg base CX0 k fI fd ["self", y, z] (spErr2 C f g G) ∧
    PySem.W.findIn K (.ref C) "__init__" = some (some (.ref fI)) ∧ PySem.W.typeIn K (.ref fI) = some (.type "function") ∧ Binds K fd ["self", y, z] []
def tMkE2 (C : Addr) (f g : Str) (G : V → V → Prop) (ta : TA) : L2.St → Hp → XK → Prop := fun σ H Q => ta σ H fun vs H1 => ∃ v u, vs = [v, u] ∧ G v u ∧ ∀ d, H1 d = none → Q (.ref C) (some d) (upd H1 d (.xd [(g, u), (f, v)]))
theorem pmk_err2 {X : Cx} {e : Expr} {es : List Expr} {ta : TA} {x f g y z : Str} {C : Addr} {p pos : Pos} {k : Nat} {G : V → V → Prop} (T : Err2 X.prog X.w X.K X.mg X.base k C x f g G y z) (hr : Room (k + 1) X.A) (hg : Gl X x) (ha : PA X (e :: es) ta)
    (hdb : (x == ("__debug__" : Str)) = false := by decide) (he : starEach (e :: es) X.env = (false, eval e X.env) :: starEach es X.env := by rfl) (hpl : (backTo pos (starEach es X.env)).any (·.1) = false := by rfl) :
    PMk X (.Call (.Name x p) (e :: es) [] pos) (tMkE2 C f g G ta) := by
  obtain ⟨E, hf, hf2, hm, fI, fd, F, hi, hty, hb⟩ := T
  intro pins s σ H Q I h
  refine pmk_oex E.ox hi hty F hr hb .nil pass0 hg hm (pa_weak ha) hdb he hpl pins s σ H Q I ⟨_, h, ?_⟩
  rintro vs H1 ⟨v, u, rfl, hG, q⟩
  refine ⟨by simp, fun a hn => ⟨a, v, u, rfl, hG, upd_same, fun dx hd ne => ?_⟩⟩
  have hd1 : H1 dx = none := by rw [upd_ne ne] at hd; exact hd
  refine ⟨rfl, dx, [(g, u), (f, v)], upd_same, by rw [upd_ne ne, upd_same], hd1, ?_⟩
  rw [exm_same hn ne]
  exact q dx hd1
end GT

/-! ## such comprehensions over lists -/
namespace GT
open PySem PySem.Spec PyProof.Rows L2
section
variable {P : Program} {w : World} {K : PySem.W.Frag} {σ σ2 : L2.St} {H : Hp} {Q : VK} {wi wj : TI} {g gj : TG} {tt tj : TT} {tk tv : TE} {vs vj : List Nat}
theorem i_Dn2 (q : wi σ H fun J H1 => ∀ D H2, H1 D = none → ND P w K H2 D [] → Stp [] H1 H2 → ∃ W : Nat → Nat → Hp → Prop, (∃ m, W 0 m H2) ∧ ∀ i m H, W i m H →
  (J.stop i H ∧ Q (.ref D) H) ∨ (J.go i H ∧ ∃ Nx : Hp → Prop, (∀ H', Nx H' → ∃ m', m' < m ∧ W (i + 1) m' H') ∧ ∀ x H', J.yld i H x H' → g x (wipe σ vs) H' fun σ2 H2 => wipe σ2 vs = wipe σ vs ∧ tt σ2 H2 fun b H3 =>
    if b = true then wj σ2 H3 fun L H4 => ∃ V : Nat → Nat → Hp → Prop, (∃ m, V 0 m H4) ∧ ∀ j k H, V j k H →
      (L.stop j H ∧ Nx H) ∨ (L.go j H ∧ ∃ Ny : Hp → Prop, (∀ H', Ny H' → ∃ k', k' < k ∧ V (j + 1) k' H') ∧ ∀ x H', L.yld j H x H' → gj x (wipe σ2 vj) H' fun σ3 H5 => wipe σ3 vj = wipe σ2 vj ∧ tj σ3 H5 fun b H6 =>
        if b = true then tk σ3 H6 fun y H7 => tv σ3 H7 fun z H8 => ∃ a kvs k, y = .ref a ∧ ND P w K H8 D kvs ∧ KyAt K H8 (.ref a) k ∧ kvs.length < sizeLine ∧ ∀ H9, ND P w K H9 D (putK kvs k z) → Stp [D] H8 H9 → Ny H9 else Ny H6)
    else Nx H3)) : tDn2 P w K wi g tt wj gj tj tk tv vs vj σ H Q := q
/-- the first clause over a list that stays -/
theorem dn2_out {a : Addr} {xs : List V} {H2 : Hp} {D : Addr} {Qd : Hp → Prop} (Pv : Nat → Hp → Prop) (h0 : Pv 0 H2) (hl : ∀ i H, i ≤ xs.length → Pv i H → SqL K H a xs)
    (hs : ∀ i x H, xs[i]? = some x → Pv i H → g x (wipe σ vs) H fun σ2 H2 => wipe σ2 vs = wipe σ vs ∧ tt σ2 H2 fun b H3 =>
      if b = true then wj σ2 H3 fun L H4 => ∃ V : Nat → Nat → Hp → Prop, (∃ m, V 0 m H4) ∧ ∀ j k H, V j k H →
      (L.stop j H ∧ Pv (i + 1) H) ∨ (L.go j H ∧ ∃ Ny : Hp → Prop, (∀ H', Ny H' → ∃ k', k' < k ∧ V (j + 1) k' H') ∧ ∀ x H', L.yld j H x H' → gj x (wipe σ2 vj) H' fun σ3 H5 => wipe σ3 vj = wipe σ2 vj ∧ tj σ3 H5 fun b H6 =>
        if b = true then tk σ3 H6 fun y H7 => tv σ3 H7 fun z H8 => ∃ a kvs k, y = .ref a ∧ ND P w K H8 D kvs ∧ KyAt K H8 (.ref a) k ∧ kvs.length < sizeLine ∧ ∀ H9, ND P w K H9 D (putK kvs k z) → Stp [D] H8 H9 → Ny H9 else Ny H6) else Pv (i + 1) H3) (hd : ∀ H, Pv xs.length H → Qd H) :
    ∃ W : Nat → Nat → Hp → Prop, (∃ m, W 0 m H2) ∧ ∀ i m H, W i m H →
      ((Itl K a).stop i H ∧ Qd H) ∨ ((Itl K a).go i H ∧ ∃ Nx : Hp → Prop, (∀ H', Nx H' → ∃ m', m' < m ∧ W (i + 1) m' H') ∧ ∀ x H', (Itl K a).yld i H x H' → g x (wipe σ vs) H' fun σ2 H2 => wipe σ2 vs = wipe σ vs ∧ tt σ2 H2 fun b H3 =>
        if b = true then wj σ2 H3 fun L H4 => ∃ V : Nat → Nat → Hp → Prop, (∃ m, V 0 m H4) ∧ ∀ j k H, V j k H →
      (L.stop j H ∧ Nx H) ∨ (L.go j H ∧ ∃ Ny : Hp → Prop, (∀ H', Ny H' → ∃ k', k' < k ∧ V (j + 1) k' H') ∧ ∀ x H', L.yld j H x H' → gj x (wipe σ2 vj) H' fun σ3 H5 => wipe σ3 vj = wipe σ2 vj ∧ tj σ3 H5 fun b H6 =>
        if b = true then tk σ3 H6 fun y H7 => tv σ3 H7 fun z H8 => ∃ a kvs k, y = .ref a ∧ ND P w K H8 D kvs ∧ KyAt K H8 (.ref a) k ∧ kvs.length < sizeLine ∧ ∀ H9, ND P w K H9 D (putK kvs k z) → Stp [D] H8 H9 → Ny H9 else Ny H6) else Nx H3) := by
  refine ⟨fun i m H => m + i = xs.length ∧ Pv i H, ⟨xs.length, rfl, h0⟩, fun i m H ⟨em, p⟩ => ?_⟩
  have sq := hl i H (by omega) p
  match m, em with
  | 0, em =>
    have e : i = xs.length := by omega
    subst e
    exact .inl ⟨⟨xs, sq, Nat.le_refl _⟩, hd H p⟩
  | m + 1, em =>
    have lt : i < xs.length := by omega
    refine .inr ⟨⟨xs, xs[i], sq, List.getElem?_eq_getElem lt⟩, Pv (i + 1), fun H' p' => ⟨m, Nat.lt_succ_self m, by omega, p'⟩, fun x H' ⟨e, y⟩ => ?_⟩
    subst e
    exact hs i x _ (y xs sq) p
/-- the second -/
theorem dn2_in {a : Addr} {xs : List V} {H4 : Hp} {D : Addr} {Nx : Hp → Prop} (Pv : Nat → Hp → Prop) (h0 : Pv 0 H4) (hl : ∀ i H, i ≤ xs.length → Pv i H → SqL K H a xs)
    (hs : ∀ j x H, xs[j]? = some x → Pv j H → gj x (wipe σ2 vj) H fun σ3 H5 => wipe σ3 vj = wipe σ2 vj ∧ tj σ3 H5 fun b H6 =>
      if b = true then tk σ3 H6 fun y H7 => tv σ3 H7 fun z H8 => ∃ a kvs k, y = .ref a ∧ ND P w K H8 D kvs ∧ KyAt K H8 (.ref a) k ∧ kvs.length < sizeLine ∧ ∀ H9, ND P w K H9 D (putK kvs k z) → Stp [D] H8 H9 → Pv (j + 1) H9 else Pv (j + 1) H6) (hd : ∀ H, Pv xs.length H → Nx H) :
    ∃ V : Nat → Nat → Hp → Prop, (∃ m, V 0 m H4) ∧ ∀ j k H, V j k H →
      ((Itl K a).stop j H ∧ Nx H) ∨ ((Itl K a).go j H ∧ ∃ Ny : Hp → Prop, (∀ H', Ny H' → ∃ k', k' < k ∧ V (j + 1) k' H') ∧ ∀ x H', (Itl K a).yld j H x H' → gj x (wipe σ2 vj) H' fun σ3 H5 => wipe σ3 vj = wipe σ2 vj ∧ tj σ3 H5 fun b H6 =>
        if b = true then tk σ3 H6 fun y H7 => tv σ3 H7 fun z H8 => ∃ a kvs k, y = .ref a ∧ ND P w K H8 D kvs ∧ KyAt K H8 (.ref a) k ∧ kvs.length < sizeLine ∧ ∀ H9, ND P w K H9 D (putK kvs k z) → Stp [D] H8 H9 → Ny H9 else Ny H6) := by
  refine ⟨fun i m H => m + i = xs.length ∧ Pv i H, ⟨xs.length, rfl, h0⟩, fun i m H ⟨em, p⟩ => ?_⟩
  have sq := hl i H (by omega) p
  match m, em with
  | 0, em =>
    have e : i = xs.length := by omega
    subst e
    exact .inl ⟨⟨xs, sq, Nat.le_refl _⟩, hd H p⟩
  | m + 1, em =>
    have lt : i < xs.length := by omega
    refine .inr ⟨⟨xs, xs[i], sq, List.getElem?_eq_getElem lt⟩, Pv (i + 1), fun H' p' => ⟨m, Nat.lt_succ_self m, by omega, p'⟩, fun x H' ⟨e, y⟩ => ?_⟩
    subst e
    exact hs i x _ (y xs sq) p
end
end GT

/-! ## whether a dict with nested keys is empty -/
namespace GT
open PySem PySem.Spec PySem.W PyProof.Rows L2
section
variable {pr : Program} {wo : World} {KK : Type} [DecidableEq KK] {kd : HeapKind pr wo KK} {A : Around} {R : Value → Shared → Prop} {s : Shared}
theorem truthy_dictH {d : Addr} {es : List (KK × Addr × Value)} {Q : Bool → Shared → Prop} (low : (d == sysModules) = false) (at_ : s.heap.DictOfH kd d es) (few : (es.length : Int) < 2 ^ 63)
    (q : Q (!es.isEmpty) { s with toks := s.toks + 1 + 1 }) : wpAny (model pr wo) A (truthy (.ref d)) Q R s := by
  have e0 : (!es.isEmpty) = ((es.length : Int) != 0) := by
    cases es with
    | nil => rfl
    | cons x xs => simp; omega
  have run : wpAny (model pr wo) A (runValue (.builtin "len" ⟨[.ref d], []⟩)) (fun v s1 => v = .int es.length (s.toks + 1) ∧ Q (!es.isEmpty) s1) R s := by
    refine wpAny_runValue (codeAny_builtin entry_len ?_)
    rw [Around.under_plainId plain_len _]
    refine wpAny_mono (wpAny_len_body_dictH (Q := fun v s1 => v = .int es.length (s.toks + 1) ∧ Q (!es.isEmpty) s1) low at_ few ⟨rfl, q⟩) (fun fin s1 g => ?_) fun _ _ z => z
    obtain ⟨v, rfl, g⟩ := g
    exact g
  unfold truthy
  refine wpAny_bind (wpAny_callSpecial?_none (name := Str.ofString "__bool__") at_.typeIs noBool_dict ?_)
  refine wpAny_bind (wpAny_specialOf (name := Str.ofString "__len__") at_.typeIs F.slot_dict_len.lookup ?_)
  refine wpAny_bind (wpAny_mono run (fun v s1 g => ?_) fun _ _ z => z)
  obtain ⟨rfl, g⟩ := g
  exact wpAny_pure (by rw [← e0]; exact g)
end
/-- a dict's truth -/
def rTruN (P : Program) (w : World) (K : PySem.W.Frag) : V → Hp → (Bool → Hp → Prop) → Prop := fun x H Q => ∃ (d : Addr) (kvs : List NKV), x = .ref d ∧ NDR P w K H d kvs ∧ Q (!kvs.isEmpty) H
theorem tru_nd {X : Cx} : TruR X (rTruN X.prog X.w X.K) := by
  intro pins s σ H x v Q I r h
  obtain ⟨d, kvs, rfl, ⟨xs, e, ks, rfl⟩, q⟩ := h
  cases r
  obtain ⟨z, hd, ys, rel, dd⟩ := nd_raw I e ks
  have hz : xs.length = ys.length := Paired.length rel
  have he : (plainX xs).isEmpty = ys.isEmpty := by
    cases rel <;> rfl
  have hn := line63
  refine truthy_dictH hd dd (by omega) ⟨H, I.tok _, ?_⟩
  rw [← he]; exact q
theorem pt_truthN {X : Cx} {P : Program} {w : World} {K : PySem.W.Frag} {a : Expr} {ta : TE} (eP : X.prog = P) (ew : X.w = w) (eK : X.K = K) (ha : PE X a ta) (he : ∀ whole, isTrue a X.env whole = (do let v ← whole; standAt a.pos; holding [v] (truthy v))) :
    PT X a (fun σ H Q => ta σ H fun x H' => rTruN P w K x H' Q) := by
  subst eP ew eK
  exact ⟨fun pins s σ H Q I h => isTrue_plain (thn (ha.run pins s σ H _ I h) fun v s1 ⟨x, H1, I1, r1, q1⟩ => tru_nd pins s1 σ H1 x v Q I1 r1 q1) (he _)⟩
end GT

/-! ## zip of three lists of one length -/
namespace GT
open PySem PySem.Spec PySem.W PyProof.Rows L2
section
variable {pr : Program} {wo : World} {A : Around} {R : Value → Shared → Prop} {s : Shared}
abbrev Trip (h : Heap) (T : Addr) (a b c : Value) : Prop := h.get? T = some { cls := .type "tuple", data := .seq #[a, b, c] }
theorem upd_trip {T : Addr} {a b c x : Value} {n : Nat} {Q : Unit → Shared → Prop} (t : Trip s.heap T a b c)
    (q : ∀ h', h'.get? T = some { cls := .type "tuple", data := .seq ((#[a, b, c] : Array Value).setIfInBounds n x) } → Heap.SameBut T s.heap h' → Q () { s with heap := h' }) :
    wpAny (model pr wo) A (updateSeq T (·.setIfInBounds n x)) Q R s :=
  wpAny_updateSeq t rfl (q _ (by rw [Heap.get?_update_self _ t rfl]; simp [Obj.mapSeq]) (Heap.SameBut.update ..))
/-- the zip, what it holds, three iterators, three lists: apart -/
structure Ap3 (z TI TO i j k a b c : Addr) : Prop where
  nd : [z, TI, TO, i, j, k].Nodup
  la : a ∉ [z, TO, i, j, k]
  lb : b ∉ [z, TO, i, j, k]
  lc : c ∉ [z, TO, i, j, k]
/-- where the zip stands at its turn n -/
structure Zp3 (h : Heap) (z TI TO i j k a b c : Addr) (f : Value) (n : Nat) : Prop where
  zp : IsZip h z TI TO f
  ti : Trip h TI (.ref i) (.ref j) (.ref k)
  to : ∃ x y v, Trip h TO x y v
  i1 : h.IsListIter i a n
  i2 : h.IsListIter j b n
  i3 : h.IsListIter k c n
theorem Zp3.at_ {h h' : Heap} {z TI TO i j k a b c : Addr} {f : Value} {n : Nat} (g : Zp3 h z TI TO i j k a b c f n) (e : ∀ x ∈ [z, TI, TO, i, j, k], ∀ o, h.get? x = some o → h'.get? x = some o) : Zp3 h' z TI TO i j k a b c f n := by
  obtain ⟨g1, g2, ⟨x, y, v, g3⟩, g4, g5, g6⟩ := g
  exact ⟨e z (by simp) _ g1, e TI (by simp) _ g2, ⟨x, y, v, e TO (by simp) _ g3⟩, g4.at fun o q => e i (by simp) o q, g5.at fun o q => e j (by simp) o q, g6.at fun o q => e k (by simp) o q⟩
theorem zip3_item {z TI TO i j k a b c : Addr} {n : Nat} {xs ys vs : Array Value} {x y v : Value} {Q : Value → Shared → Prop} (D : Ap3 z TI TO i j k a b c) (Z : Zp3 s.heap z TI TO i j k a b c .none n)
    (ha : s.heap.IsList a xs) (hb : s.heap.IsList b ys) (hc : s.heap.IsList c vs) (hx : xs[n]? = some x) (hy : ys[n]? = some y) (hv : vs[n]? = some v)
    (q : ∀ h', Zp3 h' z TI TO i j k a b c (rawInt s.heap.objs.size) (n + 1) → Trip h' s.heap.objs.size x y v → h'.objs.size = s.heap.objs.size + 1 →
      (∀ d o, d ∉ [z, TO, i, j, k] → s.heap.get? d = some o → h'.get? d = some o) → Q (.ref s.heap.objs.size) { s with heap := h' }) :
    wpAny (model pr wo) A (Builtin.«zip.__next__» ⟨[.ref z], []⟩) (fun fin s1 => ∃ r, fin = .done (.ret r) ∧ Q r s1) R s := by
  obtain ⟨g1, g2, ⟨x0, y0, v0, g3⟩, g4, g5, g6⟩ := Z
  have nd := D.nd
  simp only [List.nodup_cons, List.mem_cons, List.not_mem_nil, or_false, not_or, not_false_eq_true, List.nodup_nil, and_true] at nd
  obtain ⟨⟨zTI, zTO, zi, zj, zk⟩, ⟨TITO, TIi, TIj, TIk⟩, ⟨TOi, TOj, TOk⟩, ⟨ij, ik⟩, jk⟩ := nd
  have la := D.la
  have lb := D.lb
  have lc := D.lc
  simp only [List.mem_cons, List.not_mem_nil, or_false, not_or] at la lb lc
  obtain ⟨az, aTO, ai, aj, ak⟩ := la
  obtain ⟨bz, bTO, bi, bj, bk⟩ := lb
  obtain ⟨cz, cTO, ci, cj, ck⟩ := lc
  show wpAny _ _ (field (.ref z) 2 >>= _) _ _ _
  refine wpAny_bind (wpAny_field g1 rfl (x := .bool false) rfl ?_)
  show wpAny _ _ (field (.ref z) 3 >>= _) _ _ _
  refine wpAny_bind (wpAny_field g1 rfl (x := .ref TI) rfl (wpAny_bind (wpAny_seqItems g2 rfl ?_)))
  show wpAny _ _ (Builtin.SmallTypes.ownedTupleIsFree (.ref z) >>= _) _ _ _
  refine wpAny_bind ?_
  unfold Builtin.SmallTypes.ownedTupleIsFree
  refine wpAny_bind (wpAny_field g1 rfl (x := .none) rfl (wpAny_pure ?_))
  simp only [if_true]
  refine wpAny_bind (wpAny_rule (wpAny_bind (wpAny_field g1 rfl (x := .ref TO) rfl (wpAny_bind (wpAny_setField_rec g1 (by simp) fun k1 z1 s1 => ?_)))))
  replace z1 : IsZip k1 z TI TO .ellipsis := z1
  refine wpAny_bind ?_
  simp only [List.zipIdx_cons, List.zipIdx_nil, List.forIn_cons, List.forIn_nil]
  refine wpAny_bind (wpAny_bind (wpAny_onRaise ?_))
  show wpAny _ _ (Builtin.SmallTypes.nextOf (.ref i) >>= _) _ _ _
  refine wpAny_bind (wpAny_nextOf_list_item (g4.extBut s1.extBut (Ne.symm zi)) (ha.extBut s1.extBut az) hx fun k2 i2 s2 => wpAny_pure ?_)
  have t2 : Trip k2 TO x0 y0 v0 := s2.extBut _ _ TOi (s1.extBut _ _ (Ne.symm zTO) g3)
  refine wpAny_bind (wpAny_seqItems t2 rfl (wpAny_bind (upd_trip t2 fun k3 t3 s3 => ?_)))
  replace t3 : Trip k3 TO x y0 v0 := t3
  refine wpAny_bind (wpAny_letGo (wpAny_pure ?_))
  refine wpAny_bind (wpAny_bind (wpAny_onRaise ?_))
  show wpAny _ _ (Builtin.SmallTypes.nextOf (.ref j) >>= _) _ _ _
  have j3 : k3.IsListIter j b n := ((g5.extBut s1.extBut (Ne.symm zj)).extBut s2.extBut (Ne.symm ij)).extBut s3.extBut (Ne.symm TOj)
  refine wpAny_bind (wpAny_nextOf_list_item j3 (((hb.extBut s1.extBut bz).extBut s2.extBut bi).extBut s3.extBut bTO) hy fun k4 i4 s4 => wpAny_pure ?_)
  have t4 : Trip k4 TO x y0 v0 := s4.extBut _ _ TOj t3
  refine wpAny_bind (wpAny_seqItems t4 rfl (wpAny_bind (upd_trip t4 fun k5 t5 s5 => ?_)))
  replace t5 : Trip k5 TO x y v0 := t5
  refine wpAny_bind (wpAny_letGo (wpAny_pure ?_))
  refine wpAny_bind (wpAny_bind (wpAny_onRaise ?_))
  show wpAny _ _ (Builtin.SmallTypes.nextOf (.ref k) >>= _) _ _ _
  have c5 : k5.IsListIter k c n := ((((g6.extBut s1.extBut (Ne.symm zk)).extBut s2.extBut (Ne.symm ik)).extBut s3.extBut (Ne.symm TOk)).extBut s4.extBut (Ne.symm jk)).extBut s5.extBut (Ne.symm TOk)
  refine wpAny_bind (wpAny_nextOf_list_item c5 (((((hc.extBut s1.extBut cz).extBut s2.extBut ci).extBut s3.extBut cTO).extBut s4.extBut cj).extBut s5.extBut cTO) hv fun k6 i6 s6 => wpAny_pure ?_)
  have t6 : Trip k6 TO x y v0 := s6.extBut _ _ TOk t5
  refine wpAny_bind (wpAny_seqItems t6 rfl (wpAny_bind (upd_trip t6 fun k7 t7 s7 => ?_)))
  replace t7 : Trip k7 TO x y v := t7
  refine wpAny_bind (wpAny_letGo (wpAny_pure (wpAny_pure ?_)))
  refine wpAny_bind (wpAny_seqItems t7 rfl (wpAny_bind (wpAny_newTuple ?_)))
  have sz : k7.objs.size = s.heap.objs.size := by rw [s7.1, s6.1, s5.1, s4.1, s3.1, s2.1, s1.1]
  have z7 : IsZip k7 z TI TO .ellipsis := s7.extBut _ _ zTO (s6.extBut _ _ zk (s5.extBut _ _ zTO (s4.extBut _ _ zj (s3.extBut _ _ zTO (s2.extBut _ _ zi z1)))))
  have kp : ∀ d o, d ∉ [z, TO, i, j, k] → s.heap.get? d = some o → k7.get? d = some o := fun d o dn e => by
    simp only [List.mem_cons, List.not_mem_nil, or_false, not_or] at dn
    obtain ⟨d1, d2, d3, d4, d5⟩ := dn
    exact s7.extBut _ _ d2 (s6.extBut _ _ d5 (s5.extBut _ _ d2 (s4.extBut _ _ d4 (s3.extBut _ _ d2 (s2.extBut _ _ d3 (s1.extBut _ _ d1 e))))))
  have i7 : k7.IsListIter i a (n + 1) := ((((i2.extBut s3.extBut (Ne.symm TOi)).extBut s4.extBut ij).extBut s5.extBut (Ne.symm TOi)).extBut s6.extBut ik).extBut s7.extBut (Ne.symm TOi)
  have j7 : k7.IsListIter j b (n + 1) := ((i4.extBut s5.extBut (Ne.symm TOj)).extBut s6.extBut jk).extBut s7.extBut (Ne.symm TOj)
  have c7 : k7.IsListIter k c (n + 1) := i6.extBut s7.extBut (Ne.symm TOk)
  have lz : z < k7.objs.size := Heap.lt_size z7
  show wpAny _ _ (Builtin.SmallTypes.ownedTupleHandOut (.ref z) (.ref k7.objs.size) >>= _) _ _ _
  refine wpAny_bind ?_
  unfold Builtin.SmallTypes.ownedTupleHandOut
  have z8 : IsZip (k7.push { cls := .type "tuple", data := .seq #[x, y, v] }) z TI TO .ellipsis := Heap.get?_push_of_some _ z7
  refine wpAny_bind (wpAny_setField_rec z8 (by simp) fun k9 z9 s9 => ?_)
  replace z9 : IsZip k9 z TI TO (rawInt k7.objs.size) := z9
  refine wpAny_setField_rec z9 (by simp) fun ka za sa => ?_
  replace za : IsZip ka z TI TO (rawInt k7.objs.size) := za
  have up : ∀ d o, d ≠ z → k7.get? d = some o → ka.get? d = some o := fun d o dz e => sa.extBut _ _ dz (s9.extBut _ _ dz (Heap.get?_push_of_some _ e))
  have ta : Trip ka k7.objs.size x y v := sa.extBut _ _ (Nat.ne_of_gt lz) (s9.extBut _ _ (Nat.ne_of_gt lz) (Heap.get?_push_size _ rfl))
  have sa8 : ka.objs.size = k7.objs.size + 1 := by rw [sa.1, s9.1, Heap.size_push]
  rw [sz] at za ta sa8
  refine wpAny_pure ⟨_, rfl, ?_⟩
  show Q (.ref k7.objs.size) _
  rw [sz]
  have TI7 : k7.get? TI = some _ := kp TI _ (by simp only [List.mem_cons, List.not_mem_nil, or_false, not_or]; exact ⟨Ne.symm zTI, TITO, TIi, TIj, TIk⟩) g2
  exact q ka ⟨za, up _ _ (Ne.symm zTI) TI7, ⟨x, y, v, up _ _ (Ne.symm zTO) t7⟩, i7.at fun o e => up _ o (Ne.symm zi) e, j7.at fun o e => up _ o (Ne.symm zj) e, c7.at fun o e => up _ o (Ne.symm zk) e⟩ ta sa8 fun d o dn e => up d o (fun z' => dn (by simp [z'])) (kp d o dn e)
/-- the first list is at its end -/
theorem zip3_end {z TI TO i j k a b c : Addr} {n : Nat} {xs : Array Value} {Q : PySem.Fin → Shared → Prop} (hh : A.handled = none) (D : Ap3 z TI TO i j k a b c) (Z : Zp3 s.heap z TI TO i j k a b c .none n)
    (ha : s.heap.IsList a xs) (hx : xs[n]? = none)
    (q : ∀ h' e, (∀ d o, d ∉ [z, TO, i, j, k] → s.heap.get? d = some o → h'.get? d = some o) → (∃ o, h'.get? e = some o ∧ o.cls = .type "StopIteration") → R (.ref e) { s with heap := h' }) :
    wpAny (model pr wo) A (Builtin.«zip.__next__» ⟨[.ref z], []⟩) Q R s := by
  obtain ⟨g1, g2, ⟨x0, y0, v0, g3⟩, g4, g5, g6⟩ := Z
  have nd := D.nd
  simp only [List.nodup_cons, List.mem_cons, List.not_mem_nil, or_false, not_or, not_false_eq_true, List.nodup_nil, and_true] at nd
  obtain ⟨⟨zTI, zTO, zi, zj, zk⟩, _⟩ := nd
  have az : a ≠ z := fun e => D.la (by simp [e])
  show wpAny _ _ (field (.ref z) 2 >>= _) _ _ _
  refine wpAny_bind (wpAny_field g1 rfl (x := .bool false) rfl ?_)
  show wpAny _ _ (field (.ref z) 3 >>= _) _ _ _
  refine wpAny_bind (wpAny_field g1 rfl (x := .ref TI) rfl (wpAny_bind (wpAny_seqItems g2 rfl ?_)))
  show wpAny _ _ (Builtin.SmallTypes.ownedTupleIsFree (.ref z) >>= _) _ _ _
  refine wpAny_bind ?_
  unfold Builtin.SmallTypes.ownedTupleIsFree
  refine wpAny_bind (wpAny_field g1 rfl (x := .none) rfl (wpAny_pure ?_))
  simp only [if_true]
  refine wpAny_bind (wpAny_rule (wpAny_bind (wpAny_field g1 rfl (x := .ref TO) rfl (wpAny_bind (wpAny_setField_rec g1 (by simp) fun k1 z1 s1 => ?_)))))
  replace z1 : IsZip k1 z TI TO .ellipsis := z1
  refine wpAny_bind ?_
  simp only [List.zipIdx_cons, List.zipIdx_nil, List.forIn_cons, List.forIn_nil]
  refine wpAny_bind (wpAny_bind (wpAny_onRaise ?_))
  show wpAny _ _ (Builtin.SmallTypes.nextOf (.ref i) >>= _) _ _ _
  refine wpAny_bind (wpAny_nextOf_list_end hh (g4.extBut s1.extBut (Ne.symm zi)) (ha.extBut s1.extBut az) hx fun k2 e s2 he => ?_)
  obtain ⟨oe, h1, h2⟩ := he
  have z2 : IsZip k2 z TI TO .ellipsis := s2 _ _ zi z1
  have ez : e ≠ z := fun w => by subst w; rw [z2] at h1; cases h1; simp at h2
  refine wpAny_setField_rec z2 (by simp) fun k3 _ s3 => q k3 e (fun d o dn w => ?_) ⟨oe, s3.extBut _ _ ez h1, h2⟩
  simp only [List.mem_cons, List.not_mem_nil, or_false, not_or] at dn
  exact s3.extBut _ _ dn.1 (s2 _ _ dn.2.2.1 (s1.extBut _ _ dn.1 w))
theorem next3_item {z TI TO i j k a b c : Addr} {n : Nat} {xs ys vs : Array Value} {x y v : Value} {Q : Option Value → Shared → Prop} (D : Ap3 z TI TO i j k a b c) (Z : Zp3 s.heap z TI TO i j k a b c .none n)
    (ha : s.heap.IsList a xs) (hb : s.heap.IsList b ys) (hc : s.heap.IsList c vs) (hx : xs[n]? = some x) (hy : ys[n]? = some y) (hv : vs[n]? = some v)
    (q : ∀ h', Zp3 h' z TI TO i j k a b c (rawInt s.heap.objs.size) (n + 1) → Trip h' s.heap.objs.size x y v → h'.objs.size = s.heap.objs.size + 1 →
      (∀ d o, d ∉ [z, TO, i, j, k] → s.heap.get? d = some o → h'.get? d = some o) → Q (some (.ref s.heap.objs.size)) { s with heap := h' }) :
    wpAny (model pr wo) A (pyNext (.ref z)) Q R s := by
  have tz : s.TypeIs (.ref z) "zip" := ⟨_, Z.zp, rfl⟩
  unfold pyNext
  refine wpAny_bind (wpAny_attempt (wpAny_callSpecial?_slot (name := Str.ofString "__next__") tz F.slot_zip_next (wpAny_call_entry F.slot_zip_next tz F.entry_zip_next ?_ (F.args_zip_next_1 _))))
  exact zip3_item D Z ha hb hc hx hy hv fun h' a1 a2 a3 a4 => wpAny_pure (q h' a1 a2 a3 a4)
theorem next3_end {z TI TO i j k a b c : Addr} {n : Nat} {xs : Array Value} {Q : Option Value → Shared → Prop} (hh : A.handled = none) (D : Ap3 z TI TO i j k a b c) (Z : Zp3 s.heap z TI TO i j k a b c .none n)
    (ha : s.heap.IsList a xs) (hx : xs[n]? = none)
    (q : ∀ h', (∀ d o, d ∉ [z, TO, i, j, k] → s.heap.get? d = some o → h'.get? d = some o) → Q none { s with heap := h' }) : wpAny (model pr wo) A (pyNext (.ref z)) Q R s := by
  have tz : s.TypeIs (.ref z) "zip" := ⟨_, Z.zp, rfl⟩
  unfold pyNext
  refine wpAny_bind (wpAny_attempt (wpAny_callSpecial?_slot (name := Str.ofString "__next__") tz F.slot_zip_next (wpAny_call_entry F.slot_zip_next tz F.entry_zip_next ?_ (F.args_zip_next_1 _))))
  refine zip3_end hh D Z ha hx fun h' e kp he => ?_
  obtain ⟨o, ho, co⟩ := he
  exact wpAny_bind (wpAny_isInstance (T := "StopIteration") (b := true) ⟨o, ho, co⟩ isSubtype_stop (wpAny_pure (q _ kp)))
end
/-! ### zip(xs, ys, zs) -/
theorem tc_zip3 (a b c : Value) : checkTypeCall "zip" ⟨[a, b, c], []⟩ = pure () := by kernel_rfl
theorem nc_zip3 (a b c : Value) : checkBuiltinCall "zip.__new__" ⟨[.type "zip", a, b, c], []⟩ = pure () := by kernel_rfl
theorem args_init4 (a b c d : Value) : argsOk "object.__init__" ⟨[a, b, c, d], []⟩ := by
  unfold argsOk
  rw [signature?_of (id := "object.__init__") (n := ['_', '_', 't', 'i', 'n', 'i', '_', '_']) (o := ['t', 'c', 'e', 'j', 'b', 'o']) (by kernel_rfl) F.owner_object]
  kernel_rfl
abbrev zi1 (h : Heap) (a : Addr) : Heap := h.push { cls := .type "list_iterator", data := .fields #[.ref a, .int 0 0] }
abbrev zi2 (h : Heap) (a b : Addr) : Heap := zi1 (zi1 h a) b
abbrev zi3 (h : Heap) (a b c : Addr) : Heap := zi1 (zi2 h a b) c
abbrev zi4 (h : Heap) (a b c : Addr) : Heap := (zi3 h a b c).push { cls := .type "tuple", data := .seq #[.ref h.objs.size, .ref (zi1 h a).objs.size, .ref (zi2 h a b).objs.size] }
abbrev zi5 (h : Heap) (a b c : Addr) : Heap := (zi4 h a b c).push { cls := .type "tuple", data := .seq #[.none, .none, .none] }
abbrev zi6 (h : Heap) (a b c : Addr) : Heap := (zi5 h a b c).push { cls := .type "zip", data := .fields #[.none, .bool false, .bool false, .ref (zi3 h a b c).objs.size, .ref (zi4 h a b c).objs.size] }
theorem new_zip3 (a b c : Addr) (xs ys vs : Array Value) :
    Meets (Builtin.«zip.__new__» ⟨[.type "zip", .ref a, .ref b, .ref c], []⟩) (fun _ R s => s.heap.IsList a xs ∧ s.heap.IsList b ys ∧ s.heap.IsList c vs ∧
      R (.ok (.ret (.ref (zi5 s.heap a b c).objs.size))) { s with heap := zi6 s.heap a b c }) :=
  .of_wp fun prog w A R s h => by
    obtain ⟨hp, g, d, tk, os⟩ := s
    obtain ⟨ha, hb, hc, h⟩ := h
    have hsub := sub_zip
    have a1 : Heap.IsList (Shared.heap ⟨hp, g, d, tk, os⟩) a xs := ha
    have b1 : Heap.IsList (Shared.heap ⟨zi1 hp a, g, d, tk, os⟩) b ys := Heap.IsList.push hb _
    have c1 : Heap.IsList (Shared.heap ⟨zi2 hp a b, g, d, tk, os⟩) c vs := Heap.IsList.push (Heap.IsList.push hc _) _
    wp_walk using wpAny_pyIter_list a1, wpAny_pyIter_list b1, wpAny_pyIter_list c1
    exact ⟨_, rfl, h⟩
section
variable {pr : Program} {wo : World} {A : Around} {R : Value → Shared → Prop} {s : Shared}
theorem call_zip3 {a b c : Addr} {xs ys vs : Array Value} {Q : Value → Shared → Prop} (ha : s.heap.IsList a xs) (hb : s.heap.IsList b ys) (hc : s.heap.IsList c vs)
    (q : ∀ h', Zp3 h' (s.heap.objs.size + 5) (s.heap.objs.size + 3) (s.heap.objs.size + 4) s.heap.objs.size (s.heap.objs.size + 1) (s.heap.objs.size + 2) a b c .none 0 → h'.objs.size = s.heap.objs.size + 6 →
      (∀ d o, s.heap.get? d = some o → h'.get? d = some o) → Q (.ref (s.heap.objs.size + 5)) { s with heap := h' }) :
    wpAny (model pr wo) A (call (.type "zip") [.ref a, .ref b, .ref c]) Q R s := by
  refine callType_new F.called_zip (by decide) (tc_zip3 _ _ _) (nc_zip3 _ _ _) (fun obj => args_init4 obj _ _ _) F.entry_zip_new (new_zip3 a b c xs ys vs) ⟨ha, hb, hc, ?_⟩
  have e1 : (zi1 s.heap a).objs.size = s.heap.objs.size + 1 := Heap.size_push ..
  have e2 : (zi2 s.heap a b).objs.size = s.heap.objs.size + 2 := by rw [Heap.size_push, e1]
  have e3 : (zi3 s.heap a b c).objs.size = s.heap.objs.size + 3 := by rw [Heap.size_push, e2]
  have e4 : (zi4 s.heap a b c).objs.size = s.heap.objs.size + 4 := by rw [Heap.size_push, e3]
  have e5 : (zi5 s.heap a b c).objs.size = s.heap.objs.size + 5 := by rw [Heap.size_push, e4]
  have e6 : (zi6 s.heap a b c).objs.size = s.heap.objs.size + 6 := by rw [Heap.size_push, e5]
  have w6 : (zi6 s.heap a b c).get? (zi5 s.heap a b c).objs.size = some _ := Heap.get?_push_size _ rfl
  have w5 : (zi6 s.heap a b c).get? (zi4 s.heap a b c).objs.size = some _ := Heap.get?_push_of_some _ (Heap.get?_push_size _ rfl)
  have w4 : (zi6 s.heap a b c).get? (zi3 s.heap a b c).objs.size = some _ := Heap.get?_push_of_some _ (Heap.get?_push_of_some _ (Heap.get?_push_size _ rfl))
  have w3 : (zi6 s.heap a b c).get? (zi2 s.heap a b).objs.size = some _ := Heap.get?_push_of_some _ (Heap.get?_push_of_some _ (Heap.get?_push_of_some _ (Heap.get?_push_size _ rfl)))
  have w2 : (zi6 s.heap a b c).get? (zi1 s.heap a).objs.size = some _ := Heap.get?_push_of_some _ (Heap.get?_push_of_some _ (Heap.get?_push_of_some _ (Heap.get?_push_of_some _ (Heap.get?_push_size _ rfl))))
  have w1 : (zi6 s.heap a b c).get? s.heap.objs.size = some _ := Heap.get?_push_of_some _ (Heap.get?_push_of_some _ (Heap.get?_push_of_some _ (Heap.get?_push_of_some _ (Heap.get?_push_of_some _ (Heap.get?_push_size _ rfl)))))
  show _ ∧ _
  rw [e5, e4, e3] at w6
  rw [e4] at w5
  rw [e1, e2, e3] at w4
  rw [e2] at w3
  rw [e1] at w2
  rw [e5]
  exact ⟨⟨_, w6, rfl⟩, q _ ⟨w6, w4, ⟨_, _, _, w5⟩, ⟨_, w1, rfl, rfl⟩, ⟨_, w2, rfl, rfl⟩, ⟨_, w3, rfl, rfl⟩⟩ e6 fun d o e => Heap.get?_push_of_some _ (Heap.get?_push_of_some _ (Heap.get?_push_of_some _ (Heap.get?_push_of_some _ (Heap.get?_push_of_some _ (Heap.get?_push_of_some _ e)))))⟩
end
/-- three lists as they stand at each turn, the items in new tuples -/
def Itz3 (K : PySem.W.Frag) (a b c : Addr) : It :=
  ⟨fun i H => ∃ (xs ys vs : List V) (x y v : V), (SqL K H a xs ∧ SqL K H b ys ∧ SqL K H c vs) ∧ xs[i]? = some x ∧ ys[i]? = some y ∧ vs[i]? = some v,
    fun i H r H' => ∃ T x y v, r = .ref T ∧ H T = none ∧ H' = upd H T (.tup [x, y, v]) ∧ (∀ xs, SqL K H a xs → xs[i]? = some x) ∧ (∀ ys, SqL K H b ys → ys[i]? = some y) ∧ ∀ vs, SqL K H c vs → vs[i]? = some v,
    fun i H => ∃ xs : List V, SqL K H a xs ∧ xs.length ≤ i⟩
theorem turn_zip3 {P : Program} {w : World} {K : PySem.W.Frag} {elts : List Expr} {kk : Nat} {tpos : Pos} {a b c z TI TO i1 i2 i3 : Addr} (D : Ap3 z TI TO i1 i2 i3 a b c) :
    Turn P w K (.Tuple elts kk tpos) (Itz3 K a b c) [z, TI, TO, i1, i2, i3] z (fun i h => Zp3 h z TI TO i1 i2 i3 a b c .none i) where
  mem := by simp
  obj := fun i h st d hd => by
    obtain ⟨g1, g2, ⟨x, y, v, g3⟩, ⟨o4, w4, _, u4⟩, ⟨o5, w5, _, u5⟩, ⟨o6, w6, _, u6⟩⟩ := st
    have e' : d = z ∨ d = TI ∨ d = TO ∨ d = i1 ∨ d = i2 ∨ d = i3 := by simpa using hd
    rcases e' with q | q | q | q | q | q
    · rw [q]; exact ⟨_, g1, fun v q => nomatch q⟩
    · rw [q]; exact ⟨_, g2, fun v q => nomatch q⟩
    · rw [q]; exact ⟨_, g3, fun v q => nomatch q⟩
    · rw [q]; exact ⟨o4, w4, fun v q => by rw [u4] at q; cases q⟩
    · rw [q]; exact ⟨o5, w5, fun v q => by rw [u5] at q; cases q⟩
    · rw [q]; exact ⟨o6, w6, fun v q => by rw [u6] at q; cases q⟩
  keep := fun i h h' st k => st.at_ fun x hx o e => k x hx o e
  item := by
    intro X hP hw hK hc i pins s σ H E I hf st hg
    subst hP hw hK
    obtain ⟨xs, ys, vs, x, y, v, ⟨qa, qb, qc⟩, hx, hy, hv⟩ := hg
    obtain ⟨ia, ra, pa, _⟩ := I.list qa
    obtain ⟨ib, rb, pb, _⟩ := I.list qb
    obtain ⟨ic, rc, pc, _⟩ := I.list qc
    obtain ⟨u, hu, ru⟩ := ra.get hx
    obtain ⟨u2, hu2, ru2⟩ := rb.get hy
    obtain ⟨u3, hu3, ru3⟩ := rc.get hv
    have lz : z < s.heap.objs.size := Heap.lt_size st.zp
    refine next3_item D st pa.isList pb.isList pc.isList (x := u) (y := u2) (v := u3) (by simpa using hu) (by simpa using hu2) (by simpa using hu3) fun h' st' t' sz kp => ?_
    refine ⟨_, rfl, wpAny_letOwnedTupleGo_zip (s := { s with heap := h' }) st'.zp fun h'' z'' sb => ?_⟩
    have t2 : h''.get? s.heap.objs.size = some { cls := .type "tuple", data := .seq #[u, u2, u3] } := (sb.2 _ (Nat.ne_of_gt lz)).trans t'
    have new : ObjOk X.prog X.w (upd H s.heap.objs.size (.tup [x, y, v])) h'' s.heap.objs.size (.tup [x, y, v]) :=
      ⟨by show 3 ≤ sizeLine; decide, [u, u2, u3], .cons ru (.cons ru2 (.cons ru3 .nil)), ⟨_, t2, rfl, _, rfl⟩⟩
    have nin : ∀ d, d ∉ [z, TI, TO, i1, i2, i3] → d ∉ [z, TO, i1, i2, i3] := fun d hd q => hd (by simp only [List.mem_cons, List.not_mem_nil, or_false] at q ⊢; rcases q with q | q | q | q | q <;> simp [q])
    have I1 : Inv X pins σ (upd H s.heap.objs.size (.tup [x, y, v])) { s with heap := h'' } :=
      I.turnedNew (t' := s.toks) (ch := [z, TI, TO, i1, i2, i3]) (fun d o hb q => (sb.2 d (fun q' => hb (by simp [q']))).trans (kp d o (nin d hb) q)) hf (Nat.le_refl _) new
    refine ⟨.ref s.heap.objs.size, _, I1, rfl, ⟨_, x, y, v, rfl, I.hok.fresh (Nat.le_refl _), rfl, fun l hl => by rw [I.list_inj hl qa]; exact hx, fun l hl => by rw [I.list_inj hl qb]; exact hy, fun l hl => by rw [I.list_inj hl qc]; exact hv⟩, ?_, fun d hd => ?_⟩
    · have nd := D.nd
      obtain ⟨g1, g2, ⟨x0, y0, v0, g3⟩, g4, g5, g6⟩ := st'
      simp only [List.nodup_cons, List.mem_cons, List.not_mem_nil, or_false, not_or] at nd
      obtain ⟨⟨n1, n2, n3, n4, n5⟩, _⟩ := nd
      exact ⟨z'', (sb.2 _ (Ne.symm n1)).trans g2, ⟨x0, y0, v0, (sb.2 _ (Ne.symm n2)).trans g3⟩, g4.at fun o q => (sb.2 _ (Ne.symm n3)).trans q, g5.at fun o q => (sb.2 _ (Ne.symm n4)).trans q, g6.at fun o q => (sb.2 _ (Ne.symm n5)).trans q⟩
    · have lt : d < s.heap.objs.size := by
        obtain ⟨g1, g2, ⟨x0, y0, v0, g3⟩, ⟨_, g4, _⟩, ⟨_, g5, _⟩, ⟨_, g6, _⟩⟩ := st
        have e' : d = z ∨ d = TI ∨ d = TO ∨ d = i1 ∨ d = i2 ∨ d = i3 := by simpa using hd
        rcases e' with q | q | q | q | q | q <;> rw [q]
        · exact Heap.lt_size g1
        · exact Heap.lt_size g2
        · exact Heap.lt_size g3
        · exact Heap.lt_size g4
        · exact Heap.lt_size g5
        · exact Heap.lt_size g6
      rw [upd_ne (Nat.ne_of_lt lt)]
      exact (hf d hd).1
  done := by
    intro X hP hw hK hc i pins s σ H E I hf st hg
    subst hP hw hK
    obtain ⟨xs, qa, hend⟩ := hg
    obtain ⟨ia, ra, pa, _⟩ := I.list qa
    have l1 := ra.length
    refine next3_end (I.ok.hd hc) D st pa.isList (show ia.toArray[i]? = none by simp; omega) fun h' kp => ⟨rfl, I.turnedL (t' := s.toks) (ch := [z, TI, TO, i1, i2, i3]) (fun d o hb q => kp d o (fun q' => hb ?_) q) hf⟩
    simp only [List.mem_cons, List.not_mem_nil, or_false] at q' ⊢
    rcases q' with q' | q' | q' | q' | q' <;> simp [q']
  self := fun A i s Q E st h => wpAny_pyIter_zip st.zp h
def iZip3 (K : PySem.W.Frag) (ta : TA) : TI := fun σ H R => ta σ H fun vs H1 => ∃ a b c xs, vs = [.ref a, .ref b, .ref c] ∧ SqL K H1 a xs ∧ (∃ ys, SqL K H1 b ys) ∧ (∃ zs, SqL K H1 c zs) ∧ R (Itz3 K a b c) H1
theorem pi_zip3 {X : Cx} {e e2 e3 : Expr} {ta : TA} {p pos tpos : Pos} {elts : List Expr} {kk : Nat} (hg : Gl X "zip") (hm : X.mg "zip" = none) (ha : PA X [e, e2, e3] ta)
    (hs : starEach [e, e2, e3] X.env = (false, eval e X.env) :: starEach [e2, e3] X.env := by rfl) (hpl : (backTo pos (starEach [e2, e3] X.env)).any (·.1) = false := by rfl) :
    PI X (.Tuple elts kk tpos) (.Call (.Name "zip" p) [e, e2, e3] [] pos) (iZip3 X.K ta) := by
  refine ⟨fun pins s σ H R I h => ?_⟩
  refine Call_ (ld_blt I hg hm PyProof.Rows.boot_zip (PyProof.Rows.callWith_type1 (thn (ha.run pos pins s σ H _ I h) fun us s1 ⟨vs, H1, I1, r1, q1⟩ => ?_) hs hpl))
  obtain ⟨a, b, c, xs, ex, qa, ⟨ys, qb⟩, ⟨zs, qc⟩, q⟩ := q1
  subst ex
  cases r1 with
  | cons r rr =>
    cases rr with
    | cons r' rr =>
      cases rr with
      | cons r'' rr =>
        cases rr
        cases r
        cases r'
        cases r''
        obtain ⟨ia, ra, pa, _⟩ := I1.list qa
        obtain ⟨ib, rb, pb, _⟩ := I1.list qb
        obtain ⟨ic, rc, pc, _⟩ := I1.list qc
        have la : a < s1.heap.objs.size := pa.lt
        have lb : b < s1.heap.objs.size := pb.lt
        have lc : c < s1.heap.objs.size := pc.lt
        refine call_zip3 pa.isList pb.isList pc.isList fun h' st sz kp => wpAny_pyIter_zip st.zp ?_
        have I2 : Inv X pins σ H1 { s1 with heap := h' } := I1.kept (t' := s1.toks) kp
        have D : Ap3 (s1.heap.objs.size + 5) (s1.heap.objs.size + 3) (s1.heap.objs.size + 4) s1.heap.objs.size (s1.heap.objs.size + 1) (s1.heap.objs.size + 2) a b c := by
          generalize s1.heap.objs.size = n at la lb lc
          have f : ∀ {u : Nat}, u < n → (u : Addr) ∉ [n + 5, n + 4, n, n + 1, n + 2] := fun {u} l z => by
            simp only [List.mem_cons, List.not_mem_nil, or_false] at z
            rcases z with z | z | z | z | z
            · exact absurd z (Nat.ne_of_lt (Nat.lt_of_lt_of_le l (Nat.le_add_right _ _)))
            · exact absurd z (Nat.ne_of_lt (Nat.lt_of_lt_of_le l (Nat.le_add_right _ _)))
            · exact absurd z (Nat.ne_of_lt l)
            · exact absurd z (Nat.ne_of_lt (Nat.lt_of_lt_of_le l (Nat.le_add_right _ _)))
            · exact absurd z (Nat.ne_of_lt (Nat.lt_of_lt_of_le l (Nat.le_add_right _ _)))
          refine ⟨?_, f la, f lb, f lc⟩
          show List.Nodup [(n + 5 : Nat), n + 3, n + 4, n, n + 1, n + 2]
          simp
        refine ⟨s1.heap.objs.size + 5, [s1.heap.objs.size + 5, s1.heap.objs.size + 3, s1.heap.objs.size + 4, s1.heap.objs.size, s1.heap.objs.size + 1, s1.heap.objs.size + 2], _, _, H1, rfl, I2, turn_zip3 D, st, fun d hd => ?_, q⟩
        have e' : d = s1.heap.objs.size + 5 ∨ d = s1.heap.objs.size + 3 ∨ d = s1.heap.objs.size + 4 ∨ d = s1.heap.objs.size ∨ d = s1.heap.objs.size + 1 ∨ d = s1.heap.objs.size + 2 := by simpa using hd
        have le : s1.heap.objs.size ≤ d := by
          rcases e' with z | z | z | z | z | z <;> rw [z]
          · exact Nat.le_add_right _ _
          · exact Nat.le_add_right _ _
          · exact Nat.le_add_right _ _
          · exact Nat.le_refl _
          · exact Nat.le_add_right _ _
          · exact Nat.le_add_right _ _
        exact I1.fpOk le (I1.hok.fresh le)
end GT

/-! ## comprehensions over zip and enumerate -/
namespace GT
open PySem PySem.Spec PyProof.Rows L2
section
variable {K : PySem.W.Frag} {a b c : Addr} {xs ys zs : List V} {g : TG} {tt : TT} {te : TE} {vs : List Nat} {σ : L2.St} {H1 : Hp} {D : Addr} {Qd : Hp → Prop}
/-- a turn of a comprehension -/
abbrev TurnC (D : Addr) (g : TG) (tt : TT) (te : TE) (vs : List Nat) (σ : L2.St) (x : V) (H : Hp) (Nx : Hp → Prop) : Prop := g x (wipe σ vs) H fun σ2 H2 => wipe σ2 vs = wipe σ vs ∧ tt σ2 H2 fun b H3 =>
  if b = true then te σ2 H3 fun y H4 => ∃ acc, H4 D = some (.lst acc) ∧ acc.length < sizeLine ∧ Nx (upd H4 D (.lst (acc ++ [y]))) else Nx H3
theorem lc_zip {n : Nat} (Pv : Nat → Hp → Prop) (h0 : Pv 0 (upd H1 D (.lst []))) (lx : n ≤ xs.length) (ly : n ≤ ys.length) (hn : n = xs.length ∨ n = ys.length) (hl : ∀ i H, i ≤ n → Pv i H → SqL K H a xs ∧ SqL K H b ys)
    (hs : ∀ i x y T H, i < n → xs[i]? = some x → ys[i]? = some y → H T = none → Pv i H → TurnC D g tt te vs σ (.ref T) (upd H T (.tup [x, y])) (Pv (i + 1))) (hd : ∀ H, Pv n H → Qd H) :
    ∃ W : Nat → Nat → Hp → Prop, (∃ m, W 0 m (upd H1 D (.lst []))) ∧ ∀ i m H, W i m H →
      ((Itz K a b).stop i H ∧ Qd H) ∨ ((Itz K a b).go i H ∧ ∃ Nx : Hp → Prop, (∀ H', Nx H' → ∃ m', m' < m ∧ W (i + 1) m' H') ∧ ∀ x H', (Itz K a b).yld i H x H' → TurnC D g tt te vs σ x H' Nx) := by
  refine ⟨fun i m H => m = n - i ∧ i ≤ n ∧ Pv i H, ⟨n, by simp, Nat.zero_le _, h0⟩, ?_⟩
  rintro i m H ⟨rfl, hi, p⟩
  obtain ⟨qx, qy⟩ := hl i H hi p
  by_cases lt : i < n
  · have hx : xs[i]? = some (xs[i]'(by omega)) := List.getElem?_eq_getElem (by omega)
    have hy : ys[i]? = some (ys[i]'(by omega)) := List.getElem?_eq_getElem (by omega)
    refine .inr ⟨⟨xs, ys, _, _, qx, qy, hx, hy⟩, Pv (i + 1), fun H' p' => ⟨n - (i + 1), by omega, rfl, lt, p'⟩, fun x H' y => ?_⟩
    obtain ⟨T, u, v, rfl, hT, rfl, f1, f2⟩ := y
    exact hs i u v T H lt (f1 xs qx) (f2 ys qy) hT p
  · have e : i = n := by omega
    subst e
    exact .inl ⟨⟨xs, ys, qx, qy, by omega⟩, hd H p⟩
theorem lc_zip3 (Pv : Nat → Hp → Prop) (h0 : Pv 0 (upd H1 D (.lst []))) (ly : xs.length ≤ ys.length) (lz : xs.length ≤ zs.length) (hl : ∀ i H, i ≤ xs.length → Pv i H → SqL K H a xs ∧ SqL K H b ys ∧ SqL K H c zs)
    (hs : ∀ i x y z T H, xs[i]? = some x → ys[i]? = some y → zs[i]? = some z → H T = none → Pv i H → TurnC D g tt te vs σ (.ref T) (upd H T (.tup [x, y, z])) (Pv (i + 1))) (hd : ∀ H, Pv xs.length H → Qd H) :
    ∃ W : Nat → Nat → Hp → Prop, (∃ m, W 0 m (upd H1 D (.lst []))) ∧ ∀ i m H, W i m H →
      ((Itz3 K a b c).stop i H ∧ Qd H) ∨ ((Itz3 K a b c).go i H ∧ ∃ Nx : Hp → Prop, (∀ H', Nx H' → ∃ m', m' < m ∧ W (i + 1) m' H') ∧ ∀ x H', (Itz3 K a b c).yld i H x H' → TurnC D g tt te vs σ x H' Nx) := by
  refine ⟨fun i m H => m = xs.length - i ∧ i ≤ xs.length ∧ Pv i H, ⟨xs.length, by simp, Nat.zero_le _, h0⟩, ?_⟩
  rintro i m H ⟨rfl, hi, p⟩
  obtain ⟨qx, qy, qz⟩ := hl i H hi p
  by_cases lt : i < xs.length
  · have hx : xs[i]? = some xs[i] := List.getElem?_eq_getElem lt
    have hy : ys[i]? = some (ys[i]'(by omega)) := List.getElem?_eq_getElem (by omega)
    have hz : zs[i]? = some (zs[i]'(by omega)) := List.getElem?_eq_getElem (by omega)
    refine .inr ⟨⟨xs, ys, zs, _, _, _, ⟨qx, qy, qz⟩, hx, hy, hz⟩, Pv (i + 1), fun H' p' => ⟨xs.length - (i + 1), by omega, rfl, lt, p'⟩, fun x H' y => ?_⟩
    obtain ⟨T, u, v, r, rfl, hT, rfl, f1, f2, f3⟩ := y
    exact hs i u v r T H (f1 xs qx) (f2 ys qy) (f3 zs qz) hT p
  · have e : i = xs.length := by omega
    subst e
    exact .inl ⟨⟨xs, qx, Nat.le_refl _⟩, hd H p⟩
theorem lc_enum (Pv : Nat → Hp → Prop) (h0 : Pv 0 (upd H1 D (.lst []))) (hl : ∀ i H, i ≤ xs.length → Pv i H → SqL K H a xs)
    (hs : ∀ i x T H, xs[i]? = some x → H T = none → Pv i H → TurnC D g tt te vs σ (.ref T) (upd H T (.tup [.int (i : Nat), x])) (Pv (i + 1))) (hd : ∀ H, Pv xs.length H → Qd H) :
    ∃ W : Nat → Nat → Hp → Prop, (∃ m, W 0 m (upd H1 D (.lst []))) ∧ ∀ i m H, W i m H →
      ((Ite K a).stop i H ∧ Qd H) ∨ ((Ite K a).go i H ∧ ∃ Nx : Hp → Prop, (∀ H', Nx H' → ∃ m', m' < m ∧ W (i + 1) m' H') ∧ ∀ x H', (Ite K a).yld i H x H' → TurnC D g tt te vs σ x H' Nx) := by
  refine ⟨fun i m H => m = xs.length - i ∧ i ≤ xs.length ∧ Pv i H, ⟨xs.length, by simp, Nat.zero_le _, h0⟩, ?_⟩
  rintro i m H ⟨rfl, hi, p⟩
  have qx := hl i H hi p
  by_cases lt : i < xs.length
  · have hx : xs[i]? = some xs[i] := List.getElem?_eq_getElem lt
    refine .inr ⟨⟨xs, _, qx, hx⟩, Pv (i + 1), fun H' p' => ⟨xs.length - (i + 1), by omega, rfl, lt, p'⟩, fun x H' y => ?_⟩
    obtain ⟨T, u, rfl, hT, rfl, f1⟩ := y
    exact hs i u T H (f1 xs qx) hT p
  · have e : i = xs.length := by omega
    subst e
    exact .inl ⟨⟨xs, qx, Nat.le_refl _⟩, hd H p⟩
end
section
variable {K : PySem.W.Frag} {ta : TA} {σ : L2.St} {H : Hp} {R : It → Hp → Prop}
theorem i_Zip2 (q : ta σ H fun vs H1 => ∃ a b xs ys, vs = [.ref a, .ref b] ∧ SqL K H1 a xs ∧ SqL K H1 b ys ∧ R (Itz K a b) H1) : iZip K ta σ H R := q
theorem i_Zip3 (q : ta σ H fun vs H1 => ∃ a b c xs, vs = [.ref a, .ref b, .ref c] ∧ SqL K H1 a xs ∧ (∃ ys, SqL K H1 b ys) ∧ (∃ zs, SqL K H1 c zs) ∧ R (Itz3 K a b c) H1) : iZip3 K ta σ H R := q
theorem i_Enum1 (q : ta σ H fun vs H1 => ∃ a xs, vs = [.ref a] ∧ SqL K H1 a xs ∧ R (Ite K a) H1) : iEnum K ta σ H R := q
end
end GT

/-! ## list(xs) within a comprehension -/
namespace GT
open PySem PySem.Spec PyProof.Rows L2
theorem call_list_ofK {X : Cx} {K : PySem.W.Frag} (e : X.K = K) : CallR X (.type "list") (fun xs H Q => ∃ p ys, xs = [.ref p] ∧ (SqL K H p ys ∨ SqT K H p ys) ∧ ∀ l, H l = none → Q (.ref l) (upd H l (.lst ys))) := by subst e; exact call_list_of
theorem cr_anyK {X : Cx} {K : PySem.W.Frag} (e : X.K = K) (hc : X.calm = true) : CallR X (.builtin "any") (L2.rAny K) := by subst e; exact cr_any hc
theorem sl_tupK {X : Cx} {K : PySem.W.Frag} (e : X.K = K) : SlR X (rSlT K) := by subst e; exact sl_tup
end GT

namespace GT
open PySem PySem.Spec PyProof.Rows L2
local macro_rules | `(tactic| walk_at "p") => `(tactic| first
  | (with_reducible apply vl_var; with_unfolding_all rfl)
  | with_reducible exact vl_c
  | ((with_reducible apply vl_I0); (· walk_at "p"); (· walk_at "p"))
  | ((with_reducible apply vl_U); (· walk_at "p"))
  | ((with_reducible apply vl_chain); (· walk_at "p"); (· walk_at "p"); (· walk_at "p"))
  | ((with_reducible apply vl_and); (· walk_at "p"); (· walk_at "p"))
  | ((with_reducible apply vl_or); (· walk_at "p"); (· walk_at "p"))
  | ((with_reducible apply vl_not); (· walk_at "p"))
  | ((with_reducible apply vl_eq); (· walk_at "p"); (· walk_at "p"); (· with_unfolding_all rfl))
  | ((with_reducible apply vl_ne); (· walk_at "p"); (· walk_at "p"); (· with_unfolding_all rfl))
  | ((with_reducible apply tl_test); (· walk_at "p"))
  | ((with_reducible apply tl_B); (· walk_at "p"))
  | ((with_reducible apply tl_and); (· walk_at "p"); (· walk_at "p"))
  | ((with_reducible apply tl_or); (· walk_at "p"); (· walk_at "p"))
  | ((with_reducible apply tl_not); (· walk_at "p")))
local macro_rules | `(tactic| walk_at "g") => `(tactic| first
  | ((with_reducible apply p_AndV); (· walk_at "p"))
  | ((with_reducible apply p_OrV); (· walk_at "p"))
  | ((with_reducible apply p_Chain); (· walk_at "p"))
  | ((with_reducible apply p_And); (· walk_at "p"))
  | ((with_reducible apply p_Or); (· walk_at "p"))
  | ((with_reducible apply j_and); (· walk_at "p"); (· exact fun z => z))
  | ((with_reducible apply j_or); (· walk_at "p"); (· exact fun z => z))
  | (with_reducible apply i_var; with_unfolding_all rfl)
  | with_reducible refine i_C ?_
  | with_reducible refine i_Op ?_
  | with_reducible refine i_Yes ?_
  | with_reducible refine i_Un ?_
  | with_reducible refine i_I0 ?_
  | ((with_reducible refine i_I ?hc ?_); (case hc => first | (show (0 : Int) < _; decide) | exact .inl ⟨by decide, by decide⟩ | exact ⟨by decide, by decide⟩ | exact ⟨by decide, by decide, by decide⟩ | (show (0 : Int) < _; omega) | exact .inl ⟨by omega, by omega⟩ | exact .inr ⟨by decide, by decide⟩))
  | with_reducible refine i_U ?_
  | with_reducible refine i_Test ?_
  | with_reducible refine i_B ?_
  | with_reducible refine i_bl ?_
  | with_reducible refine i_And ?_
  | with_reducible refine i_Or ?_
  | with_reducible refine i_Not ?_
  | with_reducible refine i_Nil ?_
  | with_reducible refine i_Cons ?_
  | with_reducible refine i_Seq ?_
  | with_reducible refine i_Asg ?_
  | with_reducible refine i_Name ?_
  | with_reducible refine i_Ret ?_
  | with_reducible refine i_IfS ?_
  | with_reducible refine i_Drop ?_
  | with_reducible refine i_Next ?_
  | with_reducible refine i_If ?_
  | with_reducible refine i_Call ?_
  | with_reducible refine i_CB ?_
  | with_reducible refine i_Chain ?_
  | with_reducible refine i_AndV ?_
  | with_reducible refine i_OrV ?_
  | with_reducible refine i_NotV ?_
  | with_reducible refine i_blV ?_
  | with_reducible refine i_Tup ?_
  | with_reducible refine i_Lst ?_
  | with_reducible refine i_Par ?_
  | with_reducible refine i_Sl ?_
  | with_reducible refine i_NoPart ?_
  | with_reducible refine i_Part ?_
  | with_reducible refine i_intV ?_
  | with_reducible refine i_BM ?_
  | with_reducible refine i_BM0 ?_
  | with_reducible refine i_For ?_
  | with_reducible refine i_Lc ?_
  | with_reducible refine i_Rng1 ?_
  | with_reducible refine i_Rng2 ?_
  | with_reducible refine i_List ?_
  | with_reducible refine i_Nk ?_
  | with_reducible refine i_Nki ?_
  | with_reducible refine i_NGet ?_
  | with_reducible refine i_NIn ?_
  | with_reducible refine i_NNotIn ?_
  | with_reducible refine i_NPut ?_
  | with_reducible refine i_Meth ?_
  | with_reducible refine i_Make ?_
  | with_reducible refine i_Fld ?_
  | with_reducible refine i_sFld ?_
  | with_reducible refine i_gNil ?_
  | with_reducible refine i_gCons ?_
  | (with_reducible apply i_Aug; with_unfolding_all rfl)
  | ((with_reducible refine i_Eq ?hv ?_); (case hv => with_unfolding_all rfl))
  | ((with_reducible refine i_Ne ?hv ?_); (case hv => with_unfolding_all rfl)))
local macro_rules | `(tactic| walk_at "h") => `(tactic| ((fail_if_success (with_reducible refine i_Lc ?_)); walk_at "g"))

section
variable {P : Program} {w : World} {K : PySem.W.Frag} {mg : Str → Option Value} {base : Heap}
/-! ### the box of draws -/
structure Box (K : PySem.W.Frag) (b dg : Addr) (H : Hp) : Prop where
  bx : ∃ z : Int, H b = some (.lst [.ref dg, .int z]) ∧ 0 ≤ z
  di : ∃ ns : List Int, H dg = some (.lst (ns.map V.int))
  ne : dg ≠ b
theorem Box.stp {b dg : Addr} {H H1 : Hp} {M : List Addr} (B : Box K b dg H) (s : Stp M H H1) (n1 : b ∉ M) (n2 : dg ∉ M) : Box K b dg H1 := by
  obtain ⟨⟨z, h, hz⟩, ⟨ns, d⟩, ne⟩ := B
  exact ⟨⟨z, s.keep _ _ h n1, hz⟩, ⟨ns, s.keep _ _ d n2⟩, ne⟩
theorem Box.grow {b dg : Addr} {H H1 : Hp} (B : Box K b dg H) (s : Stp [] H H1) : Box K b dg H1 := B.stp s (by simp) (by simp)
theorem Box.nin {b dg p : Addr} {H : Hp} (B : Box K b dg H) (hp : H p = none) : p ∉ [b] := by
  obtain ⟨⟨z, e, _⟩, _, _⟩ := B
  simp
  exact fun z => by rw [z, e] at hp; cases hp
theorem Box.dgn {b dg p : Addr} {H : Hp} (B : Box K b dg H) (hp : H p = none) : dg ≠ p := by
  obtain ⟨_, ⟨ns, h⟩, _⟩ := B
  rintro rfl
  rw [hp] at h; cases h
/-- what is written was not there yet -/
theorem Box.off {b dg p : Addr} {H0 H H1 : Hp} {M : List Addr} (B0 : Box K b dg H0) (B : Box K b dg H) (hp : H0 p = none) (s : Stp [p] H H1) : Box K b dg H1 :=
  B.stp s (fun z => B0.nin hp (by simpa using (List.mem_singleton.mp z).symm)) (fun z => B0.dgn hp (List.mem_singleton.mp z))
def spDraw (K : PySem.W.Frag) : Sp := fun vs H Q _ => ∃ (b dg : Addr) (m : Int), vs = [.ref b, .int m] ∧ 0 < m ∧ Box K b dg H ∧
  ∀ (d : Int) (H1 : Hp), 0 ≤ d → d < m → Stp [b] H H1 → Box K b dg H1 → Q (.int d) H1
theorem cal_draw (F : Df K mg d_law_draw) (B : Blt mg) : Cal P w K mg base lv_law_draw "_law_draw" ["box", "many"] (spDraw K) := by
  obtain ⟨f, fd, F, g⟩ := F
  refine ⟨f, fd, F.ok sc_law_draw (fun vs H Q E h => ?_) (fun cdv A outer s H vs Q E hr h => ⟨_, PSs.nox
    (pss_cons (ps_set (i := 2) sc_law_draw.nd rfl (Or.inl rfl) (pe_ix (ix_listK (K := K) rfl) (pv 0) pe_int (fun _ _ => rfl)))
    (pss_cons (ps_asg (pe_op op_add (pv 2) pe_int) (pg_sub (pv 0) pe_int set_list))
    (pss_cons (ps_if (pt_cmpR op_lt (pv 2) (pe_callB call_len_seq (by rfl) B.len boot_len (pa_cons (pe_ix (ix_listK (K := K) rfl) (pv 0) pe_int (fun _ _ => rfl)) pa_nil)) (nomark _))
      (pss_one (ps_ret (pe_op op_mod (pe_callTy call_int1 (by rfl) B.int boot_int (pa_cons (pe_ix (ix_listK (K := K) rfl) (pe_ix (ix_listK (K := K) rfl) (pv 0) pe_int (fun _ _ => rfl)) (pv 2) (fun _ _ => rfl)) pa_nil)) (pv 1))))
      pss_nil)
    (pss_one (ps_ret (pe_op op_mod (pe_callTy call_int1 (by rfl) B.int boot_int (pa_cons (pe_op op_add (pe_op op_mul (pv 2) pe_int) pe_int) pa_nil)) (pv 1))))))), ?_⟩), g, F.kp, F.bindsN fun _ _ _ _ _ _ us hl => match us, hl with | [_, _], _ => rfl⟩
  · obtain ⟨b, dg, m, rfl, _⟩ := h
    rfl
  · obtain ⟨b, dg, m, rfl, hm, ⟨⟨z, hb, hz⟩, ⟨ns, hd⟩, ne⟩, q⟩ := h
    have st : Stp [b] H (upd H b (.lst [.ref dg, .int (z + 1)])) := .wr (by simp) hb fun _ e => by cases e
    have hd0 := st.keep _ _ hd (by simp [ne])
    have hd1 : SqL K (upd H b (.lst [.ref dg, .int (z + 1)])) dg (ns.map V.int) := SqL.of hd0
    have B1 : Box K b dg (upd H b (.lst [.ref dg, .int (z + 1)])) := ⟨⟨z + 1, upd_same, by omega⟩, ⟨ns, hd0⟩, ne⟩
    refine ⟨_, rfl, _, _, _, _, rfl, rfl, SqL.of hb, atI_nat (j := 1) rfl, ?_⟩
    refine ⟨_, rfl, _, _, rfl, rfl, _, rfl, _, _, _, 1, rfl, rfl, hb, rfl, ?_⟩
    refine ⟨_, rfl, _, rfl, _, _, _, _, rfl, rfl, SqL.of upd_same, atI_nat (j := 0) rfl, _, _, rfl, .inl hd1, _, _, rfl, rfl, _, rfl, ?_⟩
    refine i_iteD (fun hlt => ?_) (fun _ => ?_)
    · have hl : z.toNat < ns.length := by rw [List.length_map] at hlt; omega
      have he : atI (ns.map V.int) z = some (.int ns[z.toNat]) := at_of (j := z.toNat) (by omega) (by rw [List.getElem?_map, List.getElem?_eq_getElem hl]; rfl)
      refine ⟨_, rfl, _, _, _, _, rfl, rfl, SqL.of upd_same, atI_nat (j := 0) rfl, _, rfl, _, _, _, _, rfl, rfl, hd1, he, .inl ⟨_, rfl, _, rfl, _, _, rfl, rfl, hm, ?_⟩⟩
      exact q _ _ (Int.emod_nonneg _ (by omega)) (Int.emod_lt_of_pos _ hm) st B1
    · refine ⟨_, rfl, _, _, rfl, rfl, .inr ⟨by decide, by decide⟩, _, _, rfl, rfl, .inl ⟨_, rfl, _, rfl, _, _, rfl, rfl, hm, ?_⟩⟩
      exact q _ _ (Int.emod_nonneg _ (by omega)) (Int.emod_lt_of_pos _ hm) st B1
end

section
variable {P : Program} {w : World} {K : PySem.W.Frag} {mg : Str → Option Value} {base : Heap}
/-! ### the digits of the cells (laws with _law_row, _law_box) -/
def spCel (K : PySem.W.Frag) : Sp := fun vs H Q _ => ∃ (l : Addr) (ns : List Int) (k : Int), vs = [.ref l, .int k] ∧ 0 ≤ k ∧ SqL K H l (ns.map V.int) ∧ ∀ i : Int, Q (.int i) H
theorem cal_cell (F : Df K mg d_law_cell) (B : Blt mg) : Cal P w K mg base lv_law_cell "_law_cell" ["script", "k"] (spCel K) := by
  obtain ⟨f, fd, F, g⟩ := F
  refine ⟨f, fd, F.ok sc_law_cell (fun vs H Q E h => ?_) (fun cdv A outer s H vs Q E hr h => ⟨_, PSs.nox
    (pss_cons (ps_if (pt_cmpR op_lt (pv 1) (pe_callB call_len_seq (by rfl) B.len boot_len (pa_cons (pv 0) pa_nil)) (nomark _))
      (pss_one (ps_ret (pe_ix (ix_listK (K := K) rfl) (pv 0) (pv 1) (fun _ _ => rfl))))
      pss_nil)
    (pss_one (ps_ret pe_int))), ?_⟩), g, F.kp, F.bindsN fun _ _ _ _ _ _ us hl => match us, hl with | [_, _], _ => rfl⟩
  · obtain ⟨l, ns, k, rfl, _⟩ := h
    rfl
  · obtain ⟨l, ns, k, rfl, hk, hs, q⟩ := h
    refine ⟨_, rfl, _, rfl, _, _, rfl, .inl hs, _, _, rfl, rfl, _, rfl, ?_⟩
    refine i_iteD (fun hlt => ?_) (fun _ => ?_)
    · have hl : k.toNat < ns.length := by rw [List.length_map] at hlt; omega
      exact ⟨_, rfl, _, rfl, _, _, _, _, rfl, rfl, hs, at_of (j := k.toNat) (by omega) (by rw [List.getElem?_map, List.getElem?_eq_getElem hl]; rfl), q _⟩
    · exact q 0
theorem map_snoc (ds : List Int) (d : Int) : ds.map V.int ++ [V.int d] = (ds ++ [d]).map V.int := by simp
def spRow : Sp := fun vs H Q _ => ∃ (c k m : Int), vs = [.int c, .int k, .int m] ∧ 0 ≤ k ∧ k ≤ 1000 ∧ 0 ≤ m ∧ m ≤ 1000 ∧
  ∀ (p : Addr) (ds : List Int) (H1 : Hp), H p = none → H1 p = some (.lst (ds.map V.int)) → ds.length ≤ 1000 → Stp [] H H1 → Q (.ref p) H1
theorem cal_row (F : Df K mg d_law_row) (B : Blt mg) : Cal P w K mg base lv_law_row "_law_row" ["cell", "k", "many"] spRow := by
  obtain ⟨f, fd, F, g⟩ := F
  refine ⟨f, fd, F.ok sc_law_row (fun vs H Q E h => ?_) (fun cdv A outer s H vs Q E hr h => ⟨_, PSs.nox
    (pss_cons (ps_set (i := 3) sc_law_row.nd rfl (Or.inl rfl) (pe_lst pa_nil))
    (C8.pss_cut (ps_if (pt_cmpR op_lt (pv 0) pe_int (nomark _))
      (pss_one (ps_set (i := 0) sc_law_row.nd rfl (Or.inl rfl) (pe_op op_sub pe_int (pe_op op_mul pe_int (pv 0)))))
      pss_nil)
    (pss_cons (ps_if (pt_cmpR op_ge (pv 0) (pe_op op_pow pe_int pe_int) (nomark _))
      (pss_cons (ps_for PassesOwn.never rfl (pi_range1 rfl B.range (pa_cons pe_int pa_nil)) (pg_name (i := 4) sc_law_row.nd rfl (Or.inl rfl))
          (pss_one (ps_if (PW.pt (pw_and (pt_cmpR op_gt (pv 0) pe_int (nomark _)) (pw_and1 (pt_cmpR op_lt (pe_callB call_len_seq (by rfl) B.len boot_len (pa_cons (pv 3) pa_nil)) (pv 2) (nomark _)))))
              (pss_cons (ps_expr (pe_bm PySem.F.plainAttrs_list PySem.F.slot_list_append PySem.F.type_list_append mt_append (pv 3) (pa_cons (pe_op op_mod (pe_callTy call_int1 (by rfl) B.int boot_int (pa_cons (pv 0) pa_nil)) pe_int) pa_nil)))
                (pss_one (ps_set (i := 0) sc_law_row.nd rfl (Or.inl rfl) (pe_op op_fdiv (pv 0) pe_int))))
              pss_nil)))
        (pss_one (ps_ret (pv 3))))
      pss_nil)
    (pss_cons (ps_set (i := 5) sc_law_row.nd rfl (Or.inl rfl) (pe_op op_mod (pe_callTy call_int1 (by rfl) B.int boot_int (pa_cons (pe_op op_add (pe_op op_add (pe_op op_mul (pv 0) pe_int) (pe_op op_mul (pv 1) pe_int)) pe_int) pa_nil)) pe_int))
    (pss_cons (ps_for PassesOwn.never rfl (pi_range1 rfl B.range (pa_cons (pv 2) pa_nil)) (pg_name (i := 4) sc_law_row.nd rfl (Or.inl rfl))
      (pss_cons (ps_set (i := 5) sc_law_row.nd rfl (Or.inl rfl) (pe_op op_mod (pe_callTy call_int1 (by rfl) B.int boot_int (pa_cons (pe_op op_add (pe_op op_add (pe_op op_mul (pv 5) pe_int) (pe_op op_mul pe_int (pv 4))) pe_int) pa_nil)) pe_int))
        (pss_one (ps_expr (pe_bm PySem.F.plainAttrs_list PySem.F.slot_list_append PySem.F.type_list_append mt_append (pv 3) (pa_cons (pe_op op_mod (pe_callTy call_int1 (by rfl) B.int boot_int (pa_cons (pe_op op_fdiv (pv 5) pe_int) pa_nil)) pe_int) pa_nil))))))
    (pss_one (ps_ret (pv 3)))))))), ?_⟩), g, F.kp, F.bindsN fun _ _ _ _ _ _ us hl => match us, hl with | [_, _, _], _ => rfl⟩
  · obtain ⟨c, k, m, rfl, _⟩ := h
    rfl
  · obtain ⟨c0, k, m, rfl, hk0, hk, hm0, hm, q⟩ := h
    refine ⟨Nat.zero_le _, fun p hp => ?_⟩
    have s1 : Stp [] H (upd H p (.lst [])) := .new hp
    have h1 : (upd H p (.lst [])) p = some (.lst (([] : List Int).map V.int)) := upd_same
    generalize upd H p (.lst []) = H1 at s1 h1 ⊢
    refine ⟨fun σ2 H2 => H2 = H1 ∧ ∃ c : Int, 0 ≤ c ∧ σ2 = [some (.int c), some (.int k), some (.int m), some (.ref p), none, none], ?_, ?_⟩
    · refine ⟨_, rfl, _, _, rfl, rfl, _, rfl, i_iteD (fun hc => ?_) (fun hc => ?_)⟩
      · refine ⟨_, rfl, _, _, rfl, rfl, .inl ⟨by decide, by decide⟩, _, _, rfl, rfl, rfl, 1 - 2 * c0, by omega, rfl⟩
      · exact ⟨rfl, c0, by omega, rfl⟩
    · rintro σ2 H2 ⟨rfl, c, hc, rfl⟩
      refine ⟨_, rfl, _, _, rfl, rfl, ⟨by decide, by decide, by decide⟩, _, _, rfl, rfl, _, rfl, i_iteD (fun hbig => ?_) (fun hsm => ?_)⟩
      · refine ⟨60, rfl, by decide, by decide, ?_⟩
        refine for_range (lo := 0) (n := 60) (fun j σ3 H3 => ∃ (y6 : Option V) (c : Int) (es : List Int), σ3 = [some (.int c), some (.int k), some (.int m), some (.ref p), y6, none] ∧ Stp [] H H3 ∧ H3 p = some (.lst (es.map V.int)) ∧ es.length ≤ j)
          ⟨none, c, [], rfl, s1, h1, Nat.zero_le _⟩ ?_ ?_
        · rintro j σ3 H3 hj ⟨z6, c1, es, rfl, s3, h3, hl3⟩
          repeat walk_at "h"
          refine i_iteD (fun hpos => ?_) (fun _ => ?_)
          · repeat walk_at "h"
            refine ⟨p, _, rfl, .inl (SqL.of h3), ?_⟩
            repeat walk_at "h"
            refine i_iteD (fun hl => ?_) (fun _ => ?_)
            · refine ⟨_, rfl, .inl ⟨rfl, _, SqL.of h3⟩, _, rfl, .inl ⟨_, rfl, _, _, rfl, rfl, (by show (0 : Int) < 1000; decide), _, _, _, rfl, rfl, h3, ?_, ?_⟩⟩
              · rw [List.length_map]; exact Nat.lt_of_le_of_lt (show es.length ≤ 70000 by omega) (by decide)
              · refine ⟨_, rfl, _, _, rfl, rfl, ⟨by decide, by decide⟩, _, _, es ++ [c1 % 1000], rfl, s3.mut hp, ?_, ?_⟩
                · rw [upd_same, map_snoc]
                · rw [List.length_append, List.length_singleton]; omega
            · exact ⟨_, c1, es, rfl, s3, h3, by omega⟩
          · exact ⟨_, c1, es, rfl, s3, h3, by omega⟩
        · rintro σ3 H3 ⟨z6, c1, es, rfl, s3, h3, hl3⟩
          exact ⟨_, rfl, q p es H3 hp h3 (by omega) s3⟩
      · have hc18 : c < 1000000000000000000 := by
          have e : (10 : Int) ^ (18 : Int).toNat = 1000000000000000000 := by decide
          rw [e] at hsm; omega
        repeat walk_at "h"
        refine .inl ⟨_, rfl, ?_⟩
        repeat walk_at "h"
        refine ⟨m, rfl, by omega, by omega, ?_⟩
        refine for_range (lo := 0) (n := m.toNat) (fun j σ3 H3 => ∃ (y6 : Option V) (sd : Int) (es : List Int), σ3 = [some (.int c), some (.int k), some (.int m), some (.ref p), y6, some (.int sd)] ∧ 0 ≤ sd ∧ sd < 2147483647 ∧ Stp [] H H3 ∧ H3 p = some (.lst (es.map V.int)) ∧ es.length ≤ j)
          ⟨none, _, [], rfl, Int.emod_nonneg _ (by decide), Int.emod_lt_of_pos _ (by decide), s1, h1, Nat.zero_le _⟩ ?_ ?_
        · rintro j σ3 H3 hj ⟨z6, sd, es, rfl, hs0, hs1, s3, h3, hl3⟩
          refine ⟨_, rfl, _, _, rfl, rfl, .inl ⟨by omega, by omega⟩, _, rfl, _, _, rfl, rfl, .inl ⟨by decide, by decide⟩, _, _, rfl, rfl, _, _, rfl, rfl, .inl ⟨_, rfl, _, _, rfl, rfl, (by show (0 : Int) < 2147483647; decide), ?_⟩⟩
          refine ⟨_, rfl, .inl ⟨rfl, _, SqL.of h3⟩, _, rfl, _, _, rfl, rfl, ⟨by decide, by decide⟩, .inl ⟨_, rfl, _, _, rfl, rfl, (by show (0 : Int) < 1000; decide), _, _, _, rfl, rfl, h3, ?_, ?_⟩⟩
          · rw [List.length_map]; exact Nat.lt_of_le_of_lt (show es.length ≤ 70000 by omega) (by decide)
          · refine ⟨_, _, es ++ [(sd * 16807 + 7 * (0 + (j : Int)) + 1) % 2147483647 / 997 % 1000], rfl, Int.emod_nonneg _ (by decide), Int.emod_lt_of_pos _ (by decide), s3.mut hp, ?_, ?_⟩
            · rw [upd_same, map_snoc]
            · rw [List.length_append, List.length_singleton]; omega
        · rintro σ3 H3 ⟨z6, sd, es, rfl, hs0, hs1, s3, h3, hl3⟩
          exact ⟨_, rfl, q p es H3 hp h3 (by omega) s3⟩
def spBox (K : PySem.W.Frag) : Sp := fun vs H Q _ => ∃ (l : Addr) (ns : List Int) (a b : Int), vs = [.ref l, .int a, .int b] ∧ 0 ≤ a ∧ a ≤ b ∧ b ≤ 100 ∧ SqL K H l (ns.map V.int) ∧
  ∀ (p dg : Addr) (H1 : Hp), H p = none → H dg = none → Box K p dg H1 → Stp [] H H1 → Q (.ref p) H1
theorem cal_box (F : Df K mg d_law_box) (B : Blt mg) (C_law_cell : Cal P w K mg base lv_law_cell "_law_cell" ["script", "k"] (spCel K)) (C_law_row : Cal P w K mg base lv_law_row "_law_row" ["cell", "k", "many"] spRow) : Cal P w K mg base lv_law_box "_law_box" ["script", "first", "last"] (spBox K) := by
  obtain ⟨f, fd, F, g⟩ := F
  refine ⟨f, fd, F.ok sc_law_box (fun vs H Q E h => ?_) (fun cdv A outer s H vs Q E hr h => ⟨_, PSs.nox
    (pss_cons (ps_set (i := 3) sc_law_box.nd rfl (Or.inl rfl) (pe_lst pa_nil))
    (pss_cons (ps_for PassesOwn.never rfl (pi_range2 rfl B.range (pa_cons (pv 1) (pa_cons (pv 2) pa_nil))) (pg_name (i := 4) sc_law_box.nd rfl (Or.inl rfl))
      (pss_one (ps_set (i := 3) sc_law_box.nd rfl (Or.inl rfl) (pe_op op_cat (pv 3) (pc_call C_law_row (hr.mono (by decide)) (by rfl) (pa_cons (pc_call C_law_cell (hr.mono (by decide)) (by rfl) (pa_cons (pv 0) (pa_cons (pv 4) pa_nil))) (pa_cons (pv 4) (pa_cons pe_int pa_nil))))))))
    (pss_one (ps_ret (pe_lst (pa_cons (pv 3) (pa_cons pe_int pa_nil))))))), ?_⟩), g, F.kp, F.bindsN fun _ _ _ _ _ _ us hl => match us, hl with | [_, _, _], _ => rfl⟩
  · obtain ⟨l, ns, a, b, rfl, _⟩ := h
    rfl
  · obtain ⟨l, ns, a, b, rfl, ha, hab, hb, hs, q⟩ := h
    refine ⟨Nat.zero_le _, fun p hp => ?_⟩
    have s1 : Stp [] H (upd H p (.lst [])) := .new hp
    have h1 : (upd H p (.lst [])) p = some (.lst (([] : List Int).map V.int)) := upd_same
    generalize upd H p (.lst []) = H1 at s1 h1 ⊢
    repeat walk_at "h"
    refine ⟨a, b, rfl, ⟨by omega, by omega, by omega, by omega⟩, ?_⟩
    refine for_range (lo := a) (n := (b - a).toNat) (fun i σ H' => ∃ (p' : Addr) (y4 : Option V) (ds : List Int), σ = [some (.ref l), some (.int a), some (.int b), some (.ref p'), y4] ∧ Stp [] H H' ∧ H p' = none ∧ H' p' = some (.lst (ds.map V.int)) ∧ ds.length ≤ 1000 * i)
      ⟨p, none, [], rfl, s1, hp, h1, Nat.zero_le _⟩ ?_ ?_
    · rintro i σ H' hi ⟨p', y4, ds, rfl, s', hp', hd, hl⟩
      repeat walk_at "h"
      refine ⟨l, ns, a + (i : Int), rfl, by omega, s'.seq hs (by simp), fun c0 => ?_⟩
      repeat walk_at "h"
      refine ⟨c0, a + (i : Int), 12, rfl, by omega, by omega, by decide, by decide, fun p2 ds2 H2 n2 e2 l2 s2 => ?_⟩
      have hd2 := s2.keep _ _ hd (by simp)
      have s02 := s'.trans s2
      refine ⟨p', p2, _, _, rfl, rfl, hd2, e2, ?_, fun p3 n3 => ?_⟩
      · rw [List.length_map, List.length_map]
        exact Nat.le_trans (show ds.length + ds2.length ≤ 200000 by omega) (by decide)
      · repeat walk_at "h"
        refine ⟨p3, _, ds ++ ds2, rfl, s02.add n3, s02.free n3 (by simp), by rw [upd_same, List.map_append], ?_⟩
        rw [List.length_append]; omega
    · rintro σ H' ⟨p', y4, ds, rfl, s', hp', hd, hl⟩
      repeat walk_at "h"
      refine ⟨(by decide : 2 ≤ sizeLine), fun p3 n3 => ?_⟩
      have ne : p' ≠ p3 := by rintro rfl; rw [n3] at hd; cases hd
      exact q p3 p' _ (s'.free n3 (by simp)) hp' ⟨⟨0, upd_same, Int.le_refl _⟩, ⟨ds, by rw [upd_ne ne]; exact hd⟩, ne⟩ (s'.add n3)
end

/-! ### names, values -/
abbrev Nm := Int × Int
abbrev nmD (n : Nm) : Dt := .tup [.num n.1, .num n.2]
theorem nmAt {K : PySem.W.Frag} {H : Hp} {v : V} {n : Nm} (h : DtAt K H v (nmD n)) : ∃ a, v = .ref a ∧ TupAt K H a [.int n.1, .int n.2] := by
  cases h with
  | @tup a xs _ h1 h2 =>
    cases h2 with
    | cons r1 t =>
      cases t with
      | cons r2 t =>
        cases t
        cases r1
        cases r2
        exact ⟨a, rfl, h1⟩
theorem nm_mk {K : PySem.W.Frag} {H : Hp} {a : Addr} {n : Nm} (h : H a = some (.tup [.int n.1, .int n.2])) : DtAt K H (.ref a) (nmD n) := .tup (.inl h) (.cons (.num _) (.cons (.num _) .nil))
def okPeer (p : Int) : Bool := decide (0 ≤ p) && decide (p ≤ 7)
def okName (n : Nm) : Bool := okPeer n.1 && (decide (0 ≤ n.2) && decide (n.2 ≤ 4294967295))
structure Con0 (mg : Str → Option Value) : Prop where
section
variable {P : Program} {w : World} {K : PySem.W.Frag} {mg : Str → Option Value} {base : Heap}
def spIsPeer : Sp := fun vs H Q _ => ∃ n : Int, vs = [.int n] ∧ Q (.bl (okPeer n)) H
def spIsName (K : PySem.W.Frag) : Sp := fun vs H Q _ => ∃ (v : V) (n : Nm), vs = [v] ∧ DtAt K H v (nmD n) ∧ Q (.bl (okName n)) H
def plainC (c : Nat) : Bool := decide (97 ≤ c) && decide (c ≤ 122)
def plain (z : Str) : Bool := z.cps.toList.all plainC
def spPlain : Sp := fun vs H Q _ => ∃ z : Str, vs = [.str z] ∧ z.length ≤ 1000 ∧ ∀ H1, Stp [] H H1 → Q (.bl (plain z)) H1
end

/-! ### values -/
inductive Va where
  | non
  | num (i : Int)
  | txt (x : Str)
  | tg (s : Str) (n : Nm)
  deriving DecidableEq
def vaD : Va → Dt
  | .non => .non
  | .num i => .num i
  | .txt x => .txt x
  | .tg s n => .tup [.txt s, nmD n]
theorem vaD_flat (x : Va) : (vaD x).flat = true := by cases x <;> simp [vaD, Dt.flat, Dt.flatAll]
theorem vaD_depth (x : Va) : (vaD x).depth ≤ 2 := by cases x <;> simp [vaD, Dt.depth, Dt.depthAll]
theorem vaD_pure (x : Va) : (vaD x).pure = true := by cases x <;> simp [vaD, Dt.pure, Dt.pureAll]
theorem nmD_inj {a b : Nm} (h : nmD a = nmD b) : a = b := by
  injection h with h; injection h with h1 h; injection h with h2 _; injection h1 with h1; injection h2 with h2
  exact Prod.ext h1 h2
theorem vaD_inj {a b : Va} (h : vaD a = vaD b) : a = b := by
  cases a <;> cases b <;> simp only [vaD, Dt.num.injEq, Dt.txt.injEq, Dt.tup.injEq, List.cons.injEq, and_true, reduceCtorEq, Prod.mk.injEq, Va.num.injEq, Va.txt.injEq, Va.tg.injEq] at h ⊢
  · exact h
  · exact h
  · exact ⟨h.1, Prod.ext h.2.1 h.2.2⟩
theorem tgAt {K : PySem.W.Frag} {H : Hp} {v : V} {s : Str} {n : Nm} (h : DtAt K H v (vaD (.tg s n))) : ∃ a b, v = .ref a ∧ TupAt K H a [.str s, .ref b] ∧ DtAt K H (.ref b) (nmD n) := by
  cases h with
  | @tup a xs _ h1 h2 =>
    cases h2 with
    | cons r1 t =>
      cases t with
      | @cons v2 _ _ _ r2 t =>
        cases t
        cases r1
        obtain ⟨b, rfl, hb⟩ := nmAt r2
        exact ⟨a, b, rfl, h1, r2⟩
theorem nonAt {K : PySem.W.Frag} {H : Hp} {v : V} (h : DtAt K H v .non) : v = .non := by cases h; rfl
theorem numAt {K : PySem.W.Frag} {H : Hp} {v : V} {i : Int} (h : DtAt K H v (.num i)) : v = .int i := by cases h; rfl
theorem txtAt {K : PySem.W.Frag} {H : Hp} {v : V} {x : Str} (h : DtAt K H v (.txt x)) : v = .str x := by cases h; rfl
abbrev strRef : Str := Str.ofString "ref"
def okField (z : Str) : Bool := (decide ((1 : Int) ≤ (z.length : Int)) && decide ((z.length : Int) ≤ 8)) && plain z
def okRef : Va → Bool
  | .tg s n => decide (s = strRef) && okName n
  | _ => false
def okVa : Va → Bool
  | .non => true
  | .num i => decide (-1000000 ≤ i) && decide (i ≤ 1000000)
  | .txt z => decide ((z.length : Int) ≤ 20) && plain z
  | .tg s n => decide (s = strRef) && okName n
/-- texts that can be measured -/
def smallVa : Va → Prop
  | .txt z => z.length ≤ 1000
  | _ => True
section
variable {P : Program} {w : World} {K : PySem.W.Frag} {mg : Str → Option Value} {base : Heap}
def spIsField : Sp := fun vs H Q _ => ∃ z : Str, vs = [.str z] ∧ z.length ≤ 1000 ∧ ∀ H1, Stp [] H H1 → Q (.bl (okField z)) H1
def spReference (K : PySem.W.Frag) : Sp := fun vs H Q _ => ∃ (v : V) (n : Nm), vs = [v] ∧ DtAt K H v (nmD n) ∧ ∀ u H1, Stp [] H H1 → DtAt K H1 u (vaD (.tg strRef n)) → Q u H1
theorem cal_reference (F : Df K mg d_reference) : Cal P w K mg base lv_reference "reference" ["name"] (spReference K) := by
  obtain ⟨f, fd, F, g⟩ := F
  refine ⟨f, fd, F.ok sc_reference (fun vs H Q E h => ?_) (fun cdv A outer s H vs Q E hr h => ⟨_, PSs.nox
    (pss_one (ps_ret (pe_tup (pa_cons pe_str (pa_cons (pv 0) pa_nil))))), ?_⟩), g, F.kp, F.bindsN fun _ _ _ _ _ _ us hl => match us, hl with | [_], _ => rfl⟩
  · obtain ⟨v, n, rfl, _⟩ := h
    rfl
  · obtain ⟨v, n, rfl, hn, q⟩ := h
    repeat walk_at "g"
    refine ⟨(by decide : 2 ≤ sizeLine), fun p hp => ?_⟩
    have s1 : Stp [] H (upd H p (.tup [.str strRef, v])) := .new hp
    exact q _ _ s1 (.tup (.inl upd_same) (.cons (.txt _) (.cons (DtAt.stp s1 _ _ rfl hn) .nil)))
def spIsRef (K : PySem.W.Frag) : Sp := fun vs H Q _ => ∃ (v : V) (x : Va), vs = [v] ∧ DtAt K H v (vaD x) ∧ Q (.bl (okRef x)) H
def spTarget (K : PySem.W.Frag) : Sp := fun vs H Q _ => ∃ (v : V) (x : Va), vs = [v] ∧ DtAt K H v (vaD x) ∧ ∀ u, (okRef x = false → u = .non) → (∀ s n, x = .tg s n → okRef x = true → DtAt K H u (nmD n)) → Q u H
def spIsValue (K : PySem.W.Frag) : Sp := fun vs H Q _ => ∃ (v : V) (x : Va), vs = [v] ∧ DtAt K H v (vaD x) ∧ smallVa x ∧ ∀ H1, Stp [] H H1 → Q (.bl (okVa x)) H1
end

/-! ### stamps, changes -/
structure Con1 (mg : Str → Option Value) : Prop where
def okStamp (n : Nm) : Bool := (decide (1 ≤ n.1) && decide (n.1 ≤ 4294967295)) && okPeer n.2
structure Ch where
  st : Nm
  nm : Nm
  fd : Str
  va : Va
  deriving DecidableEq
def chD (c : Ch) : Dt := .tup [nmD c.st, nmD c.nm, .txt c.fd, vaD c.va]
theorem chD_flat (c : Ch) : (chD c).flat = true := by simp [chD, Dt.flat, Dt.flatAll, vaD_flat]
theorem chD_pure (c : Ch) : (chD c).pure = true := by simp [chD, Dt.pure, Dt.pureAll, vaD_pure]
theorem chD_depth (c : Ch) : (chD c).depth ≤ 3 := by
  have := vaD_depth c.va
  simp [chD, Dt.depth, Dt.depthAll]; omega
theorem chD_inj {a b : Ch} (h : chD a = chD b) : a = b := by
  obtain ⟨s1, n1, f1, v1⟩ := a
  obtain ⟨s2, n2, f2, v2⟩ := b
  simp only [chD, Dt.tup.injEq, List.cons.injEq, and_true, Dt.num.injEq, Dt.txt.injEq] at h
  obtain ⟨⟨h1, h2⟩, ⟨h3, h4⟩, h5, h6⟩ := h
  have e1 : s1 = s2 := Prod.ext h1 h2
  have e2 : n1 = n2 := Prod.ext h3 h4
  rw [e1, e2, h5, vaD_inj h6]
theorem chAt {K : PySem.W.Frag} {H : Hp} {v : V} {c : Ch} (h : DtAt K H v (chD c)) : ∃ a s n x, v = .ref a ∧ TupAt K H a [s, n, .str c.fd, x] ∧ DtAt K H s (nmD c.st) ∧ DtAt K H n (nmD c.nm) ∧ DtAt K H x (vaD c.va) := by
  cases h with
  | @tup a xs _ h1 h2 =>
    cases h2 with
    | cons r1 t =>
      cases t with
      | cons r2 t =>
        cases t with
        | cons r3 t =>
          cases t with
          | cons r4 t =>
            cases t
            cases r3
            exact ⟨a, _, _, _, rfl, h1, r1, r2, r4⟩
theorem ch_mk {K : PySem.W.Frag} {H : Hp} {a : Addr} {s n x : V} {c : Ch} (h : TupAt K H a [s, n, .str c.fd, x]) (h1 : DtAt K H s (nmD c.st)) (h2 : DtAt K H n (nmD c.nm)) (h3 : DtAt K H x (vaD c.va)) : DtAt K H (.ref a) (chD c) :=
  .tup h (.cons h1 (.cons h2 (.cons (.txt _) (.cons h3 .nil))))
def okChange (c : Ch) : Bool := okStamp c.st && (okName c.nm && (okField c.fd && okVa c.va))
section
variable {P : Program} {w : World} {K : PySem.W.Frag} {mg : Str → Option Value} {base : Heap}
def spIsStamp (K : PySem.W.Frag) : Sp := fun vs H Q _ => ∃ (v : V) (n : Nm), vs = [v] ∧ DtAt K H v (nmD n) ∧ Q (.bl (okStamp n)) H
def spIsChange (K : PySem.W.Frag) : Sp := fun vs H Q _ => ∃ (v : V) (c : Ch), vs = [v] ∧ DtAt K H v (chD c) ∧ c.fd.length ≤ 1000 ∧ smallVa c.va ∧ ∀ H1, Stp [] H H1 → Q (.bl (okChange c)) H1
end

section
variable {P : Program} {w : World} {K : PySem.W.Frag} {mg : Str → Option Value} {base : Heap}
/-- an item of a written list at a drawn place -/
theorem pick {xs : List V} {d : Int} (h0 : 0 ≤ d) (h1 : d < (xs.length : Int)) : ∃ v, atI xs d = some v ∧ v ∈ xs := by
  have hl : d.toNat < xs.length := by omega
  exact ⟨xs[d.toNat], at_of (j := d.toNat) (by omega) (List.getElem?_eq_getElem hl), List.getElem_mem hl⟩
theorem dts_map {cs : List Ch} {c : Ch} {vs : List V} {v : V} {H : Hp} (h : DtsAt K H vs (cs.map chD)) (k : DtAt K H v (chD c)) : DtsAt K H (vs ++ [v]) ((cs ++ [c]).map chD) := by
  rw [List.map_append]; exact h.append (.cons k .nil)
theorem chs_stp {cs : List Ch} {vs : List V} {H H1 : Hp} {M : List Addr} (h : DtsAt K H vs (cs.map chD)) (s : Stp M H H1) : DtsAt K H1 vs (cs.map chD) :=
  DtsAt.stp s _ _ (by
    induction cs with
    | nil => rfl
    | cons c cs ih => 
      rw [List.map_cons, Dt.flatAll, chD_flat]
      have : Dt.flatAll (cs.map chD) = true := by
        clear ih h
        induction cs with
        | nil => rfl
        | cons c cs ih => rw [List.map_cons, Dt.flatAll, chD_flat, ih]; rfl
      rw [this]; rfl) h
theorem ch_get {cs : List Ch} {vs : List V} {H : Hp} {i : Nat} {v : V} (h : DtsAt K H vs (cs.map chD)) (e : vs[i]? = some v) : ∃ c, cs[i]? = some c ∧ DtAt K H v (chD c) := by
  obtain ⟨d, h1, h2⟩ := h.getV e
  rw [List.getElem?_map] at h1
  obtain ⟨c, hc, rfl⟩ := Option.map_eq_some_iff.mp h1
  exact ⟨c, hc, h2⟩
end

/-! ### what is drawn: names, fields, values, changes (laws with _law_pick) -/
section
variable {P : Program} {w : World} {K : PySem.W.Frag} {mg : Str → Option Value} {base : Heap}
theorem nmD_inj2 {a b : Nm} (h : nmD a = nmD b) : a = b := by
  injection h with h
  injection h with h1 h
  injection h with h2 _
  injection h1 with h1
  injection h2 with h2
  exact Prod.ext h1 h2
theorem nmD_beq (a b : Nm) : Dt.beq (nmD a) (nmD b) = decide (a = b) := by
  by_cases h : a = b
  · rw [h, Dt.beq_self]; simp
  · rw [decide_eq_false h]
    refine Bool.eq_false_iff.mpr fun z => h (nmD_inj2 ((Dt.beq_iff rfl rfl).mp z))
theorem nms_flat2 : ∀ ss : List Nm, Dt.flatAll (ss.map nmD) = true
  | [] => rfl
  | s :: ss => by rw [List.map_cons, Dt.flatAll, nms_flat2 ss]; rfl
theorem nms_dep : ∀ ss : List Nm, Dt.depthAll (ss.map nmD) ≤ 1
  | [] => Nat.zero_le _
  | s :: ss => by
    have := nms_dep ss
    rw [List.map_cons, Dt.depthAll]
    have e : (nmD s).depth = 1 := by simp [Dt.depth, Dt.depthAll]
    omega
def spPick (K : PySem.W.Frag) : Sp := fun vs H Q _ => ∃ (b dg r : Addr) (ws : List V) (ns : List Nm), vs = [.ref b, .ref r] ∧ Box K b dg H ∧ H r = some (.lst ws) ∧ DtsAt K H ws (ns.map nmD) ∧ 0 < ns.length ∧ ns.length ≤ 900 ∧ r ∉ [b] ∧
  ∀ (v : V) (n : Nm) (H1 : Hp), n ∈ ns → DtAt K H1 v (nmD n) → Stp [b] H H1 → Box K b dg H1 → Q v H1
theorem cal_law_pick (F : Df K mg d_law_pick) (B : Blt mg) (C_law_draw : Cal P w K mg base lv_law_draw "_law_draw" ["box", "many"] (spDraw K)) : Cal P w K mg base lv_law_pick "_law_pick" ["box", "row"] (spPick K) := by
  obtain ⟨f, fd, F, g⟩ := F
  refine ⟨f, fd, F.ok sc_law_pick (fun vs H Q E h => ?_) (fun cdv A outer s H vs Q E hr h => ⟨_, PSs.nox
    (pss_one (ps_ret (pe_ix (ix_listK (K := K) rfl) (pv 1) (pe_op op_mod (pe_callTy call_int1 (by rfl) B.int boot_int (pa_cons (pc_call C_law_draw (hr.mono (by decide)) (by rfl) (pa_cons (pv 0) (pa_cons pe_int pa_nil))) pa_nil)) (pe_callB call_len_seq (by rfl) B.len boot_len (pa_cons (pv 1) pa_nil))) (fun _ _ => rfl)))), ?_⟩), g, F.kp, F.bindsN fun _ _ _ _ _ _ us hl => match us, hl with | [_, _], _ => rfl⟩
  · obtain ⟨b, dg, r, ws, ns, rfl, _⟩ := h
    rfl
  · obtain ⟨b, dg, r, ws, ns, rfl, hb, hr, hd, l0, l1, rb, q⟩ := h
    have wl : ws.length = ns.length := by have := hd.length; rwa [List.length_map] at this
    repeat walk_at "h"
    refine ⟨b, dg, 900, rfl, by decide, hb, fun d H1 d0 d1 s1 b1 => ?_⟩
    have hr1 := s1.keep _ _ hr rb
    have hd1 := DtsAt.stp s1 _ _ (nms_flat2 _) hd
    repeat walk_at "h"
    refine .inl ⟨d, rfl, ?_⟩
    repeat walk_at "h"
    refine ⟨r, ws, rfl, .inl (SqL.of hr1), ?_⟩
    have n0 : (0 : Int) < (ws.length : Int) := by omega
    refine i_I (show (0 : Int) < (ws.length : Int) from n0) ?_
    have m0 := Int.emod_nonneg d (b := (ws.length : Int)) (by omega)
    have m1 := Int.emod_lt_of_pos d n0
    obtain ⟨k, hk⟩ : ∃ k : Nat, d % (ws.length : Int) = (k : Int) := ⟨(d % (ws.length : Int)).toNat, by omega⟩
    rw [hk] at m1 ⊢
    have lk : k < ws.length := by omega
    obtain ⟨v, hv⟩ : ∃ v, ws[k]? = some v := ⟨_, List.getElem?_eq_getElem lk⟩
    obtain ⟨dd, hdd, dv⟩ := hd1.getV hv
    rw [List.getElem?_map] at hdd
    obtain ⟨n, hn, rfl⟩ := Option.map_eq_some_iff.mp hdd
    refine i_IxL (SqL.of hr1) (at_of (j := k) rfl hv) ?_
    exact q v n H1 (List.mem_of_getElem? hn) dv s1 b1
def fieldsD : List Str := [Str.ofString "a", Str.ofString "b", Str.ofString "next", Str.ofString "z"]
def spFieldD (K : PySem.W.Frag) : Sp := fun vs H Q _ => ∃ (b dg : Addr), vs = [.ref b] ∧ Box K b dg H ∧
  ∀ (z : Str) (H1 : Hp), z ∈ fieldsD → Stp [b] H H1 → Box K b dg H1 → Q (.str z) H1
def textsD : List Str := [Str.ofString "", Str.ofString "a", Str.ofString "zb", Str.ofString "sea"]
/-- the values that are drawn -/
def drawnVaD (ns : List Nm) : Va → Prop
  | .non => True
  | .num i => -4 ≤ i ∧ i ≤ 4
  | .txt z => z ∈ textsD
  | .tg s n => s = strRef ∧ n ∈ ns
def spWorthD (K : PySem.W.Frag) : Sp := fun vs H Q _ => ∃ (b dg r : Addr) (ws : List V) (ns : List Nm), vs = [.ref b, .ref r] ∧ Box K b dg H ∧ H r = some (.lst ws) ∧ DtsAt K H ws (ns.map nmD) ∧ 0 < ns.length ∧ ns.length ≤ 900 ∧ r ∉ [b] ∧
  ∀ (v : V) (x : Va) (H1 : Hp), drawnVaD ns x → DtAt K H1 v (vaD x) → Stp [b] H H1 → Box K b dg H1 → Q v H1
theorem cal_worthD (F : Df K mg d_law_worth) (C_law_draw : Cal P w K mg base lv_law_draw "_law_draw" ["box", "many"] (spDraw K)) (C_law_pick : Cal P w K mg base lv_law_pick "_law_pick" ["box", "row"] (spPick K)) : Cal P w K mg base lv_law_worth "_law_worth" ["box", "names"] (spWorthD K) := by
  obtain ⟨f, fd, F, g⟩ := F
  refine ⟨f, fd, F.ok sc_law_worth (fun vs H Q E h => ?_) (fun cdv A outer s H vs Q E hr h => ⟨_, PSs.nox
    (pss_cons (ps_set (i := 2) sc_law_worth.nd rfl (Or.inl rfl) (pc_call C_law_draw (hr.mono (by decide)) (by rfl) (pa_cons (pv 0) (pa_cons pe_int pa_nil))))
    (pss_cons (ps_if (pt_cmpR op_lt (pv 2) pe_int (nomark _))
      (pss_one (ps_ret (pe_tup (pa_cons pe_str (pa_cons (pc_call C_law_pick (hr.mono (by decide)) (by rfl) (pa_cons (pv 0) (pa_cons (pv 1) pa_nil))) pa_nil)))))
      pss_nil)
    (pss_cons (ps_if (pt_cmpR op_eq (pv 2) pe_int (nomark _))
      (pss_one (ps_ret pe_non))
      pss_nil)
    (pss_cons (ps_if (pt_cmpR op_eq (pv 2) pe_int (nomark _))
      (pss_one (ps_ret (pe_ix (ix_listK (K := K) rfl) (pe_lst (pa_cons pe_str (pa_cons pe_str (pa_cons pe_str (pa_cons pe_str pa_nil))))) (pc_call C_law_draw (hr.mono (by decide)) (by rfl) (pa_cons (pv 0) (pa_cons pe_int pa_nil))) (fun _ _ => rfl))))
      pss_nil)
    (pss_one (ps_ret (pe_op op_sub (pc_call C_law_draw (hr.mono (by decide)) (by rfl) (pa_cons (pv 0) (pa_cons pe_int pa_nil))) pe_int))))))), ?_⟩), g, F.kp, F.bindsN fun _ _ _ _ _ _ us hl => match us, hl with | [_, _], _ => rfl⟩
  · obtain ⟨b, dg, r, ws, ns, rfl, _⟩ := h
    rfl
  · obtain ⟨b, dg, r, ws, ns, rfl, hb, hr, hd, l0, l1, rb, q⟩ := h
    repeat walk_at "g"
    refine ⟨b, dg, 7, rfl, by decide, hb, fun k H1 k0 k1 s1 b1 => ?_⟩
    have hr1 := s1.keep _ _ hr rb
    have hd1 := DtsAt.stp s1 _ _ (nms_flat2 _) hd
    repeat walk_at "g"
    refine i_iteD (fun h1 => ?_) (fun h1 => ?_)
    · repeat walk_at "g"
      refine ⟨b, dg, r, ws, ns, rfl, b1, hr1, hd1, l0, l1, rb, fun v n H2 hn hv s2 b2 => ?_⟩
      repeat walk_at "g"
      refine ⟨(by decide : 2 ≤ sizeLine), fun p hp => ?_⟩
      have s3 : Stp [] H2 (upd H2 p (.tup [.str strRef, v])) := .new hp
      exact q _ (.tg strRef n) _ ⟨rfl, hn⟩ (.tup (.inl upd_same) (.cons (.txt _) (.cons (DtAt.stp s3 _ _ rfl hv) .nil))) ((s1.trans s2).trans (s3.mono (by simp))) (b2.grow s3)
    · repeat walk_at "g"
      refine i_iteD (fun h2 => ?_) (fun h2 => ?_)
      · repeat walk_at "g"
        exact q _ .non H1 trivial .non s1 b1
      · repeat walk_at "g"
        refine i_iteD (fun h3 => ?_) (fun h3 => ?_)
        · repeat walk_at "g"
          refine ⟨(by decide : 4 ≤ sizeLine), fun p hp => ?_⟩
          have s2 : Stp [] H1 (upd H1 p (.lst (textsD.map V.str))) := .new hp
          repeat walk_at "g"
          refine ⟨b, dg, 4, rfl, by decide, b1.grow s2, fun x H2 x0 x1 s3 b3 => ?_⟩
          have hl : H2 p = some (.lst (textsD.map V.str)) := s3.keep _ _ upd_same (b1.nin hp)
          obtain ⟨v, hv, hm⟩ := pick (xs := textsD.map V.str) x0 (by simpa [textsD] using x1)
          obtain ⟨z, hz, rfl⟩ := List.mem_map.mp hm
          refine i_IxL (SqL.of hl) hv ?_
          exact q _ (.txt z) H2 hz (.txt _) ((s1.trans (s2.mono (by simp))).trans s3) b3
        · repeat walk_at "g"
          refine ⟨b, dg, 9, rfl, by decide, b1, fun x H2 x0 x1 s2 b2 => ?_⟩
          repeat walk_at "g"
          exact q _ (.num (x - 4)) H2 ⟨by omega, by omega⟩ (.num _) (s1.trans s2) b2
/-- the changes that are drawn -/
def drawnD (ns : List Nm) (c : Ch) : Prop := (1 ≤ c.st.1 ∧ c.st.1 ≤ 9) ∧ (0 ≤ c.st.2 ∧ c.st.2 ≤ 2) ∧ c.nm ∈ ns ∧ c.fd ∈ fieldsD ∧ drawnVaD ns c.va
def namesD : List Nm := [(0, 0), (0, 1), (1, 0), (2, 0), (2, 1)]
def spChangesD (K : PySem.W.Frag) : Sp := fun vs H Q _ => ∃ (b dg : Addr) (m : Int), vs = [.ref b, .int m] ∧ 0 ≤ m ∧ m ≤ 100 ∧ Box K b dg H ∧
  ∀ (p : Addr) (ws : List V) (cs : List Ch) (H1 : Hp), H p = none → H1 p = some (.lst ws) → DtsAt K H1 ws (cs.map chD) → (∀ c ∈ cs, drawnD namesD c) → (cs.map Ch.st).Nodup → (cs.length : Int) ≤ m → Stp [b] H H1 → Box K b dg H1 → Q (.ref p) H1
end

/-! ### cells: the values with the latest stamps -/
abbrev Cel := (Nm × Str) × (Nm × Va)
def keyC (k : Nm × Str) : NestedKey := (Dt.tup [nmD k.1, .txt k.2]).key
def datC (v : Nm × Va) : Dt := .tup [nmD v.1, vaD v.2]
def toD (cl : List Cel) : List NKD := cl.map fun p => (keyC p.1, datC p.2)
def getC (cl : List Cel) (k : Nm × Str) : Option (Nm × Va) := (cl.find? fun p => decide (p.1 = k)).map (·.2)
def putC (cl : List Cel) (k : Nm × Str) (v : Nm × Va) : List Cel :=
  if (cl.any fun p => decide (p.1 = k)) = true then cl.map (fun p => if p.1 = k then (p.1, v) else p) else cl ++ [(k, v)]
theorem keyC_inj {a b : Nm × Str} (h : keyC a = keyC b) : a = b := by
  have e := Dt.key_inj _ _ rfl rfl h
  injection e with e
  injection e with e1 e
  injection e with e2 _
  injection e2 with e2
  exact Prod.ext (nmD_inj e1) e2
theorem datC_inj {a b : Nm × Va} (h : datC a = datC b) : a = b := by
  injection h with e
  injection e with e1 e
  injection e with e2 _
  exact Prod.ext (nmD_inj e1) (vaD_inj e2)
theorem datC_flat (v : Nm × Va) : (datC v).flat = true := by simp [datC, Dt.flat, Dt.flatAll, vaD_flat]
theorem datC_pure (v : Nm × Va) : (datC v).pure = true := by simp [datC, Dt.pure, Dt.pureAll, vaD_pure]
theorem datC_depth (v : Nm × Va) : (datC v).depth ≤ 3 := by
  have := vaD_depth v.2
  simp [datC, Dt.depth, Dt.depthAll]; omega
theorem valD_toD (cl : List Cel) (k : Nm × Str) : valD (toD cl) (keyC k) = (getC cl k).map datC := by
  induction cl with
  | nil => rfl
  | cons p r ih =>
    by_cases e : p.1 = k
    · simp [toD, valD, getC, List.find?_cons, e]
    · have e' : ¬ keyC p.1 = keyC k := fun z => e (keyC_inj z)
      rw [show valD (toD (p :: r)) (keyC k) = valD (toD r) (keyC k) by simp [toD, valD, List.find?_cons, e'], ih]
      simp [getC, List.find?_cons, e]
theorem toD_put (cl : List Cel) (k : Nm × Str) (v : Nm × Va) : toD (putC cl k v) = putD (toD cl) (keyC k) (datC v) := by
  have e : ((toD cl).any fun p => decide (p.1 = keyC k)) = cl.any fun p => decide (p.1 = k) := by
    unfold toD
    rw [List.any_map]
    congr 1
    funext p
    have : (keyC p.1 = keyC k) ↔ p.1 = k := ⟨keyC_inj, fun z => by rw [z]⟩
    simp [this]
  unfold putC putD
  rw [e]
  split
  · unfold toD
    rw [List.map_map, List.map_map]
    refine List.map_congr_left fun p _ => ?_
    by_cases c : p.1 = k
    · simp [c]
    · have : ¬ keyC p.1 = keyC k := fun z => c (keyC_inj z)
      simp [c, this]
  · simp [toD]
theorem getC_put (cl : List Cel) (k j : Nm × Str) (v : Nm × Va) : getC (putC cl k v) j = if j = k then some v else getC cl j := by
  have h := valD_toD (putC cl k v) j
  rw [toD_put, valD_put] at h
  by_cases c : j = k
  · rw [if_pos c]
    rw [if_pos (by rw [c])] at h
    cases q : getC (putC cl k v) j with
    | none => rw [q] at h; cases h
    | some x =>
      rw [q] at h
      rw [datC_inj (Option.some.inj h)]
  · rw [if_neg c]
    rw [if_neg (fun z => c (keyC_inj z)), valD_toD] at h
    cases q : getC (putC cl k v) j with
    | none => rw [q] at h; cases r : getC cl j with
      | none => rfl
      | some y => rw [r] at h; cases h
    | some x =>
      rw [q] at h
      cases r : getC cl j with
      | none => rw [r] at h; cases h
      | some y => rw [r] at h; rw [datC_inj (Option.some.inj h)]
theorem toD_len (cl : List Cel) : (toD cl).length = cl.length := by simp [toD]
/-- == of two such dicts -/
theorem dEq_toD {a b : List Cel} (na : ((toD a).map (·.1)).Nodup) (nb : ((toD b).map (·.1)).Nodup) : dEq (toD a) (toD b) = true ↔ ∀ k, getC a k = getC b k := by
  have pu : ∀ {c : List Cel}, ∀ p ∈ toD c, p.2.pure = true := fun {c} p hp => by
    obtain ⟨q, _, rfl⟩ := List.mem_map.mp hp
    exact datC_pure _
  rw [dEq_iff na nb pu pu]
  constructor
  · intro h k
    have := h (keyC k)
    rw [valD_toD, valD_toD] at this
    cases q : getC a k with
    | none => rw [q] at this; cases r : getC b k with
      | none => rfl
      | some y => rw [r] at this; cases this
    | some x =>
      rw [q] at this
      cases r : getC b k with
      | none => rw [r] at this; cases this
      | some y => rw [r] at this; rw [datC_inj (Option.some.inj this)]
  · intro h k
    by_cases hk : ∃ j, keyC j = k
    · obtain ⟨j, rfl⟩ := hk
      rw [valD_toD, valD_toD, h j]
    · have no : ∀ c : List Cel, valD (toD c) k = none := fun c => by
        cases q : valD (toD c) k with
        | none => rfl
        | some d =>
          obtain ⟨p, _, e⟩ := List.mem_map.mp (valD_mem q)
          exact absurd ⟨p.1, congrArg Prod.fst e⟩ hk
      rw [no, no]
/-! ### the latest of each -/
def stpC (cl : List Cel) (c : Ch) : List Cel := match getC cl (c.nm, c.fd) with
  | none => putC cl (c.nm, c.fd) (c.st, c.va)
  | some v => if ltP2 v.1 c.st = true then putC cl (c.nm, c.fd) (c.st, c.va) else cl
/-- does taking c make a difference? -/
def newC (cl : List Cel) (c : Ch) : Bool := match getC cl (c.nm, c.fd) with
  | none => true
  | some v => ltP2 v.1 c.st
theorem stpC_eq (cl : List Cel) (c : Ch) : stpC cl c = if newC cl c = true then putC cl (c.nm, c.fd) (c.st, c.va) else cl := by
  unfold stpC newC
  cases getC cl (c.nm, c.fd) <;> simp
def cellsOf (cs : List Ch) : List Cel := cs.foldl stpC []
theorem cellsOf_snoc (cs : List Ch) (c : Ch) : cellsOf (cs ++ [c]) = stpC (cellsOf cs) c := by simp [cellsOf]
theorem putC_len (cl : List Cel) (k : Nm × Str) (v : Nm × Va) : (putC cl k v).length ≤ cl.length + 1 := by
  unfold putC; split <;> simp
theorem stpC_len (cl : List Cel) (c : Ch) : (stpC cl c).length ≤ cl.length + 1 := by
  rw [stpC_eq]; split
  · exact putC_len ..
  · omega
theorem cellsOf_len (cs : List Ch) : (cellsOf cs).length ≤ cs.length := by
  have h : ∀ (cs : List Ch) (cl : List Cel), (cs.foldl stpC cl).length ≤ cl.length + cs.length := by
    intro cs
    induction cs with
    | nil => intro cl; simp
    | cons c cs ih => intro cl; have h1 := ih (stpC cl c); have h2 := stpC_len cl c; simp only [List.foldl_cons, List.length_cons]; omega
  have := h cs []
  simpa [cellsOf] using this
theorem ltP2_irr (a : Int × Int) : ltP2 a a = false := by simp [ltP2]
theorem ltP2_tri {a b : Int × Int} (h1 : ltP2 a b = false) (h2 : ltP2 b a = false) : a = b := by
  simp only [ltP2, decide_eq_false_iff_not] at h1 h2
  exact Prod.ext (by omega) (by omega)
theorem ltP2_trans {a b c : Int × Int} (h1 : ltP2 b a = false) (h2 : ltP2 c b = false) : ltP2 c a = false := by
  simp only [ltP2, decide_eq_false_iff_not] at h1 h2 ⊢
  omega
/-- the cell k of the row cs: a change of it that no later one hides -/
def Best (cs : List Ch) (k : Nm × Str) : Option (Nm × Va) → Prop
  | none => ∀ c ∈ cs, (c.nm, c.fd) ≠ k
  | some v => (∃ c ∈ cs, (c.nm, c.fd) = k ∧ v = (c.st, c.va)) ∧ ∀ c ∈ cs, (c.nm, c.fd) = k → ltP2 v.1 c.st = false
theorem best_cells (cs : List Ch) (k : Nm × Str) : Best cs k (getC (cellsOf cs) k) := by
  have h : ∀ (n : Nat) (cs : List Ch), cs.length = n → Best cs k (getC (cellsOf cs) k) := by
    intro n
    induction n with
    | zero =>
      intro cs e
      rw [List.eq_nil_of_length_eq_zero e]
      exact fun c hc => nomatch hc
    | succ n ih =>
      intro cs e
      obtain ⟨r, c, rfl⟩ : ∃ r c, cs = r ++ [c] := ⟨cs.dropLast, cs.getLast (by rintro rfl; cases e), (List.dropLast_concat_getLast _).symm⟩
      have b := ih r (by simpa using e)
      rw [cellsOf_snoc, stpC_eq]
      unfold newC
      by_cases ek : (c.nm, c.fd) = k
      · rw [ek]
        cases q : getC (cellsOf r) k with
        | none =>
          rw [q] at b
          simp only [if_true]
          rw [getC_put, if_pos rfl]
          refine ⟨⟨c, by simp, ek, rfl⟩, fun c' hc' e' => ?_⟩
          rcases List.mem_append.mp hc' with h | h
          · exact absurd e' (b c' h)
          · rw [List.mem_singleton.mp h]; exact ltP2_irr _
        | some v =>
          rw [q] at b
          obtain ⟨⟨c0, h0, e0, rfl⟩, hb⟩ := b
          by_cases hl : ltP2 c0.st c.st = true
          · simp only [hl, if_true]
            rw [getC_put, if_pos rfl]
            refine ⟨⟨c, by simp, ek, rfl⟩, fun c' hc' e' => ?_⟩
            rcases List.mem_append.mp hc' with h | h
            · have := hb c' h e'
              simp only [ltP2, decide_eq_false_iff_not, decide_eq_true_eq] at this hl ⊢
              omega
            · rw [List.mem_singleton.mp h]; exact ltP2_irr _
          · simp only [hl, Bool.false_eq_true, if_false]
            rw [q]
            refine ⟨⟨c0, by simp [h0], e0, rfl⟩, fun c' hc' e' => ?_⟩
            rcases List.mem_append.mp hc' with h | h
            · exact hb c' h e'
            · rw [List.mem_singleton.mp h]; simpa using hl
      · have e2 : ∀ b : Bool, getC (if b = true then putC (cellsOf r) (c.nm, c.fd) (c.st, c.va) else cellsOf r) k = getC (cellsOf r) k := by
          intro b
          cases b
          · rw [if_neg (by simp)]
          · rw [if_pos rfl, getC_put, if_neg (fun z => ek z.symm)]
        rw [e2]
        cases q : getC (cellsOf r) k with
        | none =>
          rw [q] at b
          intro c' hc'
          rcases List.mem_append.mp hc' with h | h
          · exact b c' h
          · rw [List.mem_singleton.mp h]; exact ek
        | some v =>
          rw [q] at b
          obtain ⟨⟨c0, h0, e0, ev⟩, hb⟩ := b
          refine ⟨⟨c0, by simp [h0], e0, ev⟩, fun c' hc' e' => ?_⟩
          rcases List.mem_append.mp hc' with h | h
          · exact hb c' h e'
          · rw [List.mem_singleton.mp h] at e'; exact absurd e' ek
  exact h _ cs rfl
/-- rows with the same changes, each stamp one change: the same cells -/
theorem cells_same {as bs : List Ch} (m : ∀ c, c ∈ as ↔ c ∈ bs) (u : ∀ c ∈ as, ∀ d ∈ as, c.st = d.st → c = d) (k : Nm × Str) : getC (cellsOf as) k = getC (cellsOf bs) k := by
  have ha := best_cells as k
  have hb := best_cells bs k
  cases q : getC (cellsOf as) k with
  | none =>
    rw [q] at ha
    cases r : getC (cellsOf bs) k with
    | none => rfl
    | some v =>
      rw [r] at hb
      obtain ⟨⟨c, hc, e, _⟩, _⟩ := hb
      exact absurd e (ha c ((m c).mpr hc))
  | some v =>
    rw [q] at ha
    obtain ⟨⟨c, hc, e, rfl⟩, hm⟩ := ha
    cases r : getC (cellsOf bs) k with
    | none => rw [r] at hb; exact absurd e (hb c ((m c).mp hc))
    | some v2 =>
      rw [r] at hb
      obtain ⟨⟨c2, hc2, e2, rfl⟩, hm2⟩ := hb
      have h1 := hm c2 ((m c2).mpr hc2) e2
      have h2 := hm2 c ((m c).mp hc) e
      have := u c hc c2 ((m c2).mpr hc2) (ltP2_tri h1 h2)
      rw [this]
section
variable {P : Program} {w : World} {K : PySem.W.Frag} {mg : Str → Option Value} {base : Heap}
def spCells (P : Program) (w : World) (K : PySem.W.Frag) : Sp := fun vs H Q _ => ∃ (r : Addr) (ws : List V) (cs : List Ch), vs = [.ref r] ∧ SqL K H r ws ∧ DtsAt K H ws (cs.map chD) ∧ ws.length ≤ 1000 ∧
  ∀ (p : Addr) (kvs : List NKV) (H1 : Hp), H p = none → ND P w K H1 p kvs → DD K H1 kvs (toD (cellsOf cs)) → Stp [] H H1 → Q (.ref p) H1
/-- the key of a cell -/
theorem key_mk {H : Hp} {t : Addr} {n : V} {c : Ch} (h : TupAt K H t [n, .str c.fd]) (hn : DtAt K H n (nmD c.nm)) : KyAt K H (.ref t) (keyC (c.nm, c.fd)) :=
  KyAt.of (d := .tup [nmD c.nm, .txt c.fd]) (.tup h (.cons hn (.cons (.txt _) .nil)))
theorem cel_at {H : Hp} {v : V} {x : Nm × Va} (h : DtAt K H v (datC x)) : ∃ a s y, v = .ref a ∧ TupAt K H a [s, y] ∧ DtAt K H s (nmD x.1) ∧ DtAt K H y (vaD x.2) := by
  cases h with
  | @tup a xs _ h1 h2 =>
    cases h2 with
    | cons r1 t =>
      cases t with
      | cons r2 t =>
        cases t
        exact ⟨a, _, _, rfl, h1, r1, r2⟩
theorem cal_law_cells (F : Df K mg d_law_cells) : Cal P w K mg base lv_law_cells "_law_cells" ["changes"] (spCells P w K) := by
  obtain ⟨f, fd, F, g⟩ := F
  refine ⟨f, fd, F.ok sc_law_cells (fun vs H Q E h => ?_) (fun cdv A outer s H vs Q E hr h => ⟨_, PSs.nox
    (pss_cons (ps_set (i := 1) sc_law_cells.nd rfl (Or.inl rfl) pe_dnewN)
    (pss_cons (ps_for PassesOwn.never rfl (pi_list (pv 0)) (pg_name (i := 2) sc_law_cells.nd rfl (Or.inl rfl))
      (pss_cons (ps_set (i := 3) sc_law_cells.nd rfl (Or.inl rfl) (pe_tup (pa_cons (pe_ix (ix_tupK (K := K) rfl) (pv 2) pe_int (fun _ _ => rfl)) (pa_cons (pe_ix (ix_tupK (K := K) rfl) (pv 2) pe_int (fun _ _ => rfl)) pa_nil))))
        (pss_one (ps_if (PW.pt (pw_or (pt_cmp (pc_nnotinK (P := P) (w := w) (K := K) rfl rfl rfl hr (pv 3) (pv 1))) (pw_or1 (pt_cmpR (op_gtOK (K := K) rfl hr.units) (pe_ix (ix_tupK (K := K) rfl) (pv 2) pe_int (fun _ _ => rfl)) (pe_ix (ix_tupK (K := K) rfl) (pe_ngetK (P := P) (w := w) (K := K) rfl rfl rfl hr (pv 1) (pv 3) (fun _ _ => rfl)) pe_int (fun _ _ => rfl)) (nomark _)))))
          (pss_one (ps_nput hr (pv 1) (pv 3) (pe_tup (pa_cons (pe_ix (ix_tupK (K := K) rfl) (pv 2) pe_int (fun _ _ => rfl)) (pa_cons (pe_ix (ix_tupK (K := K) rfl) (pv 2) pe_int (fun _ _ => rfl)) pa_nil))) rfl))
          pss_nil))))
    (pss_one (ps_ret (pv 1))))), ?_⟩), g, F.kp, F.bindsN fun _ _ _ _ _ _ us hl => match us, hl with | [_], _ => rfl⟩
  · obtain ⟨r, ws, cs, rfl, _⟩ := h
    rfl
  · obtain ⟨r, ws, cs, rfl, hr1, hd, hl, q⟩ := h
    repeat walk_at "g"
    intro t H1 nt n1 s1
    repeat walk_at "g"
    refine ⟨r, rfl, ⟨ws, s1.seq hr1 (by simp)⟩, ?_⟩
    have wl : ws.length = cs.length := by have := hd.length; rwa [List.length_map] at this
    refine for_list (xs := ws) (fun i σ H' => ∃ (y2 y3 : Option V) (kvs : List NKV), σ = [some (.ref r), some (.ref t), y2, y3] ∧ Stp [] H H' ∧ ND P w K H' t kvs ∧ DD K H' kvs (toD (cellsOf (cs.take i))))
      ⟨_, _, [], rfl, s1, n1, .nil⟩ (fun i σ H' _ ⟨_, _, _, _, h, _⟩ => h.seq hr1 (by simp)) ?_ ?_
    · rintro i x σ H2 hx ⟨y2, y3, kvs, rfl, s2, n2, d2⟩
      repeat walk_at "g"
      have dx := chs_stp hd s2
      obtain ⟨c, hc, dc⟩ := ch_get dx hx
      obtain ⟨a, s, n, v, rfl, ha, hs, hn, hv⟩ := chAt dc
      refine i_IxT ha.sqt (at_of (j := 1) rfl rfl) ?_
      repeat walk_at "g"
      refine i_IxT ha.sqt (at_of (j := 2) rfl rfl) ?_
      repeat walk_at "g"
      refine ⟨(by decide : 2 ≤ sizeLine), fun k hk => ?_⟩
      have s3 : Stp [] H2 (upd H2 k (.tup [n, .str c.fd])) := .new hk
      have n3 := n2.stp s3 (by simp)
      have d3 := d2.stp s3
      have a3 := ha.stp s3
      have k3 : KyAt K (upd H2 k (.tup [n, .str c.fd])) (.ref k) (keyC (c.nm, c.fd)) := key_mk (.inl upd_same) (DtAt.stp s3 _ _ rfl hn)
      have hs3 := DtAt.stp s3 _ _ rfl hs
      have hv3 := DtAt.stp s3 _ _ (vaD_flat c.va) hv
      have cl : (toD (cellsOf (cs.take i))).length ≤ 1000 := by
        rw [toD_len]
        have h1 := cellsOf_len (cs.take i)
        rw [List.length_take] at h1
        have hi : i < ws.length := (List.getElem?_eq_some_iff.mp hx).1
        omega
      have tk : cs.take (i + 1) = cs.take i ++ [c] := by rw [List.take_add_one, hc]; rfl
      -- the put
      have put : ∀ (y3 : Option V), newC (cellsOf (cs.take i)) c = true → ∀ (u : Addr), upd H2 k (.tup [n, .str c.fd]) u = none → ∀ (H5 : Hp), ND P w K H5 t (putK kvs (keyC (c.nm, c.fd)) (.ref u)) → (∀ (H0 : Hp) M, Stp M H0 (upd (upd H2 k (.tup [n, .str c.fd])) u (.tup [s, v])) → H0 t = none → Stp M H0 H5) → Stp [t] (upd (upd H2 k (.tup [n, .str c.fd])) u (.tup [s, v])) H5 →
          ∃ (y2 y3 : Option V) (kvs : List NKV), [some (.ref r), some (.ref t), some (.ref a), some (.ref k)] = [some (.ref r), some (.ref t), y2, y3] ∧ Stp [] H H5 ∧ ND P w K H5 t kvs ∧ DD K H5 kvs (toD (cellsOf (cs.take (i + 1)))) := by
        intro y3 hnew u hu H5 n5 f5 t5
        have s4 : Stp [] (upd H2 k (.tup [n, .str c.fd])) (upd (upd H2 k (.tup [n, .str c.fd])) u (.tup [s, v])) := .new hu
        refine ⟨_, _, _, rfl, f5 H [] ((s2.trans s3).trans s4) nt, n5, ?_⟩
        rw [tk, cellsOf_snoc, stpC_eq, if_pos hnew, toD_put]
        refine ((d3.stp s4).stp t5).put (DtAt.stp t5 _ _ (datC_flat (c.st, c.va)) (.tup (.inl upd_same) (.cons (DtAt.stp s4 _ _ rfl hs3) (.cons (DtAt.stp s4 _ _ (vaD_flat c.va) hv3) .nil)))) (datC_flat _) (Nat.le_trans (datC_depth _) (by decide))
      repeat walk_at "g"
      refine ⟨t, k, kvs, keyC (c.nm, c.fd), rfl, rfl, n3.r, k3, ?_⟩
      repeat walk_at "g"
      have dv := d3.val (keyC (c.nm, c.fd))
      rw [valD_toD] at dv
      cases hq : getC (cellsOf (cs.take i)) (c.nm, c.fd) with
      | none =>
        rw [hq] at dv
        rcases dv with ⟨e1, _⟩ | ⟨_, _, _, e2, _⟩
        · rw [e1]
          refine i_ite (fun _ => ?_) (fun z => nomatch z)
          refine i_ite (fun _ => ?_) (fun z => nomatch z)
          repeat walk_at "g"
          refine i_IxT a3.sqt (at_of (j := 0) rfl rfl) ?_
          repeat walk_at "g"
          refine i_IxT a3.sqt (at_of (j := 3) rfl rfl) ?_
          repeat walk_at "g"
          refine ⟨(by decide : 2 ≤ sizeLine), fun u hu => ?_⟩
          have s4 : Stp [] (upd H2 k (.tup [n, .str c.fd])) (upd (upd H2 k (.tup [n, .str c.fd])) u (.tup [s, v])) := .new hu
          repeat walk_at "g"
          exact ⟨t, k, kvs, keyC (c.nm, c.fd), rfl, rfl, n3.stp s4 (by simp), k3.stp s4, by rw [d3.len]; exact Nat.lt_of_le_of_lt cl (by decide), fun H5 n5 t5 f5 => put y3 (by unfold newC; rw [hq]) u hu H5 n5 f5 t5⟩
        · cases e2
      | some x =>
        rw [hq] at dv
        rcases dv with ⟨_, e2⟩ | ⟨y, d, e1, e2, hy, _⟩
        · cases e2
        · obtain rfl := Option.some.inj e2
          rw [e1]
          refine i_ite (fun z => nomatch z) (fun _ => ?_)
          obtain ⟨ya, ys, yv, rfl, hya, hys, hyv⟩ := cel_at hy
          repeat walk_at "g"
          refine i_IxT a3.sqt (at_of (j := 0) rfl rfl) ?_
          repeat walk_at "g"
          refine ⟨t, k, kvs, keyC (c.nm, c.fd), _, rfl, rfl, n3.r, k3, e1, ?_⟩
          repeat walk_at "g"
          refine i_IxT hya.sqt (at_of (j := 0) rfl rfl) ?_
          repeat walk_at "g"
          refine i_GtP (a := c.st) (b := x.1) hs3 hys ?_
          repeat walk_at "g"
          refine i_ite (fun hlt => ?_) (fun hlt => ?_)
          · repeat walk_at "g"
            refine i_IxT a3.sqt (at_of (j := 0) rfl rfl) ?_
            repeat walk_at "g"
            refine i_IxT a3.sqt (at_of (j := 3) rfl rfl) ?_
            repeat walk_at "g"
            refine ⟨(by decide : 2 ≤ sizeLine), fun u hu => ?_⟩
            have s4 : Stp [] (upd H2 k (.tup [n, .str c.fd])) (upd (upd H2 k (.tup [n, .str c.fd])) u (.tup [s, v])) := .new hu
            repeat walk_at "g"
            exact ⟨t, k, kvs, keyC (c.nm, c.fd), rfl, rfl, n3.stp s4 (by simp), k3.stp s4, by rw [d3.len]; exact Nat.lt_of_le_of_lt cl (by decide), fun H5 n5 t5 f5 => put y3 (by unfold newC; rw [hq]; exact hlt) u hu H5 n5 f5 t5⟩
          · repeat walk_at "g"
            refine ⟨_, _, kvs, rfl, s2.trans s3, n3, ?_⟩
            rw [tk, cellsOf_snoc, stpC_eq, if_neg (by unfold newC; rw [hq]; simp [hlt])]
            exact d3
    · rintro σ H2 ⟨y2, y3, kvs, rfl, s2, n2, d2⟩
      repeat walk_at "g"
      rw [wl, List.take_length] at d2
      exact q t kvs H2 nt n2 d2 s2
end

/-! ### states -/
section
variable {P : Program} {w : World} {K : PySem.W.Frag} {mg : Str → Option Value} {base : Heap} {C : Addr}
def stOf (K : PySem.W.Frag) (H : Hp) (o : V) : Option Nm → Prop
  | none => o = .non
  | some b => DtAt K H o (nmD b)
theorem stOf.stp {H H1 : Hp} {M : List Addr} {o : V} {x : Option Nm} (h : stOf K H o x) (s : Stp M H H1) : stOf K H1 o x := by
  cases x with
  | none => exact h
  | some b => exact DtAt.stp s _ _ rfl h
def isLater (a : Nm) : Option Nm → Bool
  | none => true
  | some b => ltP2 b a
def spLater (K : PySem.W.Frag) : Sp := fun vs H Q _ => ∃ (s o : V) (a : Nm) (x : Option Nm), vs = [s, o] ∧ DtAt K H s (nmD a) ∧ stOf K H o x ∧ Q (.bl (isLater a x)) H
theorem cal_is_later (F : Df K mg d_is_later) : Cal P w K mg base lv_is_later "is_later" ["stamp", "other"] (spLater K) := by
  obtain ⟨f, fd, F, g⟩ := F
  refine ⟨f, fd, F.ok sc_is_later (fun vs H Q E h => ?_) (fun cdv A outer s H vs Q E hr h => ⟨_, PSs.nox
    (pss_one (ps_ret (pe_or (pe_cmpR op_isN (pv 1) pe_non (nomark _)) (pe_one (pe_cmpR (op_gtOK (K := K) rfl hr.units) (pv 0) (pv 1) (nomark _)))))), ?_⟩), g, F.kp, F.bindsN fun _ _ _ _ _ _ us hl => match us, hl with | [_, _], _ => rfl⟩
  · obtain ⟨s, o, a, x, rfl, _⟩ := h
    rfl
  · obtain ⟨sv, o, a, x, rfl, hs, ho, q⟩ := h
    repeat walk_at "g"
    refine ⟨rfl, ?_⟩
    cases x with
    | none =>
      obtain rfl : o = .non := ho
      exact ⟨_, rfl, i_ite (fun _ => q) (fun z => by simp at z)⟩
    | some b =>
      have ho' : DtAt K H o (nmD b) := ho
      obtain ⟨oa, rfl, _⟩ := nmAt ho'
      refine ⟨_, rfl, i_ite (fun z => by simp at z) (fun _ => ?_)⟩
      repeat walk_at "g"
      exact i_GtP (a := a) (b := b) hs ho' q
abbrev cellsS : Str := Str.ofString "cells"
def SAt (C : Addr) (H : Hp) (x dx d : Addr) : Prop := H x = some (.ins C dx [(cellsS, .ref d)])
def spInit (P : Program) (w : World) (K : PySem.W.Frag) (C : Addr) : Sp := fun vs H Q _ => ∃ (x dx : Addr), vs = [.ref x] ∧ H x = some (.ins C dx []) ∧
  ∀ (d : Addr) (H1 : Hp), H d = none → SAt C H1 x dx d → ND P w K H1 d [] → Stp [x] H H1 → Q .non H1
theorem mki_State_init (F : Dfi K mg C "State" d_State_init) (CL_State : Cls K C) (NA : NoAttr K C "cells") : Mki P w K mg base lv_State_init C "State" ["self"] (spInit P w K C) := by
  obtain ⟨f, fd, F, g⟩ := F
  refine ⟨f, fd, F.ok sc_State_init (fun vs H Q E h => ?_) (fun cdv A outer s H vs Q E hr h => ⟨_, PSs.nox
    (pss_one (ps_fld (pv 0) pe_dnewN rfl)), ?_⟩), g, F.kp, F.bindsN fun _ _ _ _ _ _ us hl => match us, hl with | [_], _ => rfl⟩
  · obtain ⟨x, dx, rfl, _⟩ := h
    rfl
  · obtain ⟨x, dx, rfl, hx, q⟩ := h
    repeat walk_at "g"
    intro d H1 nd n1 s1
    repeat walk_at "g"
    have h1 := s1.keep _ _ hx (by simp)
    have dx' : d ≠ x := fun z => by rw [z, hx] at nd; cases nd
    refine ⟨x, C, dx, [], rfl, h1, CL_State, NA, by decide, ?_⟩
    have s2 : Stp [x] H1 (upd H1 x (.ins C dx (putF "cells" (.ref d) []))) := .wr (by simp) h1 fun _ z => nomatch z
    exact q d _ nd upd_same (n1.stp s2 (by simpa using dx')) ((s1.mono (by simp)).trans s2)
/-- a state at x: its cells at d are cl -/
structure StA (P : Program) (w : World) (K : PySem.W.Frag) (C : Addr) (H : Hp) (x dx d : Addr) (cl : List Cel) : Prop where
  at_ : SAt C H x dx d
  nd : ∃ kvs, ND P w K H d kvs ∧ DD K H kvs (toD cl)
theorem StA.stp {H H1 : Hp} {M : List Addr} {x dx d : Addr} {cl : List Cel} (h : StA P w K C H x dx d cl) (s : Stp M H H1) (nx : x ∉ M) (nd : d ∉ M) : StA P w K C H1 x dx d cl :=
  ⟨s.keep _ _ h.at_ nx, let ⟨kvs, a, b⟩ := h.nd; ⟨kvs, a.stp s nd, b.stp s⟩⟩
theorem NDR.stp {H H1 : Hp} {M : List Addr} {d : Addr} {kvs : List NKV} (h : NDR P w K H d kvs) (s : Stp M H H1) (n : d ∉ M) : NDR P w K H1 d kvs :=
  let ⟨xs, e, k, q⟩ := h
  ⟨xs, e.elim (fun e => .inl (s.keep _ _ e n)) (fun ⟨o, e⟩ => .inr ⟨o, s.keep _ _ e n⟩), k.stp s, q⟩
/-- .. while it may be walked -/
structure StR (P : Program) (w : World) (K : PySem.W.Frag) (C : Addr) (H : Hp) (x dx d : Addr) (cl : List Cel) : Prop where
  at_ : SAt C H x dx d
  nd : ∃ kvs, NDR P w K H d kvs ∧ DD K H kvs (toD cl)
theorem StA.r {H : Hp} {x dx d : Addr} {cl : List Cel} (h : StA P w K C H x dx d cl) : StR P w K C H x dx d cl := ⟨h.at_, let ⟨kvs, a, b⟩ := h.nd; ⟨kvs, a.r, b⟩⟩
theorem StR.stp {H H1 : Hp} {M : List Addr} {x dx d : Addr} {cl : List Cel} (h : StR P w K C H x dx d cl) (s : Stp M H H1) (nx : x ∉ M) (nd : d ∉ M) : StR P w K C H1 x dx d cl :=
  ⟨s.keep _ _ h.at_ nx, let ⟨kvs, a, b⟩ := h.nd; ⟨kvs, a.stp s nd, b.stp s⟩⟩
def spStamp (P : Program) (w : World) (K : PySem.W.Frag) (C : Addr) : Sp := fun vs H Q _ => ∃ (x dx d : Addr) (n : V) (k : Nm × Str) (cl : List Cel), vs = [.ref x, n, .str k.2] ∧ DtAt K H n (nmD k.1) ∧ StR P w K C H x dx d cl ∧
  ∀ (v : V) (H1 : Hp), Stp [] H H1 → stOf K H1 v ((getC cl k).map (·.1)) → Q v H1
theorem key_mk2 {H : Hp} {t : Addr} {n : V} {k : Nm × Str} (h : TupAt K H t [n, .str k.2]) (hn : DtAt K H n (nmD k.1)) : KyAt K H (.ref t) (keyC k) :=
  KyAt.of (d := .tup [nmD k.1, .txt k.2]) (.tup h (.cons hn (.cons (.txt _) .nil)))
theorem mth_State_stamp (F : Dfm K C d_State_stamp) (CL_State : Cls K C) (NA : NoAttr K C "cells") : Mth P w K mg base lv_State_stamp C "stamp" ["self", "name", "field"] (spStamp P w K C) := by
  obtain ⟨f, fd, F, g⟩ := F
  refine ⟨f, fd, F.ok sc_State_stamp (fun vs H Q E h => ?_) (fun cdv A outer s H vs Q E hr h => ⟨_, PSs.nox
    (pss_cons (ps_if (pt_cmp (pc_nnotinK (P := P) (w := w) (K := K) rfl rfl rfl hr (pe_tup (pa_cons (pv 1) (pa_cons (pv 2) pa_nil))) (pe_fld (pv 0) rfl)))
      (pss_one (ps_ret pe_non))
      pss_nil)
    (pss_one (ps_ret (pe_ix (ix_tupK (K := K) rfl) (pe_ngetK (P := P) (w := w) (K := K) rfl rfl rfl hr (pe_fld (pv 0) rfl) (pe_tup (pa_cons (pv 1) (pa_cons (pv 2) pa_nil))) (fun _ _ => rfl)) pe_int (fun _ _ => rfl))))), ?_⟩), g, F.kp, F.bindsN fun _ _ _ _ _ _ us hl => match us, hl with | [_, _, _], _ => rfl⟩
  · obtain ⟨x, dx, d, n, k, cl, rfl, _⟩ := h
    rfl
  · obtain ⟨x, dx, d, n, k, cl, rfl, hn, ⟨hx, kvs, hd, hc⟩, q⟩ := h
    repeat walk_at "g"
    refine ⟨(by decide : 2 ≤ sizeLine), fun t ht => ?_⟩
    have s1 : Stp [] H (upd H t (.tup [n, .str k.2])) := .new ht
    repeat walk_at "g"
    have k1 : KyAt K (upd H t (.tup [n, .str k.2])) (.ref t) (keyC k) := key_mk2 (.inl upd_same) (DtAt.stp s1 _ _ rfl hn)
    have x1 := s1.keep _ _ hx (by simp)
    refine ⟨x, C, dx, _, .ref d, rfl, x1, CL_State, NA, rfl, ?_⟩
    refine ⟨d, t, kvs, keyC k, rfl, rfl, (hd.stp s1 (by simp)), k1, ?_⟩
    repeat walk_at "g"
    have dv := (hc.stp s1).val (keyC k)
    rw [valD_toD] at dv
    cases hq : getC cl k with
    | none =>
      rw [hq] at dv
      rcases dv with ⟨e1, _⟩ | ⟨_, _, _, e2, _⟩
      · rw [e1]
        refine i_ite (fun _ => ?_) (fun z => nomatch z)
        repeat walk_at "g"
        exact q _ _ s1 (by rw [hq]; exact rfl)
      · cases e2
    | some p =>
      rw [hq] at dv
      rcases dv with ⟨_, e2⟩ | ⟨y, dd, e1, e2, hy, _⟩
      · cases e2
      · obtain rfl := Option.some.inj e2
        rw [e1]
        refine i_ite (fun z => nomatch z) (fun _ => ?_)
        repeat walk_at "g"
        refine ⟨x, C, dx, _, .ref d, rfl, x1, CL_State, NA, rfl, ?_⟩
        repeat walk_at "g"
        refine ⟨(by decide : 2 ≤ sizeLine), fun t2 ht2 => ?_⟩
        have s2 : Stp [] (upd H t (.tup [n, .str k.2])) (upd (upd H t (.tup [n, .str k.2])) t2 (.tup [n, .str k.2])) := .new ht2
        refine ⟨d, t2, kvs, keyC k, y, rfl, rfl, ((hd.stp s1 (by simp)).stp s2 (by simp)), key_mk2 (.inl upd_same) (DtAt.stp (s1.trans s2) _ _ rfl hn), e1, ?_⟩
        have hy2 := DtAt.stp s2 _ _ (datC_flat p) hy
        obtain ⟨ya, ys, yv, rfl, hya, hys, hyv⟩ := cel_at hy2
        repeat walk_at "g"
        refine i_IxT hya.sqt (at_of (j := 0) rfl rfl) ?_
        exact q _ _ (s1.trans s2) (by rw [hq]; exact hys)
def vaO : Option (Nm × Va) → Va
  | none => .non
  | some p => p.2
def spValue (P : Program) (w : World) (K : PySem.W.Frag) (C : Addr) : Sp := fun vs H Q _ => ∃ (x dx d : Addr) (n : V) (k : Nm × Str) (cl : List Cel), vs = [.ref x, n, .str k.2] ∧ DtAt K H n (nmD k.1) ∧ StR P w K C H x dx d cl ∧
  ∀ (v : V) (H1 : Hp), Stp [] H H1 → DtAt K H1 v (vaD (vaO (getC cl k))) → Q v H1
theorem mth_State_value (F : Dfm K C d_State_value) (CL_State : Cls K C) (NA : NoAttr K C "cells") : Mth P w K mg base lv_State_value C "value" ["self", "name", "field"] (spValue P w K C) := by
  obtain ⟨f, fd, F, g⟩ := F
  refine ⟨f, fd, F.ok sc_State_value (fun vs H Q E h => ?_) (fun cdv A outer s H vs Q E hr h => ⟨_, PSs.nox
    (pss_cons (ps_if (pt_cmp (pc_nnotinK (P := P) (w := w) (K := K) rfl rfl rfl hr (pe_tup (pa_cons (pv 1) (pa_cons (pv 2) pa_nil))) (pe_fld (pv 0) rfl)))
      (pss_one (ps_ret pe_non))
      pss_nil)
    (pss_one (ps_ret (pe_ix (ix_tupK (K := K) rfl) (pe_ngetK (P := P) (w := w) (K := K) rfl rfl rfl hr (pe_fld (pv 0) rfl) (pe_tup (pa_cons (pv 1) (pa_cons (pv 2) pa_nil))) (fun _ _ => rfl)) pe_int (fun _ _ => rfl))))), ?_⟩), g, F.kp, F.bindsN fun _ _ _ _ _ _ us hl => match us, hl with | [_, _, _], _ => rfl⟩
  · obtain ⟨x, dx, d, n, k, cl, rfl, _⟩ := h
    rfl
  · obtain ⟨x, dx, d, n, k, cl, rfl, hn, ⟨hx, kvs, hd, hc⟩, q⟩ := h
    repeat walk_at "g"
    refine ⟨(by decide : 2 ≤ sizeLine), fun t ht => ?_⟩
    have s1 : Stp [] H (upd H t (.tup [n, .str k.2])) := .new ht
    repeat walk_at "g"
    have k1 : KyAt K (upd H t (.tup [n, .str k.2])) (.ref t) (keyC k) := key_mk2 (.inl upd_same) (DtAt.stp s1 _ _ rfl hn)
    have x1 := s1.keep _ _ hx (by simp)
    refine ⟨x, C, dx, _, .ref d, rfl, x1, CL_State, NA, rfl, ?_⟩
    refine ⟨d, t, kvs, keyC k, rfl, rfl, (hd.stp s1 (by simp)), k1, ?_⟩
    repeat walk_at "g"
    have dv := (hc.stp s1).val (keyC k)
    rw [valD_toD] at dv
    cases hq : getC cl k with
    | none =>
      rw [hq] at dv
      rcases dv with ⟨e1, _⟩ | ⟨_, _, _, e2, _⟩
      · rw [e1]
        refine i_ite (fun _ => ?_) (fun z => nomatch z)
        repeat walk_at "g"
        exact q _ _ s1 (by rw [hq]; exact .non)
      · cases e2
    | some p =>
      rw [hq] at dv
      rcases dv with ⟨_, e2⟩ | ⟨y, dd, e1, e2, hy, _⟩
      · cases e2
      · obtain rfl := Option.some.inj e2
        rw [e1]
        refine i_ite (fun z => nomatch z) (fun _ => ?_)
        repeat walk_at "g"
        refine ⟨x, C, dx, _, .ref d, rfl, x1, CL_State, NA, rfl, ?_⟩
        repeat walk_at "g"
        refine ⟨(by decide : 2 ≤ sizeLine), fun t2 ht2 => ?_⟩
        have s2 : Stp [] (upd H t (.tup [n, .str k.2])) (upd (upd H t (.tup [n, .str k.2])) t2 (.tup [n, .str k.2])) := .new ht2
        refine ⟨d, t2, kvs, keyC k, y, rfl, rfl, ((hd.stp s1 (by simp)).stp s2 (by simp)), key_mk2 (.inl upd_same) (DtAt.stp (s1.trans s2) _ _ rfl hn), e1, ?_⟩
        have hy2 := DtAt.stp s2 _ _ (datC_flat p) hy
        obtain ⟨ya, ys, yv, rfl, hya, hys, hyv⟩ := cel_at hy2
        repeat walk_at "g"
        refine i_IxT hya.sqt (at_of (j := 1) rfl rfl) ?_
        exact q _ _ (s1.trans s2) (by rw [hq]; exact hyv)
def spTake (P : Program) (w : World) (K : PySem.W.Frag) (C : Addr) : Sp := fun vs H Q _ => ∃ (x dx d : Addr) (v : V) (c : Ch) (cl : List Cel), vs = [.ref x, v] ∧ DtAt K H v (chD c) ∧ StA P w K C H x dx d cl ∧ cl.length ≤ 1000 ∧ x ≠ d ∧
  ∀ (H1 : Hp), Stp [d] H H1 → StA P w K C H1 x dx d (stpC cl c) → Q (.bl (newC cl c)) H1
theorem mth_State_take (F : Dfm K C d_State_take) (CL_State : Cls K C) (NA : NoAttr K C "cells") (M_State_stamp : Mth P w K mg base lv_State_stamp C "stamp" ["self", "name", "field"] (spStamp P w K C)) (C_is_later : Cal P w K mg base lv_is_later "is_later" ["stamp", "other"] (spLater K)) : Mth P w K mg base lv_State_take C "take" ["self", "change"] (spTake P w K C) := by
  obtain ⟨f, fd, F, g⟩ := F
  refine ⟨f, fd, F.ok sc_State_take (fun vs H Q E h => ?_) (fun cdv A outer s H vs Q E hr h => ⟨_, PSs.nox
    (pss_cons (ps_asg (pv 1) (pg_tup (by rfl) (pgs_cons (pg_name (i := 2) sc_State_take.nd rfl (Or.inl rfl)) (pgs_cons (pg_name (i := 3) sc_State_take.nd rfl (Or.inl rfl)) (pgs_cons (pg_name (i := 4) sc_State_take.nd rfl (Or.inl rfl)) (pgs_cons (pg_name (i := 5) sc_State_take.nd rfl (Or.inl rfl)) pgs_nil))))))
    (pss_cons (ps_if (pt_not (pt_val (pc_call C_is_later (hr.mono (by decide)) (by rfl) (pa_cons (pv 2) (pa_cons (pc_meth (pv 0) CL_State M_State_stamp (hr.mono (by decide)) (pa_cons (pv 3) (pa_cons (pv 4) pa_nil))) pa_nil)))))
      (pss_one (ps_ret pe_bl))
      pss_nil)
    (pss_cons (ps_nput hr (pe_fld (pv 0) rfl) (pe_tup (pa_cons (pv 3) (pa_cons (pv 4) pa_nil))) (pe_tup (pa_cons (pv 2) (pa_cons (pv 5) pa_nil))) rfl)
    (pss_one (ps_ret pe_bl))))), ?_⟩), g, F.kp, F.bindsN fun _ _ _ _ _ _ us hl => match us, hl with | [_, _], _ => rfl⟩
  · obtain ⟨x, dx, d, v, c, cl, rfl, _⟩ := h
    rfl
  · obtain ⟨x, dx, d, v, c, cl, rfl, hv0, ⟨hx, kvs, hd, hc⟩, hl, xd, q⟩ := h
    obtain ⟨a, s, n, v, rfl, ha, hs, hn, hv⟩ := chAt hv0
    repeat walk_at "g"
    refine i_gTup ha.sqt rfl ?_
    repeat walk_at "g"
    refine ⟨x, dx, _, rfl, hx, rfl, ?_⟩
    repeat walk_at "g"
    refine ⟨x, dx, d, n, (c.nm, c.fd), cl, rfl, hn, ⟨hx, kvs, hd.r, hc⟩, fun o H1 s1 ho => ?_⟩
    repeat walk_at "g"
    refine ⟨s, o, c.st, _, rfl, DtAt.stp s1 _ _ rfl hs, ho, ?_⟩
    have en : isLater c.st ((getC cl (c.nm, c.fd)).map (·.1)) = newC cl c := by
      unfold newC
      cases getC cl (c.nm, c.fd) <;> rfl
    rw [en]
    have x1 := s1.keep _ _ hx (by simp)
    have d1 := hd.stp s1 (by simp)
    have hc1 := hc.stp s1
    repeat walk_at "g"
    cases hnew : newC cl c with
    | false =>
      refine i_ite (fun _ => ?_) (fun z => nomatch z)
      repeat walk_at "g"
      rw [← hnew]
      exact q H1 (s1.mono (by simp)) ⟨x1, kvs, d1, by rw [stpC_eq, if_neg (by rw [hnew]; simp)]; exact hc1⟩
    | true =>
      refine i_ite (fun z => nomatch z) (fun _ => ?_)
      repeat walk_at "g"
      refine ⟨(by decide : 2 ≤ sizeLine), fun u hu => ?_⟩
      have s2 : Stp [] H1 (upd H1 u (.tup [s, v])) := .new hu
      repeat walk_at "g"
      refine ⟨x, C, dx, _, .ref d, rfl, s2.keep _ _ x1 (by simp), CL_State, NA, rfl, ?_⟩
      repeat walk_at "g"
      refine ⟨(by decide : 2 ≤ sizeLine), fun t ht => ?_⟩
      have s3 : Stp [] (upd H1 u (.tup [s, v])) (upd (upd H1 u (.tup [s, v])) t (.tup [n, .str c.fd])) := .new ht
      have s23 := s2.trans s3
      have s123 := s1.trans s23
      refine ⟨d, t, kvs, keyC (c.nm, c.fd), rfl, rfl, d1.stp s23 (by simp), key_mk (.inl upd_same) (DtAt.stp s123 _ _ rfl hn), ?_, fun H5 n5 s5 _ => ?_⟩
      · rw [hc.len, toD_len]; exact Nat.lt_of_le_of_lt hl (by decide)
      · repeat walk_at "g"
        rw [← hnew]
        refine q H5 ((s123.mono (by simp)).trans s5) ⟨s5.keep _ _ (s23.keep _ _ x1 (by simp)) (by simpa using xd), _, n5, ?_⟩
        rw [stpC_eq, if_pos hnew, toD_put]
        refine ((hc1.stp s23).stp s5).put (DtAt.stp s5 _ _ (datC_flat (c.st, c.va)) (.tup (.inl (s3.tups _ _ upd_same)) (.cons (DtAt.stp s123 _ _ rfl hs) (.cons (DtAt.stp s123 _ _ (vaD_flat c.va) hv) .nil)))) (datC_flat _) (Nat.le_trans (datC_depth _) (by decide))
def spEqual (P : Program) (w : World) (K : PySem.W.Frag) (C : Addr) : Sp := fun vs H Q _ => ∃ (x dx d y dy e : Addr) (a b : List Cel), vs = [.ref x, .ref y] ∧ StA P w K C H x dx d a ∧ StA P w K C H y dy e b ∧
  (((toD a).map (·.1)).Nodup → ((toD b).map (·.1)).Nodup → Q (.bl (dEq (toD a) (toD b))) H)
end

/-! ### the greatest stamp -/
section
variable {P : Program} {w : World} {K : PySem.W.Frag} {mg : Str → Option Value} {base : Heap}
/-- the greatest of some stamps -/
def Top (ss : List Nm) : Option Nm → Prop
  | none => ss = []
  | some b => b ∈ ss ∧ ∀ c ∈ ss, ltP2 b c = false
theorem i_CKw {r : List V → List V → Hp → VK → Prop} {t tk : TA} {σ : L2.St} {H : Hp} {Q : VK} (q : t σ H fun vs H1 => tk σ H1 fun zs H2 => r vs zs H2 Q) : tCKw r t tk σ H Q := q
theorem nm_py (a : Nm) : (nmD a).py = .tuple [.int a.1, .int a.2] := rfl
theorem ltNm (a b : Nm) : PySem.W.dataLt (nmD a).py (nmD b).py = ltP2 a b := PySem.W.dataLt_ii a.1 a.2 b.1 b.2
theorem top_of : ∀ (as : List Nm) (a : Nm), ∃ b, PySem.W.maxD (nmD a).py (as.map fun n => (nmD n).py) = (nmD b).py ∧ b ∈ a :: as ∧ ∀ c ∈ a :: as, ltP2 b c = false
  | [], a => ⟨a, rfl, by simp, fun c hc => by rw [List.mem_singleton.mp hc]; exact ltP2_irr a⟩
  | y :: ys, a => by
    have e : PySem.W.maxD (nmD a).py ((y :: ys).map fun n => (nmD n).py) = PySem.W.maxD (if PySem.W.dataLt (nmD a).py (nmD y).py then (nmD y).py else (nmD a).py) (ys.map fun n => (nmD n).py) := rfl
    rw [e, ltNm]
    cases h : ltP2 a y with
    | true =>
      obtain ⟨b, h1, h2, h3⟩ := top_of ys y
      refine ⟨b, by simpa using h1, List.mem_cons_of_mem _ h2, fun c hc => ?_⟩
      rcases List.mem_cons.mp hc with z | hc
      · have h4 := h3 y List.mem_cons_self
        rw [z]
        simp only [ltP2, decide_eq_false_iff_not, decide_eq_true_eq] at h h4 ⊢
        omega
      · exact h3 c hc
    | false =>
      obtain ⟨b, h1, h2, h3⟩ := top_of ys a
      refine ⟨b, by simpa using h1, ?_, fun c hc => ?_⟩
      · rcases List.mem_cons.mp h2 with z | z
        · rw [z]; exact List.mem_cons_self
        · exact List.mem_cons_of_mem _ (List.mem_cons_of_mem _ z)
      · rcases List.mem_cons.mp hc with z | hc
        · exact h3 c (by rw [z]; exact List.mem_cons_self)
        · rcases List.mem_cons.mp hc with z | hc
          · have h4 := h3 a List.mem_cons_self
            rw [z]
            simp only [ltP2, decide_eq_false_iff_not] at h h4 ⊢
            omega
          · exact h3 c (List.mem_cons_of_mem _ hc)
theorem nms_map {ss : List Nm} {c : Nm} {vs : List V} {v : V} {H : Hp} (h : DtsAt K H vs (ss.map nmD)) (k : DtAt K H v (nmD c)) : DtsAt K H (vs ++ [v]) ((ss ++ [c]).map nmD) := by
  rw [List.map_append]; exact h.append (.cons k .nil)
theorem nms_flat : ∀ ss : List Nm, Dt.flatAll (ss.map nmD) = true
  | [] => rfl
  | s :: ss => by rw [List.map_cons, Dt.flatAll, nms_flat ss]; rfl
theorem nms_depth : ∀ ss : List Nm, Dt.depthAll (ss.map nmD) ≤ 1
  | [] => Nat.zero_le _
  | s :: ss => by
    have := nms_depth ss
    rw [List.map_cons, Dt.depthAll]
    have : (nmD s).depth = 1 := rfl
    omega
theorem nms_alike (ss : List Nm) : PySem.W.AllAlike ((ss.map nmD).map Dt.py) := fun d hd e he => by
  rw [List.map_map] at hd he
  obtain ⟨a, _, rfl⟩ := List.mem_map.mp hd
  obtain ⟨b, _, rfl⟩ := List.mem_map.mp he
  rfl
theorem nms_sortable (ss : List Nm) : PySem.W.Sortable ((ss.map nmD).map Dt.py) := .inl fun d hd => by
  rw [List.map_map] at hd
  obtain ⟨a, _, rfl⟩ := List.mem_map.mp hd
  exact ⟨_, _, rfl⟩
def spGreatest (K : PySem.W.Frag) : Sp := fun vs H Q _ => ∃ (r : Addr) (ws : List V) (cs : List Ch), vs = [.ref r] ∧ SqL K H r ws ∧ DtsAt K H ws (cs.map chD) ∧ ws.length ≤ 1000 ∧
  ∀ (v : V) (x : Option Nm) (H1 : Hp), Stp [] H H1 → stOf K H1 v x → Top (cs.map Ch.st) x → Q v H1
end
/-! ### sorted stamps -/
theorem leD_nm (a b : Nm) : leD (nmD a) (nmD b) = !ltP2 b a := by
  unfold leD
  rw [PySem.W.dataLe_eq]
  show (!PySem.W.dataLt (nmD b).py (nmD a).py) = _
  rw [ltNm]
theorem one_sorted {α : Type} {r : α → α → Prop} : ∀ (l m : List α), l.Perm m → l.Pairwise r → m.Pairwise r → (∀ a ∈ l, ∀ b ∈ l, r a b → r b a → a = b) → l = m
  | [], m, p, _, _, _ => by rw [List.nil_perm.mp p]
  | a :: l, [], p, _, _, _ => by have := p.length_eq; cases this
  | a :: l, b :: m, p, hl, hm, anti => by
    rw [List.pairwise_cons] at hl hm
    have ab : a = b := by
      rcases List.mem_cons.mp (p.mem_iff.mp List.mem_cons_self) with e | ha
      · exact e
      · have hb : b ∈ a :: l := p.mem_iff.mpr List.mem_cons_self
        rcases List.mem_cons.mp hb with e | hb'
        · exact e.symm
        · exact anti a List.mem_cons_self b hb (hl.1 b hb') (hm.1 a ha)
    subst ab
    rw [one_sorted l m (List.perm_cons a |>.mp p) hl.2 hm.2 fun x hx y hy => anti x (List.mem_cons_of_mem _ hx) y (List.mem_cons_of_mem _ hy)]
/-- sorted(stamps) -/
theorem nm_sorted {ss ts : List Nm} (p : ts.Perm ss) (o : ts.Pairwise fun a b => ltP2 b a = false) : (ss.map nmD).mergeSort leD = ts.map nmD := by
  have tot : PySem.W.TotalLe leD := by
    have h : PySem.W.TotalLe (PySem.W.dataLe false Dt.py) := by
      unfold PySem.W.dataLe
      exact PySem.W.sortLe_total _ _ _
    exact h
  have s1 := PySem.W.sort_pairwise tot (ss.map nmD)
  have p1 : ((ss.map nmD).mergeSort leD).Perm (ts.map nmD) := (List.mergeSort_perm _ _).trans (p.map nmD).symm
  have s2 : (ts.map nmD).Pairwise fun a b => leD a b = true := by
    rw [List.pairwise_map]
    exact o.imp fun {a b} h => by rw [leD_nm, h]; rfl
  refine one_sorted _ _ p1 s1 s2 fun x hx y hy h1 h2 => ?_
  obtain ⟨a, _, rfl⟩ := List.mem_map.mp (p1.mem_iff.mp hx)
  obtain ⟨b, _, rfl⟩ := List.mem_map.mp (p1.mem_iff.mp hy)
  rw [leD_nm] at h1 h2
  rw [ltP2_tri (a := a) (b := b) (by simpa using h2) (by simpa using h1)]

/-! ### the changes by ascending stamps, each once -/
open PySem.W in
theorem lt_first {x y : PyData} (h : alike x y = true) (l : dataLt x y = true) (xs ys : List PyData) : dataLt (.tuple (x :: xs)) (.tuple (y :: ys)) = true := by
  have ne : PyData.eqv x y = false := by
    cases e : PyData.eqv x y with
    | false => rfl
    | true =>
      have q : keyToks x = keyToks y := (toks_eqv x y h).1 e
      unfold dataLt at l
      rw [q] at l
      have z : dataLt y y = false := by unfold dataLt; exact PyProof.Rows.lex_irrefl _
      unfold dataLt at z
      rw [z] at l
      cases l
  rw [dataLt_tuple, dataLt_all_no h ne]
  exact l
theorem key3_ch (c : Ch) : key3 (chD c) = .tuple [(nmD c.st).py, (nmD c.nm).py, .str c.fd] := rfl
theorem le_st {a b : Ch} (h : PySem.W.dataLe false key3 (chD a) (chD b) = true) : ltP2 b.st a.st = false := by
  cases q : ltP2 b.st a.st with
  | false => rfl
  | true =>
    rw [PySem.W.dataLe_eq] at h
    have h1 : (!PySem.W.dataLt (key3 (chD b)) (key3 (chD a))) = true := h
    rw [key3_ch, key3_ch, lt_first rfl (by rw [ltNm]; exact q)] at h1
    cases h1
theorem of_perm_map {α β : Type} {f : α → β} {l m : List β} (p : l.Perm m) : ∀ {as : List α}, m = as.map f → ∃ bs : List α, bs.Perm as ∧ l = bs.map f := by
  induction p with
  | nil => intro as h; exact ⟨as, .refl _, h⟩
  | cons x _ ih =>
    intro as h
    cases as with
    | nil => cases h
    | cons a as =>
      injection h with h1 h2
      obtain ⟨bs, p1, p2⟩ := ih h2
      exact ⟨a :: bs, p1.cons a, by rw [h1, p2]; rfl⟩
  | swap x y l =>
    intro as h
    match as, h with
    | [], h => cases h
    | [_], h => cases h
    | a :: b :: as, h =>
      injection h with h1 h2
      injection h2 with h2 h3
      exact ⟨b :: a :: as, List.Perm.swap .., by rw [h1, h2, h3]; rfl⟩
  | trans _ _ ih1 ih2 =>
    intro as h
    obtain ⟨bs, p1, h1⟩ := ih2 h
    obtain ⟨cs, p2, h2⟩ := ih1 h1
    exact ⟨cs, p2.trans p1, h2⟩
/-- es: the changes cs, each once, by ascending stamps -/
structure Ranked (cs es : List Ch) : Prop where
  once : es.Nodup
  mem : ∀ c, c ∈ es ↔ c ∈ cs
  asc : es.Pairwise fun a b => ltP2 b.st a.st = false
abbrev lamQ : Str := (envOfC d_sorted_changes.qual d_sorted_changes.scope 0 0 .none).qual ++ "<lambda>"
/-- a def whose code object is told -/
def DfC (K : PySem.W.Frag) (mg : Str → Option Value) (d : He.DefD) (c : Addr) : Prop :=
  ∃ (f : Addr) (fd : FuncData), FunD K d.name d.qual d.params d.body d.scope [] [] f fd ∧ mg d.name = some (.ref f) ∧ fd.code = .ref c
section
variable {P : Program} {w : World} {K : PySem.W.Frag} {mg : Str → Option Value} {base : Heap} {c T : Addr}
def spSorted (K : PySem.W.Frag) (T : Addr) : Sp := fun vs H Q _ => ∃ (r : Addr) (ws : List V) (cs : List Ch) (L : List Addr), vs = [.ref r] ∧ SqL K H r ws ∧ DtsAt K H ws (cs.map chD) ∧ ws.length ≤ 1000 ∧ Tab H T lamQ L ∧
  ∀ (p : Addr) (ys : List V) (es : List Ch) (H1 : Hp) (L1 : List Addr), Tab H1 T lamQ L1 → (∀ c ∈ L1, c ∈ L ∨ H c = none) → Stp [T] H H1 → H p = none → H1 p = some (.lst ys) → DtsAt K H1 ys (es.map chD) → Ranked cs es → Q (.ref p) H1
theorem chKey_inj {a b : Ch} (h : (chD a).key = (chD b).key) : a = b := chD_inj (Dt.key_inj _ _ (chD_flat a) (chD_flat b) h)
theorem cal_sorted_changes (F : DfC K mg d_sorted_changes c) (B : Blt mg) (TB : LamX.TabB base mg c T) : Cal P w K mg base lv_sorted_changes "sorted_changes" ["changes"] (spSorted K T) := by
  obtain ⟨f, fd, F, g, ec⟩ := F
  refine ⟨f, fd, GT.FunD.okC F ec sc_sorted_changes (fun vs H Q E h => ?_) (fun A outer s H vs Q E hr h => ⟨_, PSs.nox
    (pss_cons (ps_setDn (P := P) (w := w) (K := K) (i := 1) (own := [("change", 2)]) (g := gName 2) rfl rfl rfl hr (by rfl) sc_sorted_changes.nd rfl rfl (sw_dict rfl rfl rfl (by decide +kernel)) (pi_list (pv 0)) (blkOk_by (N := ["changes", "once", "change"]) (own := [("change", 2)]) (sc := defScope s_sorted_changes) (by decide +kernel)) (fun _ _ _ _ _ => (pg_name (i := 2) sc_sorted_changes.nd rfl (Or.inl rfl))) (fun _ _ _ _ _ => pts_nil) (fun _ _ _ _ _ => (pv 2)) (fun _ _ _ _ _ => pe_bl))
    (pss_one (ps_ret (pe_sortL (P := P) (w := w) (K := K) (k := 0) rfl rfl rfl hr (by rfl) TB rfl (by rfl) B.sorted (pv 1))))), ?_⟩), g, F.kp, F.bindsN fun _ _ _ _ _ _ us hl => match us, hl with | [_], _ => rfl⟩
  · obtain ⟨r, ws, cs, L, rfl, _⟩ := h
    rfl
  · obtain ⟨r, ws, cs, L, rfl, hr1, hd, hl, hT, q⟩ := h
    repeat walk_at "g"
    refine i_Dn ?_
    repeat walk_at "g"
    refine ⟨r, rfl, ⟨ws, hr1⟩, fun D H2 hD nd0 s0 => ?_⟩
    have wl : ws.length = cs.length := by have := hd.length; rwa [List.length_map] at this
    refine dn_list (P := P) (w := w) (K := K) (xs := ws) (fun i H' => Stp [] H H' ∧ ∃ kvs es, ND P w K H' D kvs ∧ kvs.map (·.1) = (es.map chD).map Dt.key ∧ es.Nodup ∧ ∀ c : Ch, c ∈ es ↔ c ∈ cs.take i)
      ⟨s0, [], [], nd0, rfl, List.nodup_nil, by simp⟩ (fun i H' _ ⟨h, _⟩ => h.seq hr1 (by simp)) ?_ ?_
    · rintro i x H1 hx ⟨s1, kvs, es, nd1, hk1, hn1, hm1⟩
      obtain ⟨e, he, de⟩ := ch_get (chs_stp hd s1) hx
      obtain ⟨a, sv, n, v, rfl, _⟩ := chAt de
      have hi : i < ws.length := (List.getElem?_eq_some_iff.mp hx).1
      have len1 : kvs.length ≤ 1000 := by
        have h1 := congrArg List.length hk1
        have h2 := len_sub es (cs.take i) hn1 fun z hz => (hm1 z).mp hz
        rw [List.length_take] at h2
        simp only [List.length_map] at h1
        omega
      repeat walk_at "g"
      refine ⟨rfl, i_Yes ?_⟩
      refine i_ite (fun _ => ?_) (fun z => nomatch z)
      repeat walk_at "g"
      refine ⟨a, kvs, (chD e).key, rfl, nd1, KyAt.of de (chD_flat e) (Nat.le_trans (chD_depth e) (by decide)), Nat.lt_of_le_of_lt len1 (by decide), fun H6 nd6 st6 => ⟨s1.into hD st6, _, if e ∈ es then es else es ++ [e], nd6, ?_, ?_, fun z => ?_⟩⟩
      · have iff1 : (kvs.any fun kv => decide (kv.1 = (chD e).key)) = true ↔ e ∈ es := by
          rw [List.any_eq_true]
          constructor
          · rintro ⟨kv, h1, h2⟩
            have h3 : kv.1 ∈ (es.map chD).map Dt.key := by rw [← hk1]; exact List.mem_map.mpr ⟨kv, h1, rfl⟩
            rw [List.map_map] at h3
            obtain ⟨z, hz, e2⟩ := List.mem_map.mp h3
            rw [← chKey_inj (show (chD z).key = (chD e).key from e2.trans (of_decide_eq_true h2))]
            exact hz
          · intro h1
            have h3 : (chD e).key ∈ kvs.map (·.1) := by rw [hk1, List.map_map]; exact List.mem_map.mpr ⟨e, h1, rfl⟩
            obtain ⟨kv, h4, h5⟩ := List.mem_map.mp h3
            exact ⟨kv, h4, decide_eq_true h5⟩
        rw [putK_keys]
        by_cases h1 : e ∈ es
        · rw [if_pos (iff1.mpr h1), if_pos h1]; exact hk1
        · rw [if_neg (fun z => h1 (iff1.mp z)), if_neg h1, hk1]; simp
      · by_cases h1 : e ∈ es
        · rw [if_pos h1]; exact hn1
        · rw [if_neg h1, List.nodup_append]
          exact ⟨hn1, by simp, fun x hx y hy z => h1 (by rw [← List.mem_singleton.mp hy, ← z]; exact hx)⟩
      · have tk : cs.take (i + 1) = cs.take i ++ [e] := by rw [List.take_add_one, he]; rfl
        rw [tk]
        by_cases h1 : e ∈ es
        · rw [if_pos h1, List.mem_append, List.mem_singleton, hm1]
          exact ⟨.inl, fun h => h.elim id fun h => by rw [h]; exact (hm1 e).mp h1⟩
        · rw [if_neg h1, List.mem_append, List.mem_append, hm1]
    · rintro H1 ⟨s1, kvs, es, nd1, hk1, hn1, hm1⟩
      rw [wl, List.take_length] at hm1
      repeat walk_at "g"
      have fl : Dt.flatAll (es.map chD) = true := flat_all fun z hz => by
        obtain ⟨c, _, rfl⟩ := List.mem_map.mp hz
        exact chD_flat c
      have dp : ∀ l : List Ch, Dt.depthAll (l.map chD) ≤ 3 := fun l => by
        induction l with
        | nil => exact Nat.zero_le _
        | cons c l ih => rw [List.map_cons, Dt.depthAll]; have := chD_depth c; omega
      refine ⟨_, rfl, L, hT.grow s1, D, kvs, es.map chD, rfl, nd1, hk1, fl, Nat.le_trans (dp es) (by decide), fun z hz => ?_, fun a ha b hb => ?_, .inl fun d hd => ?_, fun p ys H3 L3 t3 fresh st np hp dy => ?_⟩
      · obtain ⟨c, _, rfl⟩ := List.mem_map.mp hz
        exact ⟨_, _, _, _, rfl⟩
      · rw [List.map_map] at ha hb
        obtain ⟨_, _, rfl⟩ := List.mem_map.mp ha
        obtain ⟨_, _, rfl⟩ := List.mem_map.mp hb
        rfl
      · rw [List.map_map] at hd
        obtain ⟨_, _, rfl⟩ := List.mem_map.mp hd
        exact ⟨_, _, rfl⟩
      · have tot : PySem.W.TotalLe (PySem.W.dataLe false key3) := by
          unfold PySem.W.dataLe
          exact PySem.W.sortLe_total _ _ _
        have asc := PySem.W.sort_pairwise tot (es.map chD)
        obtain ⟨fs, pf, ef⟩ := of_perm_map (List.mergeSort_perm (es.map chD) (PySem.W.dataLe false key3)) rfl
        rw [ef] at asc dy
        rw [List.pairwise_map] at asc
        refine q p ys fs H3 L3 t3 (fun c hc => (fresh c hc).imp_right fun z => s1.free z (by simp)) ((s1.mono (by simp)).trans st) (s1.free np (by simp)) hp dy ⟨pf.nodup_iff.mpr hn1, fun c => (pf.mem_iff).trans (hm1 c), asc.imp fun {a b} h => le_st h⟩
end

/-! ### the changes that make a state, its copy -/
section
variable {P : Program} {w : World} {K : PySem.W.Frag} {mg : Str → Option Value} {base : Heap} {C c T : Addr}
def chOf (p : Cel) : Ch := ⟨p.2.1, p.1.1, p.1.2, p.2.2⟩
def chsOf (cl : List Cel) : List Ch := cl.map chOf
theorem ky_cel {H : Hp} {a : Addr} {k : Nm × Str} (h : KyAt K H (.ref a) (keyC k)) : ∃ n, TupAt K H a [n, .str k.2] ∧ DtAt K H n (nmD k.1) := by
  obtain ⟨d, f, e, _, h⟩ := h
  have e2 : d = .tup [nmD k.1, .txt k.2] := Dt.key_inj _ _ f rfl e
  subst e2
  cases h with
  | tup h1 h2 =>
    cases h2 with
    | cons a1 h2 =>
      cases h2 with
      | cons a2 h2 =>
        cases h2
        obtain rfl := txtAt a2
        exact ⟨_, h1, a1⟩
theorem cel_get {H : Hp} {xs : List (NestedKey × Addr × V)} {cl : List Cel} {i : Nat} {x : NestedKey × Addr × V} (dd : DD K H (plainX xs) (toD cl)) (hx : xs[i]? = some x) : ∃ p, cl[i]? = some p ∧ x.1 = keyC p.1 ∧ DtAt K H x.2.2 (datC p.2) := by
  obtain ⟨y, hy, e1, e2, _⟩ := paired_get dd (plainX_at hx)
  unfold toD at hy
  rw [List.getElem?_map] at hy
  obtain ⟨p, hp, rfl⟩ := Option.map_eq_some_iff.mp hy
  exact ⟨p, hp, e1, e2⟩
theorem DD.len_cl {H : Hp} {kvs : List NKV} {cl : List Cel} (dd : DD K H kvs (toD cl)) : kvs.length = cl.length := by rw [dd.len, toD_len]
def spChangesS (P : Program) (w : World) (K : PySem.W.Frag) (C T : Addr) : Sp := fun vs H Q _ => ∃ (x dx d : Addr) (cl : List Cel) (L : List Addr), vs = [.ref x] ∧ StA P w K C H x dx d cl ∧ x ≠ d ∧ cl.length ≤ 1000 ∧ Tab H T lamQ L ∧
  ∀ (p : Addr) (ys : List V) (es : List Ch) (H1 : Hp) (L1 : List Addr), Tab H1 T lamQ L1 → (∀ c ∈ L1, c ∈ L ∨ H c = none) → Stp [T] H H1 → H p = none → H1 p = some (.lst ys) → DtsAt K H1 ys (es.map chD) → Ranked (chsOf cl) es → Q (.ref p) H1
theorem mth_State_changes (F : Dfm K C d_State_changes) (CL_State : Cls K C) (NA : NoAttr K C "cells") (C_sorted_changes : Cal P w K mg base lv_sorted_changes "sorted_changes" ["changes"] (spSorted K T)) : Mth P w K mg base lv_State_changes C "changes" ["self"] (spChangesS P w K C T) := by
  obtain ⟨f, fd, F, g⟩ := F
  refine ⟨f, fd, F.ok sc_State_changes (fun vs H Q E h => ?_) (fun cdv A outer s H vs Q E hr h => ⟨_, PSs.nox
    (pss_one (ps_ret (pc_call C_sorted_changes (hr.mono (by decide)) (by rfl) (pa_cons (pe_lock (pe_lc (own := [("name", 1), ("field", 2), ("stamp", 3), ("value", 4)]) (g := gTup _ 2 (gCons (gTup _ 2 (gCons (gName 1) (gCons (gName 2) gNil))) (gCons (gTup _ 2 (gCons (gName 3) (gCons (gName 4) gNil))) gNil))) (by rfl) sc_State_changes.nd (pi_ni (pe_fld (pv 0) rfl)) (blkOk_by (N := ["self", "name", "field", "stamp", "value"]) (own := [("name", 1), ("field", 2), ("stamp", 3), ("value", 4)]) (sc := defScope s_State_changes) (by decide +kernel)) (fun _ _ _ _ _ => (pg_tup (by rfl) (pgs_cons (pg_tup (by rfl) (pgs_cons (pg_name (i := 1) sc_State_changes.nd rfl (Or.inl rfl)) (pgs_cons (pg_name (i := 2) sc_State_changes.nd rfl (Or.inl rfl)) pgs_nil))) (pgs_cons (pg_tup (by rfl) (pgs_cons (pg_name (i := 3) sc_State_changes.nd rfl (Or.inl rfl)) (pgs_cons (pg_name (i := 4) sc_State_changes.nd rfl (Or.inl rfl)) pgs_nil))) pgs_nil)))) (fun _ _ _ _ _ => pts_nil) (fun _ _ _ _ _ => (pe_tup (pa_cons (pv 3) (pa_cons (pv 1) (pa_cons (pv 2) (pa_cons (pv 4) pa_nil)))))))) pa_nil)))), ?_⟩), g, F.kp, F.bindsN fun _ _ _ _ _ _ us hl => match us, hl with | [_], _ => rfl⟩
  · obtain ⟨x, dx, d, cl, L, rfl, _⟩ := h
    rfl
  · obtain ⟨x, dx, d, cl, L, rfl, ⟨hx, kvs, hn, hd⟩, xd, hl, hT, q⟩ := h
    repeat walk_at "h"
    refine lockE_nd hn fun o xs hxs kx ex => ?_
    subst hxs
    have s0 : Stp [d] H (upd H d (.frz o (ndO P w d xs))) := Stp.lock ex ndO_nt
    repeat walk_at "h"
    refine i_Lc (i_Nki ?_)
    repeat walk_at "h"
    have x0 : upd H d (.frz o (ndO P w d xs)) x = some (.ins C dx [(cellsS, .ref d)]) := by rw [upd_ne xd]; exact hx
    have d0 : upd H d (.frz o (ndO P w d xs)) d = some (.frz o (ndO P w d xs)) := upd_same
    have kx0 := kx.stp s0
    have dd0 := hd.stp s0
    refine ⟨x, C, dx, _, .ref d, rfl, x0, CL_State, NA, rfl, d, o, xs, rfl, d0, fun l hl0 => ?_⟩
    have dl : d ≠ l := ne_of_none d0 hl0
    generalize upd H d (.frz o (ndO P w d xs)) = H0 at s0 x0 d0 kx0 dd0 hl0 ⊢
    have xl : xs.length = cl.length := by rw [← plainX_len]; exact hd.len_cl
    refine lc_ni (xs := xs) (fun i H' => Stp [] H0 H' ∧ ∃ acc, H' l = some (.lst acc) ∧ DtsAt K H' acc (((chsOf cl).take i).map chD)) ⟨.new hl0, [], upd_same, .nil⟩ (fun i H' _ h => h.1.keep _ _ d0 (by simp)) ?_ ?_
    · rintro i e H1 T1 he ⟨s1, acc, h1, d1⟩ nT
      obtain ⟨p, hp, ek, dv⟩ := cel_get dd0 he
      have s2 : Stp [] H1 (upd H1 T1 (.tup [.ref e.2.1, e.2.2])) := .new nT
      have tT : TupAt K (upd H1 T1 (.tup [.ref e.2.1, e.2.2])) T1 [.ref e.2.1, e.2.2] := .inl upd_same
      have lT : l ≠ T1 := ne_of_none h1 nT
      have h2 := s2.keep _ _ h1 (by simp)
      have d2 : DtsAt K _ acc (((chsOf cl).take i).map chD) := chs_stp d1 s2
      have ky := (kx0 e (List.mem_of_getElem? he)).stp (s1.trans s2)
      rw [ek] at ky
      obtain ⟨n, kt, dn⟩ := ky_cel ky
      obtain ⟨va, sv, yv, ev, vt, ds, dy⟩ := cel_at (DtAt.stp (s1.trans s2) _ _ (datC_flat p.2) dv)
      have s12 := s1.trans s2
      generalize upd H1 T1 (.tup [.ref e.2.1, e.2.2]) = H2 at s2 tT h2 d2 ky kt dn vt ds dy s12 ⊢
      rw [ev] at tT
      refine i_gTup tT.sqt rfl ?_
      repeat walk_at "h"
      refine i_gTup kt.sqt rfl ?_
      repeat walk_at "h"
      refine i_gTup vt.sqt rfl ?_
      repeat walk_at "h"
      refine ⟨rfl, i_Yes ?_⟩
      refine i_ite (fun _ => ?_) (fun z => nomatch z)
      repeat walk_at "h"
      refine ⟨(by decide : 4 ≤ sizeLine), fun t ht => ?_⟩
      have lt : l ≠ t := ne_of_none h2 ht
      have s3 : Stp [] H2 (upd H2 t (.tup [sv, n, .str p.1.2, yv])) := .new ht
      have dt3 : DtAt K (upd H2 t (.tup [sv, n, .str p.1.2, yv])) (.ref t) (chD (chOf p)) := ch_mk (.inl upd_same) (DtAt.stp s3 _ _ rfl ds) (DtAt.stp s3 _ _ rfl dn) (DtAt.stp s3 _ _ (vaD_flat _) dy)
      have h3 := s3.keep _ _ h2 (by simp)
      have d3 : DtsAt K _ acc (((chsOf cl).take i).map chD) := chs_stp d2 s3
      have s03 := s12.trans s3
      have n0 : H0 l = none := hl0
      generalize upd H2 t (.tup [sv, n, .str p.1.2, yv]) = H3 at s3 dt3 h3 d3 s03 ⊢
      have s4 : Stp [l] H3 (upd H3 l (.lst (acc ++ [.ref t]))) := .wr (by simp) h3 fun _ z => nomatch z
      have al : acc.length ≤ 1000 := by
        have := d3.length
        rw [List.length_map, List.length_take] at this
        have : (chsOf cl).length = cl.length := by simp [chsOf]
        omega
      have tk : (chsOf cl).take (i + 1) = (chsOf cl).take i ++ [chOf p] := by
        unfold chsOf
        rw [List.take_add_one, List.getElem?_map, hp]; rfl
      refine ⟨acc, h3, Nat.lt_of_le_of_lt al (by decide), s03.into n0 s4, _, upd_same, ?_⟩
      rw [tk]
      exact dts_map (chs_stp d3 s4) (DtAt.stp s4 _ _ (chD_flat _) dt3)
    · rintro H1 ⟨s1, acc, h1, d1⟩
      have tk : (chsOf cl).take xs.length = chsOf cl := List.take_of_length_le (by simp [chsOf, xl])
      rw [tk] at d1
      have dd1 := s1.keep _ _ d0 (by simp)
      refine ⟨dd1, ?_⟩
      have off := Stp.off dd1
      have sH : Stp [] H (upd H1 d (ndO P w d xs)) := Stp.unlock (s0.trans (s1.mono (by simp))) ex ndO_nt
      have h2 : upd H1 d (ndO P w d xs) l = some (.lst acc) := by rw [upd_ne dl.symm]; exact h1
      have d2 := chs_stp d1 off
      generalize upd H1 d (ndO P w d xs) = H2 at off sH h2 d2 ⊢
      repeat walk_at "h"
      have acl : acc.length ≤ 1000 := by
        have := d2.length
        rw [List.length_map] at this
        have : (chsOf cl).length = cl.length := by simp [chsOf]
        omega
      exact ⟨l, acc, chsOf cl, L, rfl, SqL.of h2, d2, acl, hT.grow sH, fun p ys es H3 L1 t3 fresh s3 np hp dy R => q p ys es H3 L1 t3 (fun c hc => (fresh c hc).imp_right fun z => sH.free z (by simp)) ((sH.mono (by simp)).trans s3) (sH.free np (by simp)) hp dy R⟩
end

/-! ### a state's copy -/
section
variable {P : Program} {w : World} {K : PySem.W.Frag} {mg : Str → Option Value} {base : Heap} {C : Addr}
/-- over the keys of a locked dict -/
theorem dn_n {g : TG} {tt : TT} {tk tv : TE} {vs : List Nat} {σ : L2.St} {d : Addr} {o : Obj} {xs : List (NestedKey × Addr × V)} {H2 : Hp} {D : Addr} {Qd : Hp → Prop} (Pv : Nat → Hp → Prop) (h0 : Pv 0 H2) (hl : ∀ i H, i ≤ xs.length → Pv i H → H d = some (.frz o (ndO P w d xs)))
    (hs : ∀ i x H, xs[i]? = some x → Pv i H → g (.ref x.2.1) (wipe σ vs) H fun σ2 H2 => wipe σ2 vs = wipe σ vs ∧ tt σ2 H2 fun b H3 =>
      if b = true then tk σ2 H3 fun y H4 => tv σ2 H4 fun z H5 => ∃ a kvs k, y = .ref a ∧ ND P w K H5 D kvs ∧ KyAt K H5 (.ref a) k ∧ kvs.length < sizeLine ∧ ∀ H6, ND P w K H6 D (putK kvs k z) → Stp [D] H5 H6 → Pv (i + 1) H6 else Pv (i + 1) H3) (hd : ∀ H, Pv xs.length H → Qd H) :
    ∃ W : Nat → Nat → Hp → Prop, (∃ m, W 0 m H2) ∧ ∀ i m H, W i m H →
      ((ItN P w d o xs).stop i H ∧ Qd H) ∨ ((ItN P w d o xs).go i H ∧ ∃ Nx : Hp → Prop, (∀ H', Nx H' → ∃ m', m' < m ∧ W (i + 1) m' H') ∧ ∀ x H', (ItN P w d o xs).yld i H x H' → g x (wipe σ vs) H' fun σ2 H2 => wipe σ2 vs = wipe σ vs ∧ tt σ2 H2 fun b H3 =>
        if b = true then tk σ2 H3 fun y H4 => tv σ2 H4 fun z H5 => ∃ a kvs k, y = .ref a ∧ ND P w K H5 D kvs ∧ KyAt K H5 (.ref a) k ∧ kvs.length < sizeLine ∧ ∀ H6, ND P w K H6 D (putK kvs k z) → Stp [D] H5 H6 → Nx H6 else Nx H3) := by
  refine ⟨fun i m H => m + i = xs.length ∧ Pv i H, ⟨xs.length, rfl, h0⟩, fun i m H ⟨em, p⟩ => ?_⟩
  have at_ := hl i H (by omega) p
  match m, em with
  | 0, em =>
    have e : i = xs.length := by omega
    subst e
    exact .inl ⟨⟨at_, Nat.le_refl _⟩, hd H p⟩
  | m + 1, em =>
    have lt : i < xs.length := by omega
    refine .inr ⟨⟨at_, lt⟩, Pv (i + 1), fun H' p' => ⟨m, Nat.lt_succ_self m, by omega, p'⟩, fun x H' ⟨e, z, hz, ex⟩ => ?_⟩
    subst e ex
    exact hs i z _ hz p
/-- a new key goes behind -/
theorem putK_new {kvs : List NKV} {k : NestedKey} {v : V} (h : k ∉ kvs.map (·.1)) : putK kvs k v = kvs ++ [(k, v)] := by
  unfold putK
  rw [if_neg]
  intro z
  obtain ⟨p, hp, e⟩ := List.any_eq_true.mp z
  exact h (List.mem_map.mpr ⟨p, hp, of_decide_eq_true e⟩)
theorem paired_snoc {α β : Type} {R : α → β → Prop} {as : List α} {bs : List β} {a : α} {b : β} (h : Paired R as bs) (r : R a b) : Paired R (as ++ [a]) (bs ++ [b]) := by
  induction h with
  | nil => exact .cons r .nil
  | cons x _ ih => exact .cons x ih
theorem DD.snoc {H : Hp} {kvs : List NKV} {kd : List NKD} {k : NestedKey} {v : V} {d : Dt} (h : DD K H kvs kd) (hv : DtAt K H v d) (f : d.flat = true) (n : d.depth ≤ 8) : DD K H (kvs ++ [(k, v)]) (kd ++ [(k, d)]) :=
  paired_snoc h ⟨rfl, hv, f, n⟩
def keysOf (cl : List Cel) : List (Nm × Str) := cl.map (·.1)
theorem List.Nodup.of_map_keys {cl : List Cel} (h : (keysOf cl).Nodup) : (cl.map ((fun p : NKD => p.1) ∘ fun p : Cel => (keyC p.1, datC p.2))).Nodup := by
  induction cl with
  | nil => exact .nil
  | cons p cl ih =>
    unfold keysOf at h
    rw [List.map_cons, List.nodup_cons] at h ⊢
    refine ⟨fun z => ?_, ih h.2⟩
    obtain ⟨r, hr, er⟩ := List.mem_map.mp z
    exact h.1 (List.mem_map.mpr ⟨r, hr, keyC_inj er⟩)
def spCopy (P : Program) (w : World) (K : PySem.W.Frag) (C : Addr) : Sp := fun vs H Q _ => ∃ (x dx d : Addr) (cl : List Cel), vs = [.ref x] ∧ StA P w K C H x dx d cl ∧ x ≠ d ∧ cl.length ≤ 1000 ∧ (keysOf cl).Nodup ∧
  ∀ (y dy e : Addr) (H1 : Hp), H y = none → H e = none → StA P w K C H1 y dy e cl → y ≠ e → Stp [] H H1 → Q (.ref y) H1
end

/-! ### joins: the later of two -/
abbrev Wo := Option (Nm × Va)
def laterO : Wo → Wo → Wo
  | none, y => y
  | some x, none => some x
  | some x, some y => if ltP2 x.1 y.1 = true then some y else some x
theorem laterO_none (x : Wo) : laterO x none = x := by cases x <;> rfl
theorem laterO_self (x : Wo) : laterO x x = x := by
  cases x with
  | none => rfl
  | some x => simp [laterO]
theorem laterO_assoc (x y z : Wo) : laterO (laterO x y) z = laterO x (laterO y z) := by
  cases x with
  | none => rfl
  | some x =>
    cases y with
    | none => cases z <;> rfl
    | some y =>
      cases z with
      | none => rw [laterO_none, laterO_none]
      | some z =>
        simp only [laterO]
        cases h1 : ltP2 x.1 y.1 <;> cases h2 : ltP2 y.1 z.1 <;> simp only [h1, h2, Bool.false_eq_true, if_false, if_true, laterO]
        · have h3 : ltP2 x.1 z.1 = false := ltP2_trans h2 h1
          rw [h3]; simp
        · cases h3 : ltP2 x.1 z.1 with
          | true => rfl
          | false =>
            simp only [ltP2, decide_eq_true_eq, decide_eq_false_iff_not] at h1 h2 h3
            omega
def keyOf (c : Ch) : Nm × Str := (c.nm, c.fd)
def woOf (c : Ch) : Nm × Va := (c.st, c.va)
theorem getC_stp (cl : List Cel) (c : Ch) (k : Nm × Str) : getC (stpC cl c) k = if k = keyOf c then laterO (getC cl k) (some (woOf c)) else getC cl k := by
  unfold stpC
  by_cases h : k = keyOf c
  · rw [if_pos h]
    have e : (c.nm, c.fd) = k := h.symm
    rw [e]
    cases q : getC cl k with
    | none =>
      simp only
      rw [getC_put, if_pos rfl]; rfl
    | some v =>
      simp only [laterO]
      have e2 : (woOf c).1 = c.st := rfl
      rw [e2]
      cases ltP2 v.1 c.st with
      | true => rw [if_pos rfl, getC_put, if_pos rfl, if_pos rfl]; rfl
      | false => rw [if_neg (by simp), if_neg (by simp)]; exact q
  · rw [if_neg h]
    have h' : k ≠ (c.nm, c.fd) := h
    cases getC cl (c.nm, c.fd) with
    | none => simp only; rw [getC_put, if_neg h']
    | some v =>
      simp only
      cases ltP2 v.1 c.st with
      | true => rw [if_pos rfl, getC_put, if_neg h']
      | false => rw [if_neg (by simp)]
theorem getC_fold (es : List Ch) : ∀ (cl : List Cel) (k : Nm × Str), getC (es.foldl stpC cl) k = es.foldl (fun a c => if k = keyOf c then laterO a (some (woOf c)) else a) (getC cl k) := by
  induction es with
  | nil => intro cl k; rfl
  | cons c es ih =>
    intro cl k
    rw [List.foldl_cons, List.foldl_cons, ih, getC_stp]
/-- the fold as one join -/
theorem fold_later (es : List Ch) (k : Nm × Str) : ∀ a : Wo, es.foldl (fun a c => if k = keyOf c then laterO a (some (woOf c)) else a) a = laterO a (es.foldl (fun a c => if k = keyOf c then laterO a (some (woOf c)) else a) none) := by
  induction es with
  | nil => intro a; rw [List.foldl_nil, List.foldl_nil, laterO_none]
  | cons c es ih =>
    intro a
    rw [List.foldl_cons, List.foldl_cons]
    by_cases h : k = keyOf c
    · rw [if_pos h, if_pos h, ih, ih (laterO none _), ← laterO_assoc]; rfl
    · rw [if_neg h, if_neg h, ih]
theorem getC_fold2 (es : List Ch) (cl : List Cel) (k : Nm × Str) : getC (es.foldl stpC cl) k = laterO (getC cl k) (getC (cellsOf es) k) := by
  rw [getC_fold, fold_later]
  congr 1
  unfold cellsOf
  rw [getC_fold]; rfl
theorem getC_app (as bs : List Ch) (k : Nm × Str) : getC (cellsOf (as ++ bs)) k = laterO (getC (cellsOf as) k) (getC (cellsOf bs) k) := by
  have e : cellsOf (as ++ bs) = bs.foldl stpC (cellsOf as) := by simp [cellsOf]
  rw [e, getC_fold2]
theorem getC_mem {cl : List Cel} {k : Nm × Str} {v : Nm × Va} (h : getC cl k = some v) : (k, v) ∈ cl := by
  unfold getC at h
  obtain ⟨p, hp, rfl⟩ := Option.map_eq_some_iff.mp h
  have h1 := List.find?_some hp
  have h2 := List.mem_of_find?_eq_some hp
  have e : p.1 = k := of_decide_eq_true h1
  rw [← e]; exact h2
theorem getC_of {cl : List Cel} {k : Nm × Str} {v : Nm × Va} (n : (keysOf cl).Nodup) (h : (k, v) ∈ cl) : getC cl k = some v := by
  induction cl with
  | nil => cases h
  | cons p cl ih =>
    unfold keysOf at n
    rw [List.map_cons, List.nodup_cons] at n
    unfold getC
    rw [List.find?_cons]
    rcases List.mem_cons.mp h with e | h
    · rw [← e]; simp
    · have ne : p.1 ≠ k := fun z => n.1 (List.mem_map.mpr ⟨(k, v), h, z.symm⟩)
      rw [decide_eq_false ne]
      exact ih n.2 h
theorem putC_keys (cl : List Cel) (k : Nm × Str) (v : Nm × Va) : keysOf (putC cl k v) = if k ∈ keysOf cl then keysOf cl else keysOf cl ++ [k] := by
  unfold putC keysOf
  by_cases h : k ∈ cl.map (·.1)
  · rw [if_pos h, if_pos]
    · rw [List.map_map]
      refine List.map_congr_left fun p _ => ?_
      simp only [Function.comp]
      split
      · next e => exact e.symm ▸ rfl
      · rfl
    · obtain ⟨p, hp, e⟩ := List.mem_map.mp h
      exact List.any_eq_true.mpr ⟨p, hp, decide_eq_true e⟩
  · rw [if_neg h, if_neg]
    · simp
    · intro z
      obtain ⟨p, hp, e⟩ := List.any_eq_true.mp z
      exact h (List.mem_map.mpr ⟨p, hp, of_decide_eq_true e⟩)
theorem putC_nd {cl : List Cel} (k : Nm × Str) (v : Nm × Va) (n : (keysOf cl).Nodup) : (keysOf (putC cl k v)).Nodup := by
  rw [putC_keys]
  split
  · exact n
  · next h =>
    rw [List.nodup_append]
    exact ⟨n, by simp, fun x hx y hy z => h (by rw [← List.mem_singleton.mp hy, ← z]; exact hx)⟩
theorem stpC_nd {cl : List Cel} (c : Ch) (n : (keysOf cl).Nodup) : (keysOf (stpC cl c)).Nodup := by
  rw [stpC_eq]
  split
  · exact putC_nd _ _ n
  · exact n
theorem fold_nd (es : List Ch) : ∀ {cl : List Cel}, (keysOf cl).Nodup → (keysOf (es.foldl stpC cl)).Nodup := by
  induction es with
  | nil => exact id
  | cons c es ih => intro cl n; exact ih (stpC_nd c n)
theorem cellsOf_nd (cs : List Ch) : (keysOf (cellsOf cs)).Nodup := fold_nd cs List.nodup_nil
theorem fold_len (es : List Ch) : ∀ cl : List Cel, (es.foldl stpC cl).length ≤ cl.length + es.length := by
  induction es with
  | nil => intro cl; simp
  | cons c es ih => intro cl; have h1 := ih (stpC cl c); have h2 := stpC_len cl c; simp only [List.foldl_cons, List.length_cons]; omega
/-- the cells of the changes that make a state are the state's -/
theorem cells_back {cl : List Cel} {es : List Ch} (n : (keysOf cl).Nodup) (m : ∀ c, c ∈ es ↔ c ∈ chsOf cl) (k : Nm × Str) : getC (cellsOf es) k = getC cl k := by
  have hm : ∀ c, c ∈ es ↔ getC cl (keyOf c) = some (woOf c) := fun c => by
    rw [m]
    constructor
    · intro h
      obtain ⟨p, hp, rfl⟩ := List.mem_map.mp h
      exact getC_of n hp
    · intro h
      exact List.mem_map.mpr ⟨_, getC_mem h, rfl⟩
  have b := best_cells es k
  cases q : getC (cellsOf es) k with
  | none =>
    rw [q] at b
    cases h : getC cl k with
    | none => rfl
    | some v => exact absurd rfl (b (chOf (k, v)) ((hm _).mpr h))
  | some v =>
    rw [q] at b
    obtain ⟨⟨c, hc, e1, e2⟩, _⟩ := b
    have h := (hm c).mp hc
    have e3 : keyOf c = k := e1
    rw [e3] at h
    rw [h, e2]; rfl
theorem chsOf_nd {cl : List Cel} (n : (keysOf cl).Nodup) : (chsOf cl).Nodup := by
  induction cl with
  | nil => exact .nil
  | cons p cl ih =>
    unfold keysOf at n
    rw [List.map_cons, List.nodup_cons] at n
    unfold chsOf
    rw [List.map_cons, List.nodup_cons]
    refine ⟨fun z => ?_, ih n.2⟩
    obtain ⟨r, hr, e⟩ := List.mem_map.mp z
    refine n.1 (List.mem_map.mpr ⟨r, hr, ?_⟩)
    injection e with e1 e2 e3 e4
    exact Prod.ext e2 e3
/-- a state below another one -/
def below (a b : List Cel) : Prop := ∀ k v, getC a k = some v → ∃ v', getC b k = some v' ∧ ltP2 v'.1 v.1 = false
noncomputable instance (a b : List Cel) : Decidable (below a b) := Classical.propDecidable _
theorem below_join {a b c : List Cel} (h : ∀ k, getC c k = laterO (getC a k) (getC b k)) : below a c := fun k v hv => by
  rw [h, hv]
  cases q : getC b k with
  | none => exact ⟨v, rfl, ltP2_irr _⟩
  | some y =>
    simp only [laterO]
    cases h1 : ltP2 v.1 y.1 with
    | true =>
      refine ⟨y, by simp, ?_⟩
      cases h2 : ltP2 y.1 v.1 with
      | false => rfl
      | true =>
        simp only [ltP2, decide_eq_true_eq] at h1 h2
        omega
    | false => exact ⟨v, by simp, ltP2_irr _⟩
theorem below_join2 {a b c : List Cel} (h : ∀ k, getC c k = laterO (getC a k) (getC b k)) : below b c := fun k v hv => by
  rw [h, hv]
  cases q : getC a k with
  | none => exact ⟨v, rfl, ltP2_irr _⟩
  | some y =>
    simp only [laterO]
    cases h1 : ltP2 y.1 v.1 with
    | true => exact ⟨v, by simp, ltP2_irr _⟩
    | false => exact ⟨y, by simp, h1⟩
/-- all cells are changes of cs -/
def Among (cs : List Ch) (cl : List Cel) : Prop := ∀ k v, getC cl k = some v → chOf (k, v) ∈ cs
theorem among_cells {as cs : List Ch} (h : ∀ c ∈ as, c ∈ cs) : Among cs (cellsOf as) := fun k v hv => by
  have b := best_cells as k
  rw [hv] at b
  obtain ⟨⟨c, hc, e1, e2⟩, _⟩ := b
  have : chOf (k, v) = c := by rw [e2, ← e1]; rfl
  rw [this]; exact h c hc
theorem among_join {cs : List Ch} {a b c : List Cel} (ha : Among cs a) (hb : Among cs b) (h : ∀ k, getC c k = laterO (getC a k) (getC b k)) : Among cs c := fun k v hv => by
  rw [h] at hv
  cases qa : getC a k with
  | none => rw [qa] at hv; exact hb k v hv
  | some x =>
    cases qb : getC b k with
    | none => rw [qa, qb] at hv; exact ha k v (by rw [qa]; exact hv)
    | some y =>
      rw [qa, qb] at hv
      simp only [laterO] at hv
      split at hv
      · exact hb k v (by rw [qb]; exact hv)
      · exact ha k v (by rw [qa]; exact hv)
/-- one stamp, one value -/
theorem among_one {cs : List Ch} {a b : List Cel} (nd : ∀ c ∈ cs, ∀ d ∈ cs, c.st = d.st → c = d) (ha : Among cs a) (hb : Among cs b) {k : Nm × Str} {v u : Nm × Va} (h1 : getC a k = some v) (h2 : getC b k = some u) (e : v.1 = u.1) : v = u := by
  have h := nd _ (ha k v h1) _ (hb k u h2) e
  injection h with e1 e2 e3 e4
  exact Prod.ext e1 e4
theorem later_comm {cs : List Ch} {a b : List Cel} (nd : ∀ c ∈ cs, ∀ d ∈ cs, c.st = d.st → c = d) (ha : Among cs a) (hb : Among cs b) (k : Nm × Str) : laterO (getC a k) (getC b k) = laterO (getC b k) (getC a k) := by
  cases qa : getC a k with
  | none => rw [laterO_none]; rfl
  | some x =>
    cases qb : getC b k with
    | none => rfl
    | some y =>
      simp only [laterO]
      cases h1 : ltP2 x.1 y.1 <;> cases h2 : ltP2 y.1 x.1
      · simp only [Bool.false_eq_true, if_false]
        rw [among_one nd ha hb qa qb (ltP2_tri h1 h2)]
      · rfl
      · rfl
      · simp only [ltP2, decide_eq_true_eq] at h1 h2
        omega
/-- what is above and below is the same -/
theorem below_same {cs : List Ch} {a b : List Cel} (nd : ∀ c ∈ cs, ∀ d ∈ cs, c.st = d.st → c = d) (ha : Among cs a) (hb : Among cs b) (h1 : below a b) (h2 : below b a) (k : Nm × Str) : getC a k = getC b k := by
  cases qa : getC a k with
  | none =>
    cases qb : getC b k with
    | none => rfl
    | some y =>
      obtain ⟨v, e, _⟩ := h2 k y qb
      rw [qa] at e; cases e
  | some x =>
    obtain ⟨y, qb, l1⟩ := h1 k x qa
    obtain ⟨x', qa', l2⟩ := h2 k y qb
    rw [qa] at qa'
    obtain rfl := Option.some.inj qa'
    rw [qb, among_one nd ha hb qa qb (ltP2_tri l2 l1)]
theorem below_refl_of {a b : List Cel} (h : ∀ k, getC a k = getC b k) : below a b := fun k v hv => ⟨v, by rw [← h]; exact hv, ltP2_irr _⟩

/-! ### joined, is_below, the state of a row -/
theorem iteF {A B : Prop} (h : B) : if false = true then A else B := by rw [if_neg (by simp)]; exact h
theorem iteT {A B : Prop} (h : A) : if true = true then A else B := by rw [if_pos rfl]; exact h
section
variable {P : Program} {w : World} {K : PySem.W.Frag} {mg : Str → Option Value} {base : Heap} {C c T : Addr}
theorem ND.ext {H : Hp} {d : Addr} {kvs : List NKV} (n : ND P w K H d kvs) : ∃ o, H d = some o ∧ ∀ ps, o ≠ .tbl ps := let ⟨_, e, _⟩ := n; ⟨_, e, fun _ z => nomatch z⟩
theorem StA.nT {H : Hp} {x dx d : Addr} {cl : List Cel} {ps : Array Value} (h : StA P w K C H x dx d cl) (hT : H T = some (.tbl ps)) : x ∉ [T] ∧ d ∉ [T] := by
  obtain ⟨kvs, n, _⟩ := h.nd
  obtain ⟨o, e, ne⟩ := n.ext
  have a := h.at_
  unfold SAt at a
  simp only [List.mem_singleton]
  refine ⟨fun z => ?_, fun z => ?_⟩
  · rw [z, hT] at a; cases a
  · rw [z, hT] at e; exact ne _ (Option.some.inj e).symm
theorem StA.new {H : Hp} {x dx d p : Addr} {cl : List Cel} (h : StA P w K C H x dx d cl) (n : H p = none) : x ≠ p ∧ d ≠ p := by
  obtain ⟨kvs, m, _⟩ := h.nd
  obtain ⟨o, e, _⟩ := m.ext
  exact ⟨ne_of_none h.at_ n, ne_of_none e n⟩
def spState (P : Program) (w : World) (K : PySem.W.Frag) (C : Addr) : Sp := fun vs H Q _ => ∃ (r : Addr) (ws : List V) (cs : List Ch), vs = [.ref r] ∧ SqL K H r ws ∧ DtsAt K H ws (cs.map chD) ∧ ws.length ≤ 1000 ∧
  ∀ (y dy e : Addr) (H1 : Hp), H y = none → H e = none → y ≠ e → StA P w K C H1 y dy e (cellsOf cs) → Stp [] H H1 → Q (.ref y) H1
theorem cal_law_state (F : Df K mg d_law_state) (CL_State : Cls K C) (NA : NoAttr K C "cells") (I_State : Mki P w K mg base lv_State_init C "State" ["self"] (spInit P w K C)) (M_State_take : Mth P w K mg base lv_State_take C "take" ["self", "change"] (spTake P w K C)) : Cal P w K mg base lv_law_state "_law_state" ["changes"] (spState P w K C) := by
  obtain ⟨f, fd, F, g⟩ := F
  refine ⟨f, fd, F.ok sc_law_state (fun vs H Q E h => ?_) (fun cdv A outer s H vs Q E hr h => ⟨_, PSs.nox
    (pss_cons (ps_set (i := 1) sc_law_state.nd rfl (Or.inl rfl) (pc_make0 I_State (hr.mono (by decide)) (by rfl)))
    (pss_cons (ps_for PassesOwn.never rfl (pi_list (pv 0)) (pg_name (i := 2) sc_law_state.nd rfl (Or.inl rfl))
      (pss_one (ps_expr (pc_meth (pv 1) CL_State M_State_take (hr.mono (by decide)) (pa_cons (pv 2) pa_nil)))))
    (pss_one (ps_ret (pv 1))))), ?_⟩), g, F.kp, F.bindsN fun _ _ _ _ _ _ us hl => match us, hl with | [_], _ => rfl⟩
  · obtain ⟨r, ws, cs, rfl, _⟩ := h
    rfl
  · obtain ⟨r, ws, cs, rfl, hr1, hd, hl, q⟩ := h
    have wl : ws.length = cs.length := by have := hd.length; rwa [List.length_map] at this
    repeat walk_at "h"
    intro y dy ny ndy ydy
    have s4 : Stp [] H (upd (upd H dy (.own y)) y (.ins C dy [])) := (Stp.new ndy).add (by rw [upd_ne ydy.symm]; exact ny)
    refine ⟨y, dy, rfl, upd_same, fun e H5 ne y5 e5 s5 => ⟨rfl, ?_⟩⟩
    have s45 := s4.into ny s5
    have ne0 : H e = none := s4.free ne (by simp)
    have T5 : StA P w K C H5 y dy e [] := ⟨y5, [], e5, .nil⟩
    have ye : y ≠ e := fun z => by rw [← z, upd_same] at ne; cases ne
    clear s4 s5
    repeat walk_at "h"
    refine ⟨r, rfl, ⟨ws, s45.seq hr1 (by simp)⟩, ?_⟩
    refine for_list (xs := ws) (fun i σ H' => ∃ y2 : Option V, σ = [some (.ref r), some (.ref y), y2] ∧ Stp [] H H' ∧ StA P w K C H' y dy e (cellsOf (cs.take i)))
      ⟨_, rfl, s45, T5⟩ (fun i σ H' _ ⟨_, _, s, _⟩ => s.seq hr1 (by simp)) ?_ ?_
    · rintro i v σ H6 hv ⟨y2, rfl, s6, T6⟩
      obtain ⟨k, hk, dk⟩ := ch_get (chs_stp hd s6) hv
      have tk : cs.take (i + 1) = cs.take i ++ [k] := by rw [List.take_add_one, hk]; rfl
      have cl := cellsOf_len (cs.take i)
      rw [List.length_take] at cl
      repeat walk_at "h"
      refine ⟨y, dy, _, rfl, T6.at_, rfl, ?_⟩
      repeat walk_at "h"
      refine ⟨y, dy, e, v, k, _, rfl, dk, T6, by omega, ye, fun H7 s7 T7 => ?_⟩
      repeat walk_at "h"
      refine ⟨_, rfl, s6.into ne0 s7, ?_⟩
      rw [tk, cellsOf_snoc]; exact T7
    · rintro σ H6 ⟨y2, rfl, s6, T6⟩
      rw [wl, List.take_length] at T6
      repeat walk_at "h"
      exact q y dy e H6 ny ne0 ye T6 s6
def spJoined (P : Program) (w : World) (K : PySem.W.Frag) (C T : Addr) : Sp := fun vs H Q _ => ∃ (x dx d y dy e : Addr) (a b : List Cel) (L : List Addr), vs = [.ref x, .ref y] ∧ StA P w K C H x dx d a ∧ x ≠ d ∧ StA P w K C H y dy e b ∧ y ≠ e ∧ (keysOf a).Nodup ∧ (keysOf b).Nodup ∧ a.length + b.length ≤ 1000 ∧ Tab H T lamQ L ∧
  ∀ (z dz f : Addr) (cl : List Cel) (H1 : Hp) (L1 : List Addr), Tab H1 T lamQ L1 → (∀ c ∈ L1, c ∈ L ∨ H c = none) → Stp [T] H H1 → H z = none → H f = none → z ≠ f → StA P w K C H1 z dz f cl → (keysOf cl).Nodup → cl.length ≤ a.length + b.length → (∀ k, getC cl k = laterO (getC a k) (getC b k)) → Q (.ref z) H1
theorem ND.locked {H : Hp} {d e : Addr} {u : HO} {o : Obj} {kvs : List NKV} (h : ND P w K H e kvs) (hu : H d = some u) (nt : ∀ xs, u ≠ .tup xs) : NDR P w K (upd H d (.frz o u)) e kvs := by
  obtain ⟨xs, e1, k, q⟩ := h
  have st : Stp [d] H (upd H d (.frz o u)) := .wr (by simp) hu nt
  by_cases z : e = d
  · subst z
    rw [hu] at e1
    obtain rfl := Option.some.inj e1
    exact ⟨xs, .inr ⟨o, upd_same⟩, k.stp st, q⟩
  · exact ⟨xs, .inl (by rw [upd_ne z]; exact e1), k.stp st, q⟩
theorem StA.locked {H : Hp} {x dx e d : Addr} {u : HO} {o : Obj} {cl : List Cel} (h : StA P w K C H x dx e cl) (hu : H d = some u) (nt : ∀ xs, u ≠ .tup xs) (xd : x ≠ d) : StR P w K C (upd H d (.frz o u)) x dx e cl :=
  ⟨by unfold SAt; rw [upd_ne xd]; exact h.at_, let ⟨kvs, a, b⟩ := h.nd; ⟨kvs, a.locked hu nt, b.stp (.wr (M := [d]) (by simp) hu nt)⟩⟩
def spBelow (P : Program) (w : World) (K : PySem.W.Frag) (C : Addr) : Sp := fun vs H Q _ => ∃ (x dx d y dy e : Addr) (a b : List Cel), vs = [.ref x, .ref y] ∧ StA P w K C H x dx d a ∧ x ≠ d ∧ StA P w K C H y dy e b ∧ y ≠ d ∧ (keysOf a).Nodup ∧
  ∀ H1, Stp [] H H1 → Q (.bl (decide (below a b))) H1
end

/-! ### lists made of lists: a copy, the stamps -/
section
variable {K : PySem.W.Frag} {σ : L2.St} {H : Hp} {Q : VK} {i j : Nat} {r : Addr}
theorem wipe_one (σ : L2.St) (j : Nat) (v : Option V) : wipe ((wipe σ [j]).set j v) [j] = wipe σ [j] := by
  show ((σ.set j none).set j v).set j none = σ.set j none
  rw [List.set_set, List.set_set]
theorem wipe_at {σ : L2.St} {j : Nat} (h : ∃ o, σ[j]? = some o) (v : V) : ((wipe σ [j]).set j (some v))[j]? = some (some v) := by
  obtain ⟨o, h⟩ := h
  have : j < (wipe σ [j]).length := by rw [wipe_length]; exact (List.getElem?_eq_some_iff.mp h).1
  rw [List.getElem?_set_self this]
theorem chs_depth : ∀ l : List Ch, Dt.depthAll (l.map chD) ≤ 3
  | [] => Nat.zero_le _
  | c :: l => by
    have h1 := chs_depth l
    have h2 := chD_depth c
    rw [List.map_cons, Dt.depthAll]
    omega
/-- [x for x in list] -/
theorem lc_same {ws : List V} (hi : σ[i]? = some (some (.ref r))) (hj : ∃ o, σ[j]? = some o) (hr : H r = some (.lst ws)) (hl : ws.length ≤ 100000)
    (q : ∀ (p : Addr) (H1 : Hp), H p = none → H1 p = some (.lst ws) → Stp [] H H1 → Q (.ref p) H1) : tLc (iList K (tVar i)) (gName j) tYes (tVar j) [j] σ H Q := by
  refine i_Lc (i_List (i_var hi ⟨r, rfl, ⟨ws, SqL.of hr⟩, fun l hl0 => ?_⟩))
  refine lc_list (xs := ws) (fun i H' => Stp [] H H' ∧ H' l = some (.lst (ws.take i))) ⟨.new hl0, upd_same⟩ (fun i H' _ ⟨h, _⟩ => SqL.of (h.keep _ _ hr (by simp))) ?_ ?_
  · rintro n x H1 hx ⟨s1, h1⟩
    refine i_Name ⟨wipe_one _ _ _, i_Yes (i_ite (fun _ => i_var (wipe_at hj x) ⟨_, h1, ?_, s1.mut hl0, ?_⟩) (fun z => nomatch z))⟩
    · rw [List.length_take]
      exact Nat.lt_of_le_of_lt (show min n ws.length ≤ 100000 by omega) (by decide)
    · rw [upd_same, List.take_add_one, hx]; rfl
  · rintro H1 ⟨s1, h1⟩
    rw [List.take_length] at h1
    exact q l H1 hl0 h1 s1
/-- [x[0] for x in list] of changes -/
theorem lc_st {ws : List V} {cs : List Ch} (hi : σ[i]? = some (some (.ref r))) (hj : ∃ o, σ[j]? = some o) (hr : SqL K H r ws) (hd : DtsAt K H ws (cs.map chD)) (hl : ws.length ≤ 100000)
    (q : ∀ (p : Addr) (ys : List V) (H1 : Hp), H p = none → H1 p = some (.lst ys) → DtsAt K H1 ys ((cs.map Ch.st).map nmD) → Stp [] H H1 → Q (.ref p) H1) : tLc (iList K (tVar i)) (gName j) tYes (tOp (rIxT K) (tVar j) (tC (.int 0))) [j] σ H Q := by
  have wl : ws.length = cs.length := by have := hd.length; rwa [List.length_map] at this
  refine i_Lc (i_List (i_var hi ⟨r, rfl, ⟨ws, hr⟩, fun l hl0 => ?_⟩))
  refine lc_list (xs := ws) (fun i H' => Stp [] H H' ∧ ∃ acc, H' l = some (.lst acc) ∧ DtsAt K H' acc (((cs.take i).map Ch.st).map nmD))
    ⟨.new hl0, [], upd_same, .nil⟩ (fun i H' _ ⟨h, _⟩ => h.seq hr (by simp)) ?_ ?_
  · rintro n x H1 hx ⟨s1, acc, h1, d1⟩
    obtain ⟨c, hc, dc⟩ := ch_get (chs_stp hd s1) hx
    obtain ⟨a, sv, nv, v, rfl, ha, hs, hn, hv⟩ := chAt dc
    refine i_Name ⟨wipe_one _ _ _, i_Yes (i_ite (fun _ => i_Op (i_var (wipe_at hj _) (i_C (i_IxT ha.sqt (at_of (j := 0) rfl rfl) ⟨acc, h1, ?_, s1.mut hl0, _, upd_same, ?_⟩)))) (fun z => nomatch z))⟩
    · have := d1.length
      rw [List.length_map, List.length_map, List.length_take] at this
      exact Nat.lt_of_le_of_lt (show acc.length ≤ 100000 by omega) (by decide)
    · have st : Stp [l] H1 (upd H1 l (.lst (acc ++ [sv]))) := .wr (by simp) h1 fun _ z => nomatch z
      have tk : cs.take (n + 1) = cs.take n ++ [c] := by rw [List.take_add_one, hc]; rfl
      rw [tk, List.map_append]
      exact nms_map (DtsAt.stp st _ _ (nms_flat _) d1) (DtAt.stp st _ _ rfl hs)
  · rintro H1 ⟨s1, acc, h1, d1⟩
    rw [wl, List.take_length] at d1
    exact q l acc H1 hl0 h1 d1 s1
/-- some stamps in order -/
theorem nm_order (ss : List Nm) : ∃ ts : List Nm, ts.Perm ss ∧ (ts.Pairwise fun a b => ltP2 b a = false) ∧ (ss.map nmD).mergeSort leD = ts.map nmD := by
  have tot : PySem.W.TotalLe leD := by
    have h : PySem.W.TotalLe (PySem.W.dataLe false Dt.py) := by
      unfold PySem.W.dataLe
      exact PySem.W.sortLe_total _ _ _
    exact h
  have asc := PySem.W.sort_pairwise tot (ss.map nmD)
  obtain ⟨ts, pt, et⟩ := of_perm_map (List.mergeSort_perm (ss.map nmD) leD) rfl
  rw [et, List.pairwise_map] at asc
  exact ⟨ts, pt, asc.imp fun {a b} h => by rw [leD_nm] at h; simpa using h, et⟩
theorem nd_changes {cs : List Ch} (h : (cs.map Ch.st).Nodup) : cs.Nodup := by
  induction cs with
  | nil => exact .nil
  | cons c cs ih =>
    rw [List.map_cons, List.nodup_cons] at h
    rw [List.nodup_cons]
    exact ⟨fun z => h.1 (List.mem_map.mpr ⟨c, z, rfl⟩), ih h.2⟩
theorem perm_of_mem {α : Type} [DecidableEq α] {l m : List α} (hl : l.Nodup) (hm : m.Nodup) (h : ∀ x, x ∈ l ↔ x ∈ m) : l.Perm m := (List.perm_ext_iff_of_nodup hl hm).mpr h
/-- the stamps of a ranked row are the stamps in order -/
theorem ranked_st {cs es : List Ch} {ts : List Nm} (R : Ranked cs es) (nd : (cs.map Ch.st).Nodup) (pt : ts.Perm (cs.map Ch.st)) (at_ : ts.Pairwise fun a b => ltP2 b a = false) : es.map Ch.st = ts := by
  have p : es.Perm cs := (List.perm_ext_iff_of_nodup R.once (nd_changes nd)).mpr R.mem
  refine one_sorted (r := fun a b => ltP2 b a = false) _ _ ((p.map _).trans pt.symm) ?_ at_ fun a _ b _ h1 h2 => ltP2_tri h2 h1
  rw [List.pairwise_map]
  exact R.asc
theorem Ranked.same {as bs es : List Ch} (R : Ranked as es) (m : ∀ c, c ∈ as ↔ c ∈ bs) : Ranked bs es := ⟨R.once, fun c => (R.mem c).trans (m c), R.asc⟩
/-- the last of the stamps in order is the greatest -/
theorem top_last {ss ts : List Nm} (m : ∀ n, n ∈ ss ↔ n ∈ ts) (asc : ts.Pairwise fun a b => ltP2 b a = false) : ∀ {x : Option Nm}, Top ss x → x = ts.getLast?
  | none, h => by
    have e : ss = [] := h
    cases ts with
    | nil => rfl
    | cons t r =>
      have z := (m t).mpr List.mem_cons_self
      rw [e] at z; cases z
  | some b, h => by
    obtain ⟨h1, h2⟩ := h
    have hb := (m b).mp h1
    cases e : ts.getLast? with
    | none =>
      rw [List.getLast?_eq_none_iff.mp e] at hb; cases hb
    | some l =>
      obtain ⟨us, rfl⟩ := List.getLast?_eq_some_iff.mp e
      have hl : l ∈ us ++ [l] := List.mem_append_right _ List.mem_cons_self
      have h3 := h2 l ((m l).mpr hl)
      have h4 : ltP2 l b = false := by
        rcases List.mem_append.mp hb with z | z
        · exact (List.pairwise_append.mp asc).2.2 b z l List.mem_cons_self
        · rw [List.mem_singleton.mp z]; exact ltP2_irr l
      rw [ltP2_tri h3 h4]
theorem DtsAt.last : ∀ {ds : List Dt} {vs : List V} {d : Dt}, DtsAt K H vs (ds ++ [d]) → ∃ us v, vs = us ++ [v] ∧ DtAt K H v d
  | [], _, _, h => by
    cases h with
    | cons h1 h2 => cases h2; exact ⟨[], _, rfl, h1⟩
  | _ :: _, _, _, h => by
    cases h with
    | cons h1 h2 =>
      obtain ⟨us, v, e, q⟩ := DtsAt.last h2
      exact ⟨_ :: us, v, by rw [e]; rfl, q⟩
theorem DtsAt.take : ∀ {ds : List Dt} {vs : List V} (k : Nat), DtsAt K H vs ds → DtsAt K H (vs.take k) (ds.take k)
  | _, _, 0, _ => .nil
  | [], _, k + 1, h => by cases h; exact .nil
  | _ :: _, _, k + 1, h => by
    cases h with
    | cons h1 h2 => exact .cons h1 (DtsAt.take k h2)
theorem nm_get {ts : List Nm} {vs : List V} {i : Nat} {v : V} (h : DtsAt K H vs (ts.map nmD)) (e : vs[i]? = some v) : ∃ n, ts[i]? = some n ∧ DtAt K H v (nmD n) := by
  obtain ⟨d, h1, h2⟩ := h.getV e
  rw [List.getElem?_map] at h1
  obtain ⟨n, hn, rfl⟩ := Option.map_eq_some_iff.mp h1
  exact ⟨n, hn, h2⟩
def stD : Option Nm → Dt
  | none => .non
  | some b => nmD b
theorem stOf.dt {o : V} {x : Option Nm} (h : stOf K H o x) : DtAt K H o (stD x) := by
  cases x with
  | none =>
    obtain rfl : o = .non := h
    exact .non
  | some b => exact h
theorem stD_depth (x : Option Nm) : (stD x).depth ≤ 60 := by cases x <;> simp [stD, Dt.depth, Dt.depthAll]
theorem stD_flat (x : Option Nm) : (stD x).flat = true := by cases x <;> rfl
end

/-! ### the names that a state mentions -/
section
variable {P : Program} {w : World} {K : PySem.W.Frag} {mg : Str → Option Value} {base : Heap} {C : Addr}
def tgtOf : Va → Option Nm
  | .tg _ n => some n
  | _ => none
def spLinked (K : PySem.W.Frag) : Sp := fun vs H Q _ => ∃ (v : V) (x : Va), vs = [v] ∧ DtAt K H v (vaD x) ∧ ∀ r, stOf K H r (tgtOf x) → Q r H
theorem cal_linked_name (F : Df K mg d_linked_name) (B : Blt mg) : Cal P w K mg base lv_linked_name "linked_name" ["value"] (spLinked K) := by
  obtain ⟨f, fd, F, g⟩ := F
  refine ⟨f, fd, F.ok sc_linked_name (fun vs H Q E h => ?_) (fun cdv A outer s H vs Q E hr h => ⟨_, PSs.nox
    (pss_cons (ps_if (pt_val (pe_callB call_isi (by rfl) B.isinstance (by decide +kernel) (pa_cons (pv 0) (pa_cons (pe_bltn (v := .ty "tuple") (by rfl) B.tuple (by decide +kernel) rfl) pa_nil))))
      (pss_one (ps_ret (pe_ix (ix_tupK (K := K) rfl) (pv 0) pe_int (fun _ _ => rfl))))
      pss_nil)
    (pss_one (ps_ret pe_non))), ?_⟩), g, F.kp, F.bindsN fun _ _ _ _ _ _ us hl => match us, hl with | [_], _ => rfl⟩
  · obtain ⟨v, x, rfl, _⟩ := h
    rfl
  · obtain ⟨v, x, rfl, hx, q⟩ := h
    repeat walk_at "h"
    cases x with
    | tg s n =>
      refine i_Isi "tuple" true hx ?_
      obtain ⟨a, b, rfl, ha, hb⟩ := tgAt hx
      repeat walk_at "h"
      refine iteT ?_
      repeat walk_at "h"
      refine i_IxT ha.sqt (at_of (j := 1) rfl rfl) ?_
      exact q _ hb
    | non =>
      refine i_Isi "NoneType" false hx ?_
      repeat walk_at "h"
      refine iteF ?_
      repeat walk_at "h"
      exact q _ rfl
    | num i =>
      refine i_Isi "int" false hx ?_
      repeat walk_at "h"
      refine iteF ?_
      repeat walk_at "h"
      exact q _ rfl
    | txt z =>
      refine i_Isi "str" false hx ?_
      repeat walk_at "h"
      refine iteF ?_
      repeat walk_at "h"
      exact q _ rfl
/-- the cell p mentions n -/
def Men (p : Cel) (n : Nm) : Prop := p.1.1 = n ∨ tgtOf p.2.2 = some n
/-- names, each once, ascending: those that the cells mention -/
structure NamesR (cl : List Cel) (ns : List Nm) : Prop where
  once : ns.Nodup
  asc : ns.Pairwise fun a b => ltP2 b a = false
  mem : ∀ n, n ∈ ns ↔ ∃ p ∈ cl, Men p n
theorem NamesR.one {cl : List Cel} {ns ms : List Nm} (a : NamesR cl ns) (b : NamesR cl ms) : ns = ms :=
  one_sorted (r := fun a b => ltP2 b a = false) _ _ (perm_of_mem a.once b.once fun x => (a.mem x).trans (b.mem x).symm) a.asc b.asc fun _ _ _ _ h1 h2 => ltP2_tri h2 h1
def addN (ns : List Nm) (n : Nm) : List Nm := if n ∈ ns then ns else ns ++ [n]
theorem addN_nd {ns : List Nm} {n : Nm} (h : ns.Nodup) : (addN ns n).Nodup := by
  unfold addN
  split
  · exact h
  · rename_i hn
    rw [List.nodup_append]
    refine ⟨h, List.pairwise_singleton .., ?_⟩
    intro a ha b hb e
    rw [List.mem_singleton] at hb
    subst hb; subst e
    exact hn ha
theorem addN_mem {ns : List Nm} {n m : Nm} : m ∈ addN ns n ↔ m ∈ ns ∨ m = n := by
  unfold addN
  split
  · rename_i h
    exact ⟨.inl, fun z => z.elim id fun e => by rw [e]; exact h⟩
  · simp
theorem addN_len (ns : List Nm) (n : Nm) : (addN ns n).length ≤ ns.length + 1 := by
  unfold addN; split <;> simp
theorem nmKey_inj {a b : Nm} (h : (nmD a).key = (nmD b).key) : a = b := nmD_inj (Dt.key_inj _ _ rfl rfl h)
theorem keys_addN {kvs : List NKV} {ns : List Nm} (h : kvs.map (·.1) = ns.map fun n => (nmD n).key) (n : Nm) (v : V) : (putK kvs (nmD n).key v).map (·.1) = (addN ns n).map fun n => (nmD n).key := by
  rw [putK_keys]
  have e : (kvs.any fun kv => decide (kv.1 = (nmD n).key)) = decide (n ∈ ns) := by
    have e1 : (kvs.any fun kv => decide (kv.1 = (nmD n).key)) = (kvs.map (·.1)).any fun k => decide (k = (nmD n).key) := by rw [List.any_map]; rfl
    rw [e1, h, List.any_map, Bool.eq_iff_iff, List.any_eq_true, decide_eq_true_eq]
    constructor
    · rintro ⟨m, hm, e⟩
      rw [← nmKey_inj (of_decide_eq_true e)]; exact hm
    · intro hm
      exact ⟨n, hm, by simp⟩
  unfold addN
  rw [e]
  by_cases c : n ∈ ns
  · rw [if_pos (by simpa using c), if_pos c]; exact h
  · rw [if_neg (by simpa using c), if_neg c, List.map_append, h]; rfl
/-- the names of the first cells -/
structure NmsOf (cl : List Cel) (ns : List Nm) : Prop where
  once : ns.Nodup
  mem : ∀ n, n ∈ ns ↔ ∃ p ∈ cl, Men p n
  len : ns.length ≤ 2 * cl.length
theorem NmsOf.snoc {cl : List Cel} {ns : List Nm} {p : Cel} (h : NmsOf cl ns) : NmsOf (cl ++ [p]) (match tgtOf p.2.2 with | none => addN ns p.1.1 | some m => addN (addN ns p.1.1) m) := by
  have e : ∀ n, (∃ r ∈ cl ++ [p], Men r n) ↔ (n ∈ ns ∨ n = p.1.1) ∨ tgtOf p.2.2 = some n := by
    intro n
    constructor
    · rintro ⟨r, hr, m⟩
      rcases List.mem_append.mp hr with z | z
      · exact .inl (.inl ((h.mem n).mpr ⟨r, z, m⟩))
      · rw [List.mem_singleton.mp z] at m
        exact m.elim (fun e => .inl (.inr e.symm)) .inr
    · rintro ((z | z) | z)
      · obtain ⟨r, hr, m⟩ := (h.mem n).mp z
        exact ⟨r, List.mem_append_left _ hr, m⟩
      · exact ⟨p, by simp, .inl z.symm⟩
      · exact ⟨p, by simp, .inr z⟩
  have hl := h.len
  have l1 := addN_len ns p.1.1
  cases q : tgtOf p.2.2 with
  | none =>
    refine ⟨addN_nd h.once, fun n => ?_, by rw [List.length_append, List.length_singleton]; show (addN ns p.1.1).length ≤ _; omega⟩
    rw [e, addN_mem, q]
    simp
  | some m =>
    have l2 := addN_len (addN ns p.1.1) m
    refine ⟨addN_nd (addN_nd h.once), fun n => ?_, by rw [List.length_append, List.length_singleton]; show (addN (addN ns p.1.1) m).length ≤ _; omega⟩
    rw [e, addN_mem, addN_mem, q]
    simp only [Option.some.injEq]
    constructor
    · rintro (z | z)
      · exact .inl z
      · exact .inr z.symm
    · rintro (z | z)
      · exact .inl z
      · exact .inr z.symm
def spNames (P : Program) (w : World) (K : PySem.W.Frag) (C : Addr) : Sp := fun vs H Q _ => ∃ (x dx d : Addr) (cl : List Cel), vs = [.ref x] ∧ StA P w K C H x dx d cl ∧ x ≠ d ∧ cl.length ≤ 1000 ∧
  ∀ (p : Addr) (ys : List V) (ns : List Nm) (H1 : Hp), H p = none → H1 p = some (.lst ys) → DtsAt K H1 ys (ns.map nmD) → NamesR cl ns → Stp [] H H1 → Q (.ref p) H1
theorem mth_State_names (F : Dfm K C d_State_names) (B : Blt mg) (CL_State : Cls K C) (NA : NoAttr K C "cells") (C_linked_name : Cal P w K mg base lv_linked_name "linked_name" ["value"] (spLinked K)) : Mth P w K mg base lv_State_names C "names" ["self"] (spNames P w K C) := by
  obtain ⟨f, fd, F, g⟩ := F
  refine ⟨f, fd, F.ok sc_State_names (fun vs H Q E h => ?_) (fun cdv A outer s H vs Q E hr h => ⟨_, PSs.nox
    (pss_cons (ps_set (i := 1) sc_State_names.nd rfl (Or.inl rfl) pe_dnewN)
    (pss_cons (ps_lock (ps_for PassesOwn.never rfl (pi_ni (pe_fld (pv 0) rfl)) (pg_tup (by rfl) (pgs_cons (pg_tup (by rfl) (pgs_cons (pg_name (i := 2) sc_State_names.nd rfl (Or.inl rfl)) (pgs_cons (pg_name (i := 3) sc_State_names.nd rfl (Or.inl rfl)) pgs_nil))) (pgs_cons (pg_tup (by rfl) (pgs_cons (pg_name (i := 3) sc_State_names.nd rfl (Or.inl rfl)) (pgs_cons (pg_name (i := 4) sc_State_names.nd rfl (Or.inl rfl)) pgs_nil))) pgs_nil)))
      (pss_cons (ps_nput hr (pv 1) (pv 2) pe_bl rfl)
        (pss_cons (ps_set (i := 5) sc_State_names.nd rfl (Or.inl rfl) (pc_call C_linked_name (hr.mono (by decide)) (by rfl) (pa_cons (pv 4) pa_nil)))
        (pss_one (ps_if (pt_cmpR op_notN (pv 5) pe_non (nomark _))
          (pss_one (ps_nput hr (pv 1) (pv 5) pe_bl rfl))
          pss_nil))))))
    (pss_one (ps_ret (pe_callB (cr_sortK (P := P) (w := w) (K := K) rfl rfl rfl rfl hr.units) (by rfl) B.sorted (by decide +kernel) (pa_cons (pv 1) pa_nil)))))), ?_⟩), g, F.kp, F.bindsN fun _ _ _ _ _ _ us hl => match us, hl with | [_], _ => rfl⟩
  · obtain ⟨x, dx, d, cl, rfl, _⟩ := h
    rfl
  · obtain ⟨x, dx, d, cl, rfl, ⟨hx0, kvs0, hn0, hd0⟩, xd, hl, q⟩ := h
    repeat walk_at "h"
    intro t H1 nt n1 s1
    have hx := s1.keep _ _ hx0 (by simp)
    have hn := hn0.stp s1 (by simp)
    have hd := hd0.stp s1
    have dt : d ≠ t := by
      obtain ⟨o, e, _⟩ := hn0.ext
      exact ne_of_none e nt
    have xt : x ≠ t := ne_of_none hx0 nt
    obtain ⟨o0, eo0, _⟩ := hn0.ext
    clear hx0 hn0 hd0
    repeat walk_at "h"
    refine lock_nd hn fun o xs hxs kx ex => ?_
    subst hxs
    have exH : H d = some (ndO P w d xs) := by rw [eo0, ← ex]; exact (s1.keep _ _ eo0 (by simp)).symm
    have s0 : Stp [d] H1 (upd H1 d (.frz o (ndO P w d xs))) := Stp.lock ex ndO_nt
    have x0 : upd H1 d (.frz o (ndO P w d xs)) x = some (.ins C dx [(cellsS, .ref d)]) := by rw [upd_ne xd]; exact hx
    have d0 : upd H1 d (.frz o (ndO P w d xs)) d = some (.frz o (ndO P w d xs)) := upd_same
    have kx0 := kx.stp s0
    have dd0 := hd.stp s0
    have n0 : ND P w K (upd H1 d (.frz o (ndO P w d xs))) t [] := n1.stp s0 (by simpa using dt.symm)
    have xl : xs.length = cl.length := by rw [← plainX_len]; exact hd.len_cl
    repeat walk_at "h"
    refine ⟨x, C, dx, _, .ref d, rfl, x0, CL_State, NA, rfl, d, o, xs, rfl, d0, ?_⟩
    generalize hH0 : upd H1 d (.frz o (ndO P w d xs)) = H0 at s0 x0 d0 kx0 dd0 n0 ⊢
    refine for_ni (xs := xs) (fun i σ H' => ∃ (y2 y3 y4 y5 : Option V) (kv : List NKV) (ns : List Nm), σ = [some (.ref x), some (.ref t), y2, y3, y4, y5] ∧ Stp [t] H0 H' ∧ Stp [d] H H' ∧ ND P w K H' t kv ∧ kv.map (·.1) = (ns.map fun n => (nmD n).key) ∧ NmsOf (cl.take i) ns)
      ⟨_, _, _, _, [], [], rfl, .refl _, (s1.mono (by simp)).trans s0, n0, rfl, .nil, fun n => by simp, Nat.zero_le _⟩ (fun i σ H' _ ⟨_, _, _, _, _, _, _, s, _⟩ => s.keep _ _ d0 (by simpa using dt)) ?_ ?_
    · rintro i e σ H2 T1 he ⟨y2, y3, y4, y5, kv, ns, rfl, s2, sH2, nd2, ek2, N2⟩ nT
      obtain ⟨p, hp, ek, dv⟩ := cel_get dd0 he
      have hi : i < cl.length := (List.getElem?_eq_some_iff.mp hp).1
      have s3 : Stp [] H2 (upd H2 T1 (.tup [.ref e.2.1, e.2.2])) := .new nT
      have tT : TupAt K (upd H2 T1 (.tup [.ref e.2.1, e.2.2])) T1 [.ref e.2.1, e.2.2] := .inl upd_same
      have s23 := s2.trans (s3.mono (by simp))
      have nd3 := nd2.stp s3 (by simp)
      have ky := (kx0 e (List.mem_of_getElem? he)).stp s23
      rw [ek] at ky
      obtain ⟨n, kt, dn⟩ := ky_cel ky
      obtain ⟨va, sv, yv, ev, vt, ds, dy⟩ := cel_at (DtAt.stp s23 _ _ (datC_flat p.2) dv)
      have sH3 := sH2.trans (s3.mono (by simp))
      have nl : ns.length ≤ 2000 := by
        have := N2.len
        rw [List.length_take] at this
        omega
      have kl : kv.length = ns.length := by have := congrArg List.length ek2; simpa using this
      have tk : cl.take (i + 1) = cl.take i ++ [p] := by rw [List.take_add_one, hp]; rfl
      have SN := N2.snoc (p := p)
      generalize upd H2 T1 (.tup [.ref e.2.1, e.2.2]) = H3 at s3 tT s23 nd3 ky kt dn vt ds dy sH3 ⊢
      rw [ev] at tT
      refine i_gTup tT.sqt rfl ?_
      repeat walk_at "h"
      refine i_gTup kt.sqt rfl ?_
      repeat walk_at "h"
      refine i_gTup vt.sqt rfl ?_
      repeat walk_at "h"
      obtain ⟨na, rfl, hna⟩ := nmAt dn
      refine ⟨t, na, kv, (nmD p.1.1).key, rfl, rfl, nd3, KyAt.of dn rfl (by simp [nmD, Dt.depth, Dt.depthAll]), ?_, fun H4 nd4 s4 f4 => ?_⟩
      · exact Nat.lt_of_le_of_lt (show kv.length ≤ 2000 by omega) (by decide)
      have dn4 := DtAt.stp s4 _ _ rfl dn
      have dy4 := DtAt.stp s4 _ _ (vaD_flat _) dy
      have s24 := s23.trans s4
      have sH4 : Stp [d] H H4 := f4 H [d] sH3 nt
      have ek4 := keys_addN ek2 p.1.1 (.bl true)
      clear f4 s4 s3 s23 tT kt vt nd3 hna
      repeat walk_at "h"
      refine ⟨yv, p.2.2, rfl, dy4, fun r hr => ?_⟩
      repeat walk_at "h"
      cases htg : tgtOf p.2.2 with
      | none =>
        rw [htg] at hr SN
        obtain rfl : r = .non := hr
        refine ⟨rfl, ⟨_, rfl, i_ite (fun z => by simp at z) (fun _ => ?_)⟩⟩
        repeat walk_at "h"
        exact ⟨_, _, _, _, _, _, rfl, s24, sH4, nd4, ek4, by rw [tk]; exact SN⟩
      | some m =>
        rw [htg] at hr SN
        have dm : DtAt K H4 r (nmD m) := hr
        obtain ⟨ma, rfl, _⟩ := nmAt dm
        refine ⟨rfl, ⟨_, rfl, i_ite (fun _ => ?_) (fun z => by simp at z)⟩⟩
        repeat walk_at "h"
        refine ⟨t, ma, _, (nmD m).key, rfl, rfl, nd4, KyAt.of dm rfl (by simp [nmD, Dt.depth, Dt.depthAll]), ?_, fun H5 nd5 s5 f5 => ?_⟩
        · have := length_putK kv (nmD p.1.1).key (.bl true)
          exact Nat.lt_of_le_of_lt (show _ ≤ 2001 by omega) (by decide)
        repeat walk_at "h"
        exact ⟨_, _, _, _, _, _, rfl, s24.trans s5, f5 H [d] sH4 nt, nd5, keys_addN ek4 m (.bl true), by rw [tk]; exact SN⟩
    · rintro σ H2 ⟨y2, y3, y4, y5, kv, ns, rfl, s2, sH2, nd2, ek2, N2⟩
      rw [xl, List.take_length] at N2
      have dd2 := s2.keep _ _ d0 (by simpa using dt)
      refine ⟨dd2, ?_⟩
      have off := Stp.off dd2
      have sH : Stp [] H (upd H2 d (ndO P w d xs)) := Stp.unlock sH2 exH ndO_nt
      have nd5 := nd2.stp off (by simpa using dt.symm)
      generalize upd H2 d (ndO P w d xs) = H5 at off sH nd5 ⊢
      repeat walk_at "h"
      obtain ⟨ts, pt, at_, et⟩ := nm_order ns
      refine ⟨t, kv, ns.map nmD, rfl, nd5.r, (by rw [ek2, List.map_map]; rfl), nms_flat _, Nat.le_trans (nms_depth _) (by decide), nms_alike _, ?_, fun p ys np dys => ?_⟩
      · exact nms_sortable _
      · rw [et] at dys
        have s6 : Stp [] H5 (upd H5 p (.lst ys)) := .new np
        exact q p ys ts _ (sH.free np (by simp)) upd_same (DtsAt.stp s6 _ _ (nms_flat _) dys) ⟨pt.nodup_iff.mpr N2.once, at_, fun n => (pt.mem_iff).trans (N2.mem n)⟩ (sH.trans s6)
end

/-! ### the same by repr -/
section
variable {P : Program} {w : World} {K : PySem.W.Frag} {mg : Str → Option Value} {base : Heap}
/-! short data: their repr fits a line -/
mutual
def Dt.brief : Dt → Bool
  | .non => true
  | .bl _ => true
  | .num i => decide (i.natAbs < 10 ^ 12)
  | .txt x => x.cps.toList.all fun c => decide (c < 16 ^ 8)
  | .tup ds => Dt.briefAll ds
  | .lst ds => Dt.briefAll ds
def Dt.briefAll : List Dt → Bool
  | [] => true
  | d :: ds => Dt.brief d && Dt.briefAll ds
end
mutual
theorem Dt.brief_ok : ∀ d : Dt, d.brief = true → d.py.leavesShort 13 = true ∧ d.py.showable = true
  | .non, _ => ⟨rfl, rfl⟩
  | .bl _, _ => ⟨rfl, rfl⟩
  | .num i, h => by
    have h : i.natAbs < 10 ^ 12 := by simpa [Dt.brief] using h
    refine ⟨?_, ?_⟩
    · have e := int_text_length_le10 (a := i) (k := 12) (by decide) h
      show decide ((PyData.shown (.int i)).length ≤ 13) = true
      refine decide_eq_true ?_
      show (Str.ofString (toString i)).length ≤ 13
      rw [PySem.ofString_length]
      omega
    · have : i.natAbs < 2 ^ 70 := Nat.lt_of_lt_of_le h (by decide)
      simp only [Dt.py, PyData.showable, decide_eq_true_eq]
      by_cases z : i.natAbs = 0
      · rw [z]; decide
      · have := (Nat.log2_lt z).mpr this
        omega
  | .txt x, h => ⟨by simpa [Dt.py, PyData.leavesShort, Dt.brief] using h, rfl⟩
  | .tup ds, h => by
    have := Dt.briefAll_ok ds (by simpa [Dt.brief] using h)
    exact ⟨by simpa [Dt.py, PyData.leavesShort] using this.1, by simpa [Dt.py, PyData.showable] using this.2⟩
  | .lst ds, h => by
    have := Dt.briefAll_ok ds (by simpa [Dt.brief] using h)
    exact ⟨by simpa [Dt.py, PyData.leavesShort] using this.1, by simpa [Dt.py, PyData.showable] using this.2⟩
theorem Dt.briefAll_ok : ∀ ds : List Dt, Dt.briefAll ds = true → PyData.leavesShortAll 13 (Dt.pys ds) = true ∧ PyData.showableAll (Dt.pys ds) = true
  | [], _ => ⟨rfl, rfl⟩
  | d :: ds, h => by
    rw [Dt.briefAll, Bool.and_eq_true] at h
    have h1 := Dt.brief_ok d h.1
    have h2 := Dt.briefAll_ok ds h.2
    simp only [Dt.pys, PyData.leavesShortAll, PyData.showableAll, h1.1, h1.2, h2.1, h2.2, Bool.and_self, and_self]
end
mutual
def Dt.mass : Dt → Nat
  | .txt x => x.cps.size
  | .tup ds => Dt.massAll ds
  | .lst ds => Dt.massAll ds
  | .non | .bl _ | .num _ => 0
def Dt.massAll : List Dt → Nat
  | [] => 0
  | d :: ds => Dt.mass d + 1 + Dt.massAll ds
end
mutual
theorem Dt.mass_py : ∀ d : Dt, d.py.bulk = d.mass
  | .non | .bl _ | .num _ | .txt _ => rfl
  | .tup ds => by simp only [Dt.py, PyData.bulk, Dt.mass, Dt.massAll_py ds]
  | .lst ds => by simp only [Dt.py, PyData.bulk, Dt.mass, Dt.massAll_py ds]
theorem Dt.massAll_py : ∀ ds : List Dt, PyData.bulkAll (Dt.pys ds) = Dt.massAll ds
  | [] => rfl
  | d :: ds => by simp only [Dt.pys, PyData.bulkAll, Dt.massAll, Dt.mass_py d, Dt.massAll_py ds]
end
theorem Dt.shows_of {d : Dt} (h : d.brief = true) (m : d.mass ≤ 2 ^ 20) (dp : d.depth ≤ 60) : d.Shows := by
  obtain ⟨h1, h2⟩ := Dt.brief_ok d h
  exact ⟨h2, PyData.shown_fits_bulk (B := 13) (by decide) (by decide) h1 (by rw [Dt.mass_py]; exact m), dp⟩
theorem massAll_map {α : Type} (f : α → Dt) (n : Nat) : ∀ l : List α, (∀ x ∈ l, (f x).mass ≤ n) → Dt.massAll (l.map f) ≤ (n + 1) * l.length
  | [], _ => Nat.zero_le _
  | x :: l, h => by
    have h1 := h x (by simp)
    have h2 := massAll_map f n l fun y hy => h y (by simp [hy])
    rw [List.map_cons, Dt.massAll, List.length_cons, Nat.mul_add, Nat.mul_one]
    omega
theorem briefAll_map {α : Type} (f : α → Dt) : ∀ l : List α, (∀ x ∈ l, (f x).brief = true) → Dt.briefAll (l.map f) = true
  | [], _ => rfl
  | x :: l, h => by
    rw [List.map_cons, Dt.briefAll, h x (by simp), briefAll_map f l fun y hy => h y (by simp [hy])]; rfl
theorem depthAll_map {α : Type} (f : α → Dt) (n : Nat) : ∀ l : List α, (∀ x ∈ l, (f x).depth ≤ n) → Dt.depthAll (l.map f) ≤ n
  | [], _ => Nat.zero_le _
  | x :: l, h => by
    have h1 := h x (by simp)
    have h2 := depthAll_map f n l fun y hy => h y (by simp [hy])
    rw [List.map_cons, Dt.depthAll]
    omega
def spSame (K : PySem.W.Frag) : Sp := fun vs H Q _ => ∃ (v y : V) (d : Dt), vs = [v, y] ∧ DtAt K H v d ∧ DtAt K H y d ∧ d.Shows ∧ Q (.bl true) H
theorem cal_law_same (F : Df K mg d_law_same) (B : Blt mg) (B_repr : mg "repr" = none) : CalG P w K mg base lv_law_same "_law_same" ["one", "other"] (spSame K) := by
  obtain ⟨f, fd, F, g⟩ := F
  refine ⟨f, fd, GT.FunD.okG F sc_law_same (fun vs H Q E h => ?_) (fun cdv A outer s H vs Q E hr hG h => ⟨_, PSs.nox
    (pss_one (ps_ret (pe_cmpR op_eq (pe_callB (call_repr (K := K) rfl hG hr.units) (by rfl) B_repr (by decide +kernel) (pa_cons (pv 0) pa_nil)) (pe_callB (call_repr (K := K) rfl hG hr.units) (by rfl) B_repr (by decide +kernel) (pa_cons (pv 1) pa_nil)) (nomark _)))), ?_⟩), g, F.kp, F.bindsN fun _ _ _ _ _ _ us hl => match us, hl with | [_, _], _ => rfl⟩
  · obtain ⟨v, y, d, rfl, _⟩ := h
    rfl
  · obtain ⟨v, y, d, rfl, hv, hy, hs, q⟩ := h
    repeat walk_at "h"
    refine ⟨v, d, rfl, hv, hs, ?_⟩
    repeat walk_at "h"
    refine ⟨y, d, rfl, hy, hs, ?_⟩
    refine i_Eq rfl ?_
    rw [decide_eq_true rfl]
    exact q
end

/-! ### names in lists: in, index -/
section
variable {P : Program} {w : World} {K : PySem.W.Frag} {mg : Str → Option Value} {base : Heap} {C : Addr}
mutual
theorem DtAt.grow {H H1 : Hp} (s : Stp [] H H1) : ∀ (d : Dt) (v : V), DtAt K H v d → DtAt K H1 v d
  | .non, _, h => by cases h; exact .non
  | .bl _, _, h => by cases h; exact .bl _
  | .num _, _, h => by cases h; exact .num _
  | .txt _, _, h => by cases h; exact .txt _
  | .tup ds, _, h => by
    cases h with
    | tup h1 h2 => exact .tup (h1.stp s) (DtsAt.grow s ds _ h2)
  | .lst ds, _, h => by
    cases h with
    | lst h1 h2 => exact .lst (s.seq h1 (by simp)) (DtsAt.grow s ds _ h2)
theorem DtsAt.grow {H H1 : Hp} (s : Stp [] H H1) : ∀ (ds : List Dt) (vs : List V), DtsAt K H vs ds → DtsAt K H1 vs ds
  | [], _, h => by cases h; exact .nil
  | d :: ds, _, h => by
    cases h with
    | cons h1 h2 => exact .cons (DtAt.grow s d _ h1) (DtsAt.grow s ds _ h2)
end
mutual
/-- no list within -/
def Dt.firm : Dt → Bool
  | .non => true
  | .bl _ => true
  | .num _ => true
  | .txt _ => true
  | .tup ks => Dt.firmAll ks
  | .lst _ => false
def Dt.firmAll : List Dt → Bool
  | [] => true
  | k :: ks => Dt.firm k && Dt.firmAll ks
end
mutual
theorem DtAt.stpF {M : List Addr} {H H1 : Hp} (s : Stp M H H1) : ∀ (d : Dt) (v : V), d.firm = true → DtAt K H v d → DtAt K H1 v d
  | .non, _, _, h => by cases h; exact .non
  | .bl _, _, _, h => by cases h; exact .bl _
  | .num _, _, _, h => by cases h; exact .num _
  | .txt _, _, _, h => by cases h; exact .txt _
  | .tup ds, _, f, h => by
    cases h with
    | tup h1 h2 => exact .tup (h1.stp s) (DtsAt.stpF s ds _ (by simpa [Dt.firm] using f) h2)
  | .lst ds, _, f, _ => by simp [Dt.firm] at f
theorem DtsAt.stpF {M : List Addr} {H H1 : Hp} (s : Stp M H H1) : ∀ (ds : List Dt) (vs : List V), Dt.firmAll ds = true → DtsAt K H vs ds → DtsAt K H1 vs ds
  | [], _, _, h => by cases h; exact .nil
  | d :: ds, _, f, h => by
    rw [Dt.firmAll, Bool.and_eq_true] at f
    cases h with
    | cons h1 h2 => exact .cons (DtAt.stpF s d _ f.1 h1) (DtsAt.stpF s ds _ f.2 h2)
end
theorem any_nm (ms : List Nm) (n : Nm) : ((ms.map nmD).any fun z => Dt.beq z (nmD n)) = decide (n ∈ ms) := by
  rw [List.any_map, Bool.eq_iff_iff, List.any_eq_true, decide_eq_true_eq]
  constructor
  · rintro ⟨m, hm, e⟩
    rw [← nmD_inj (Dt.eq_of_beq _ _ rfl rfl e)]; exact hm
  · intro hm
    exact ⟨n, hm, Dt.beq_self _⟩
theorem addN_in {ns : List Nm} {n : Nm} (h : n ∈ ns) : addN ns n = ns := by unfold addN; rw [if_pos h]
theorem addN_out {ns : List Nm} {n : Nm} (h : n ∉ ns) : addN ns n = ns ++ [n] := by unfold addN; rw [if_neg h]
theorem nm_dep (n : Nm) : (nmD n).depth ≤ 60 := by simp [nmD, Dt.depth, Dt.depthAll]
theorem nms_dep60 (ns : List Nm) : Dt.depthAll (ns.map nmD) ≤ 60 := Nat.le_trans (nms_depth ns) (by decide)
def CelAt (P : Program) (w : World) (K : PySem.W.Frag) (H : Hp) (d : Addr) (cl : List Cel) : Prop := ∃ kvs, ND P w K H d kvs ∧ DD K H kvs (toD cl)
theorem CelAt.stp {H H1 : Hp} {M : List Addr} {d : Addr} {cl : List Cel} (h : CelAt P w K H d cl) (s : Stp M H H1) (n : d ∉ M) : CelAt P w K H1 d cl := let ⟨kvs, a, b⟩ := h; ⟨kvs, a.stp s n, b.stp s⟩
theorem eq_same {H : Hp} {d e : Addr} {a b : List Cel} {Q : VK} (A : CelAt P w K H d a) (B : CelAt P w K H e b) (h : ∀ k, getC a k = getC b k) (q : Q (.bl true) H) : rEqN P w K (.ref d) (.ref e) H Q := by
  obtain ⟨ka, na, da⟩ := A
  obtain ⟨kb, nb, db⟩ := B
  refine ⟨d, e, ka, kb, _, _, rfl, rfl, na.r, nb.r, da, db, fun n1 n2 => ?_⟩
  rw [(dEq_toD n1 n2).mpr h]
  exact q
end

/-! ### targets, by the law -/
section
variable {P : Program} {w : World} {K : PySem.W.Frag} {mg : Str → Option Value} {base : Heap} {C : Addr}
theorem cal_law_target (F : Df K mg d_law_target) (B : Blt mg) : Cal P w K mg base lv_law_target "_law_target" ["value"] (spLinked K) := by
  obtain ⟨f, fd, F, g⟩ := F
  refine ⟨f, fd, F.ok sc_law_target (fun vs H Q E h => ?_) (fun cdv A outer s H vs Q E hr h => ⟨_, PSs.nox
    (pss_cons (ps_if (pt_val (pe_callB call_isi (by rfl) B.isinstance (by decide +kernel) (pa_cons (pv 0) (pa_cons (pe_bltn (v := .ty "tuple") (by rfl) B.tuple (by decide +kernel) rfl) pa_nil))))
      (pss_one (ps_ret (pe_ix (ix_tupK (K := K) rfl) (pv 0) pe_int (fun _ _ => rfl))))
      pss_nil)
    (pss_one (ps_ret pe_non))), ?_⟩), g, F.kp, F.bindsN fun _ _ _ _ _ _ us hl => match us, hl with | [_], _ => rfl⟩
  · obtain ⟨v, x, rfl, _⟩ := h
    rfl
  · obtain ⟨v, x, rfl, hx, q⟩ := h
    repeat walk_at "h"
    cases x with
    | tg s n =>
      refine i_Isi "tuple" true hx ?_
      obtain ⟨a, b, rfl, ha, hb⟩ := tgAt hx
      repeat walk_at "h"
      refine iteT ?_
      repeat walk_at "h"
      refine i_IxT ha.sqt (at_of (j := 1) rfl rfl) ?_
      exact q _ hb
    | non =>
      refine i_Isi "NoneType" false hx ?_
      repeat walk_at "h"
      refine iteF ?_
      repeat walk_at "h"
      exact q _ rfl
    | num i =>
      refine i_Isi "int" false hx ?_
      repeat walk_at "h"
      refine iteF ?_
      repeat walk_at "h"
      exact q _ rfl
    | txt z =>
      refine i_Isi "str" false hx ?_
      repeat walk_at "h"
      refine iteF ?_
      repeat walk_at "h"
      exact q _ rfl
end

/-! ### the same by repr, or not -/
section
variable {P : Program} {w : World} {K : PySem.W.Frag} {mg : Str → Option Value} {base : Heap}
def spSame2 (K : PySem.W.Frag) : Sp := fun vs H Q _ => ∃ (v y : V) (d e : Dt), vs = [v, y] ∧ DtAt K H v d ∧ DtAt K H y e ∧ d.Shows ∧ e.Shows ∧ Q (.bl (decide (V.str d.shown = V.str e.shown))) H
theorem cal_law_same2 (F : Df K mg d_law_same) (B : Blt mg) (B_repr : mg "repr" = none) : CalG P w K mg base lv_law_same "_law_same" ["one", "other"] (spSame2 K) := by
  obtain ⟨f, fd, F, g⟩ := F
  refine ⟨f, fd, GT.FunD.okG F sc_law_same (fun vs H Q E h => ?_) (fun cdv A outer s H vs Q E hr hG h => ⟨_, PSs.nox
    (pss_one (ps_ret (pe_cmpR op_eq (pe_callB (call_repr (K := K) rfl hG hr.units) (by rfl) B_repr (by decide +kernel) (pa_cons (pv 0) pa_nil)) (pe_callB (call_repr (K := K) rfl hG hr.units) (by rfl) B_repr (by decide +kernel) (pa_cons (pv 1) pa_nil)) (nomark _)))), ?_⟩), g, F.kp, F.bindsN fun _ _ _ _ _ _ us hl => match us, hl with | [_, _], _ => rfl⟩
  · obtain ⟨v, y, d, e, rfl, _⟩ := h
    rfl
  · obtain ⟨v, y, d, e, rfl, hv, hy, hs, ht, q⟩ := h
    repeat walk_at "h"
    refine ⟨v, d, rfl, hv, hs, ?_⟩
    repeat walk_at "h"
    refine ⟨y, e, rfl, hy, ht, ?_⟩
    exact i_Eq rfl q
theorem same_of {K : PySem.W.Frag} {H : Hp} {Q : VK} {E : XK} {v y : V} {d : Dt} (hv : DtAt K H v d) (hy : DtAt K H y d) (hs : d.Shows) (q : Q (.bl true) H) : spSame2 K [v, y] H Q E :=
  ⟨v, y, d, d, rfl, hv, hy, hs, hs, by rw [decide_eq_true rfl]; exact q⟩
end

/-! ### where paths lead -/
section
variable {P : Program} {w : World} {K : PySem.W.Frag} {mg : Str → Option Value} {base : Heap} {CS ro : Addr}
abbrev KV2 := Nm × Str
def rootV : Va := .tg strRef (0, 0)
def lastV (vs : List Va) : Va := (vs.getLast?).getD .non
def folS (g : KV2 → Va) (vs : List Va) (f : Str) : List Va := match tgtOf (lastV vs) with
  | none => vs
  | some n => vs ++ [g (n, f)]
def fol (g : KV2 → Va) (path : List Str) : List Va := path.foldl (folS g) [rootV]
def leadV (g : KV2 → Va) (path : List Str) : Va := if (fol g path).length ≤ path.length then .non else lastV (fol g path)
theorem lastV_snoc (vs : List Va) (x : Va) : lastV (vs ++ [x]) = x := by simp [lastV]
theorem folS_stop {g : KV2 → Va} {vs : List Va} (h : tgtOf (lastV vs) = none) (fs : List Str) : fs.foldl (folS g) vs = vs := by
  induction fs with
  | nil => rfl
  | cons f fs ih => rw [List.foldl_cons, show folS g vs f = vs by unfold folS; rw [h]]; exact ih
theorem folS_go {g : KV2 → Va} {vs : List Va} {n : Nm} (h : tgtOf (lastV vs) = some n) (f : Str) : folS g vs f = vs ++ [g (n, f)] := by unfold folS; rw [h]
theorem folS_len (g : KV2 → Va) (fs : List Str) : ∀ vs : List Va, vs.length ≤ (fs.foldl (folS g) vs).length ∧ (fs.foldl (folS g) vs).length ≤ vs.length + fs.length := by
  induction fs with
  | nil => intro vs; simp
  | cons f fs ih =>
    intro vs
    rw [List.foldl_cons]
    have h1 := ih (folS g vs f)
    have h2 : vs.length ≤ (folS g vs f).length ∧ (folS g vs f).length ≤ vs.length + 1 := by
      unfold folS
      split <;> simp
    simp only [List.length_cons]
    omega
theorem fol_len (g : KV2 → Va) (path : List Str) : 1 ≤ (fol g path).length ∧ (fol g path).length ≤ path.length + 1 := by
  have := folS_len g path [rootV]
  simp only [List.length_singleton] at this
  unfold fol
  omega
theorem foldl_take_succ {α β : Type} (f : β → α → β) (b : β) {l : List α} {i : Nat} {x : α} (h : l[i]? = some x) : (l.take (i + 1)).foldl f b = f ((l.take i).foldl f b) x := by
  rw [List.take_add_one, h, List.foldl_append]; rfl
theorem foldl_split {α β : Type} (f : β → α → β) (b : β) (l : List α) (i : Nat) : l.foldl f b = (l.drop i).foldl f ((l.take i).foldl f b) := by
  rw [← List.foldl_append, List.take_append_drop]
def gOf (cl : List Cel) : KV2 → Va := fun k => vaO (getC cl k)
theorem vas_flat : ∀ xs : List Va, Dt.flatAll (xs.map vaD) = true
  | [] => rfl
  | x :: xs => by rw [List.map_cons, Dt.flatAll, vaD_flat, vas_flat xs]; rfl
theorem lastV_get {xs : List Va} (h : xs ≠ []) : xs[xs.length - 1]? = some (lastV xs) := by
  unfold lastV
  rw [← List.getLast?_eq_getElem?]
  cases e : xs.getLast? with
  | none => exact absurd (List.getLast?_eq_none_iff.mp e) h
  | some y => rfl
theorem at_lastD {H : Hp} {ws : List V} {xs : List Va} (d : DtsAt K H ws (xs.map vaD)) (h : xs ≠ []) : ∃ v, atI ws (-1) = some v ∧ DtAt K H v (vaD (lastV xs)) := by
  have wl : ws.length = xs.length := by have := d.length; rwa [List.length_map] at this
  have l0 : 0 < xs.length := List.length_pos_iff.mpr h
  obtain ⟨v, hv⟩ : ∃ v, ws[xs.length - 1]? = some v := ⟨_, List.getElem?_eq_getElem (by omega)⟩
  obtain ⟨dd, hd, dv⟩ := d.getV hv
  rw [List.getElem?_map, lastV_get h] at hd
  cases hd
  refine ⟨v, ?_, dv⟩
  unfold atI ixN
  rw [if_neg (by omega), if_pos (by omega)]
  show ws[(-1 + (ws.length : Int)).toNat]? = some v
  rw [show (-1 + (ws.length : Int)).toNat = xs.length - 1 by omega]
  exact hv
def spFol (P : Program) (w : World) (K : PySem.W.Frag) (CS : Addr) : Sp := fun vs H Q _ => ∃ (x dx d pp : Addr) (cl : List Cel) (path : List Str), vs = [.ref x, .ref pp] ∧ StR P w K CS H x dx d cl ∧ H pp = some (.lst (path.map V.str)) ∧ path.length ≤ 100 ∧
  ∀ (p : Addr) (ws : List V) (H1 : Hp), H p = none → H1 p = some (.lst ws) → DtsAt K H1 ws ((fol (gOf cl) path).map vaD) → Stp [] H H1 → Q (.ref p) H1
theorem cal_follow (F : Df K mg d_follow) (B : Blt mg) (hROOT : mg "ROOT" = some (.ref ro)) (tro : ∀ H, TupAt K H ro [.int 0, .int 0]) (CL_State : Cls K CS) (C_reference : Cal P w K mg base lv_reference "reference" ["name"] (spReference K)) (C_linked_name : Cal P w K mg base lv_linked_name "linked_name" ["value"] (spLinked K)) (M_State_value : Mth P w K mg base lv_State_value CS "value" ["self", "name", "field"] (spValue P w K CS)) : Cal P w K mg base lv_follow "follow" ["state", "path"] (spFol P w K CS) := by
  obtain ⟨f, fd, F, g⟩ := F
  refine ⟨f, fd, F.ok sc_follow (fun vs H Q E h => ?_) (fun cdv A outer s H vs Q E hr h => ⟨_, PSs.nox
    (pss_cons (ps_set (i := 2) sc_follow.nd rfl (Or.inl rfl) (pe_lst (pa_cons (pc_call C_reference (hr.mono (by decide)) (by rfl) (pa_cons (pe_gt rfl hROOT) pa_nil)) pa_nil)))
    (pss_cons (ps_for PassesOwn.never rfl (pi_list (pv 1)) (pg_name (i := 3) sc_follow.nd rfl (Or.inl rfl))
      (pss_cons (ps_set (i := 4) sc_follow.nd rfl (Or.inl rfl) (pc_call C_linked_name (hr.mono (by decide)) (by rfl) (pa_cons (pe_ix (ix_listK (K := K) rfl) (pv 2) (pe_un un_neg pe_int) (fun _ _ => rfl)) pa_nil)))
        (pss_cons (ps_if (pt_cmpR op_isN (pv 4) pe_non (nomark _))
          (pss_one (ps_ret (pv 2)))
          pss_nil)
        (pss_one (ps_expr (pe_bm PySem.F.plainAttrs_list PySem.F.slot_list_append PySem.F.type_list_append mt_append (pv 2) (pa_cons (pc_meth (pv 0) CL_State M_State_value (hr.mono (by decide)) (pa_cons (pv 4) (pa_cons (pv 3) pa_nil))) pa_nil)))))))
    (pss_one (ps_ret (pv 2))))), ?_⟩), g, F.kp, F.bindsN fun _ _ _ _ _ _ us hl => match us, hl with | [_, _], _ => rfl⟩
  · obtain ⟨x, dx, d, pp, cl, path, rfl, _⟩ := h
    rfl
  · obtain ⟨x, dx, d, pp, cl, path, rfl, hS, hp, pl, q⟩ := h
    repeat walk_at "h"
    refine ⟨.ref ro, (0, 0), rfl, .tup (tro H) (.cons (.num _) (.cons (.num _) .nil)), fun u H1 s1 du => ?_⟩
    repeat walk_at "h"
    refine ⟨(by decide : 1 ≤ sizeLine), fun p np => ?_⟩
    have p0 : H p = none := s1.free np (by simp)
    have s2 : Stp [] H1 (upd H1 p (.lst [u])) := .new np
    have e2 : upd H1 p (.lst [u]) p = some (.lst [u]) := upd_same
    have d2 : DtsAt K (upd H1 p (.lst [u])) [u] (([rootV] : List Va).map vaD) := .cons (DtAt.stp s2 _ _ (vaD_flat _) du) .nil
    have s02 := s1.trans s2
    generalize upd H1 p (.lst [u]) = H2 at s2 e2 d2 s02 ⊢
    clear s1 s2 du np
    repeat walk_at "h"
    refine ⟨pp, rfl, ⟨_, SqL.of (s02.keep _ _ hp (by simp))⟩, ?_⟩
    have hpp : pp ≠ p := fun z => by rw [z, p0] at hp; cases hp
    refine for_list (xs := path.map V.str) (fun i σ H' => ∃ (y3 y4 : Option V) (ws : List V), σ = [some (.ref x), some (.ref pp), some (.ref p), y3, y4] ∧ Stp [] H H' ∧ H' p = some (.lst ws) ∧ DtsAt K H' ws (((path.take i).foldl (folS (gOf cl)) [rootV]).map vaD) ∧ ((path.take i).foldl (folS (gOf cl)) [rootV]).length = i + 1)
      ⟨_, _, _, rfl, s02, e2, d2, rfl⟩ (fun i σ H' _ ⟨_, _, _, _, s, _⟩ => SqL.of (s.keep _ _ hp (by simp))) ?_ ?_
    · rintro i v σ H3 hv ⟨y3, y4, ws, rfl, s3, e3, d3, l3⟩
      rw [List.getElem?_map] at hv
      obtain ⟨fl, hf, rfl⟩ := Option.map_eq_some_iff.mp hv
      have il : i < path.length := (List.getElem?_eq_some_iff.mp hf).1
      obtain ⟨vs, hvs⟩ : ∃ vs, vs = (path.take i).foldl (folS (gOf cl)) [rootV] := ⟨_, rfl⟩
      rw [← hvs] at d3 l3
      have ne : vs ≠ [] := fun z => by rw [z] at l3; simp at l3
      obtain ⟨lv, hlv, dlv⟩ := at_lastD d3 ne
      repeat walk_at "h"
      refine i_IxL (SqL.of e3) hlv ?_
      repeat walk_at "h"
      refine ⟨lv, lastV vs, rfl, dlv, fun r hr => ?_⟩
      repeat walk_at "h"
      cases ht : tgtOf (lastV vs) with
      | none =>
        rw [ht] at hr
        have hr : r = .non := hr
        subst hr
        refine ⟨rfl, _, rfl, iteT ?_⟩
        repeat walk_at "h"
        refine q p ws H3 p0 e3 ?_ s3
        have e : fol (gOf cl) path = vs := by
          unfold fol
          rw [foldl_split (folS (gOf cl)) [rootV] path i, ← hvs]
          exact folS_stop ht _
        rw [e]; exact d3
      | some n =>
        rw [ht] at hr
        have hr : DtAt K H3 r (nmD n) := hr
        obtain ⟨ra, rfl, hra⟩ := nmAt hr
        have S3 := hS.stp s3 (by simp) (by simp)
        refine ⟨rfl, _, rfl, iteF ?_⟩
        repeat walk_at "h"
        refine ⟨.inl ⟨rfl, _, SqL.of e3⟩, ?_⟩
        repeat walk_at "h"
        refine ⟨x, dx, _, rfl, S3.at_, rfl, ?_⟩
        repeat walk_at "h"
        refine ⟨x, dx, d, .ref ra, (n, fl), cl, rfl, hr, S3, fun v H4 s4 dv => ?_⟩
        have e4 := s4.keep _ _ e3 (by simp)
        have wl : ws.length = i + 1 := by have := d3.length; rw [List.length_map] at this; omega
        repeat walk_at "h"
        refine ⟨p, _, v, rfl, rfl, e4, Nat.lt_of_le_of_lt (show ws.length ≤ 101 by omega) (by decide), ?_⟩
        have s5 : Stp [p] H4 (upd H4 p (.lst (ws ++ [v]))) := .wr (by simp) e4 fun _ z => nomatch z
        repeat walk_at "h"
        refine ⟨_, _, ws ++ [v], rfl, (s3.trans s4).into p0 s5, upd_same, ?_, ?_⟩
        · rw [foldl_take_succ _ _ hf, ← hvs, folS_go ht, List.map_append]
          exact (DtsAt.stp s5 _ _ (vas_flat _) (DtsAt.stp s4 _ _ (vas_flat _) d3)).append (.cons (DtAt.stp s5 _ _ (vaD_flat _) dv) .nil)
        · rw [foldl_take_succ _ _ hf, ← hvs, folS_go ht, List.length_append, l3]; rfl
    · rintro σ H3 ⟨y3, y4, ws, rfl, s3, e3, d3, l3⟩
      rw [List.length_map, List.take_length] at d3
      repeat walk_at "h"
      exact q p ws H3 p0 e3 d3 s3
def spLead (P : Program) (w : World) (K : PySem.W.Frag) (CS : Addr) : Sp := fun vs H Q _ => ∃ (x dx d pp : Addr) (cl : List Cel) (path : List Str), vs = [.ref x, .ref pp] ∧ StR P w K CS H x dx d cl ∧ H pp = some (.lst (path.map V.str)) ∧ path.length ≤ 100 ∧
  ∀ (v : V) (H1 : Hp), DtAt K H1 v (vaD (leadV (gOf cl) path)) → Stp [] H H1 → Q v H1
theorem cal_value_at (F : Df K mg d_value_at) (B : Blt mg) (C_follow : Cal P w K mg base lv_follow "follow" ["state", "path"] (spFol P w K CS)) : Cal P w K mg base lv_value_at "value_at" ["state", "path"] (spLead P w K CS) := by
  obtain ⟨f, fd, F, g⟩ := F
  refine ⟨f, fd, F.ok sc_value_at (fun vs H Q E h => ?_) (fun cdv A outer s H vs Q E hr h => ⟨_, PSs.nox
    (pss_cons (ps_set (i := 2) sc_value_at.nd rfl (Or.inl rfl) (pc_call C_follow (hr.mono (by decide)) (by rfl) (pa_cons (pv 0) (pa_cons (pv 1) pa_nil))))
    (pss_cons (ps_if (pt_cmpR op_le (pe_callB call_len_seq (by rfl) B.len boot_len (pa_cons (pv 2) pa_nil)) (pe_callB call_len_seq (by rfl) B.len boot_len (pa_cons (pv 1) pa_nil)) (nomark _))
      (pss_one (ps_ret pe_non))
      pss_nil)
    (pss_one (ps_ret (pe_ix (ix_listK (K := K) rfl) (pv 2) (pe_un un_neg pe_int) (fun _ _ => rfl)))))), ?_⟩), g, F.kp, F.bindsN fun _ _ _ _ _ _ us hl => match us, hl with | [_, _], _ => rfl⟩
  · obtain ⟨x, dx, d, pp, cl, path, rfl, _⟩ := h
    rfl
  · obtain ⟨x, dx, d, pp, cl, path, rfl, hS, hp, pl, q⟩ := h
    repeat walk_at "h"
    refine ⟨x, dx, d, pp, cl, path, rfl, hS, hp, pl, fun p ws H1 np e1 d1 s1 => ?_⟩
    have wl : ws.length = (fol (gOf cl) path).length := by have := d1.length; rwa [List.length_map] at this
    have fl := fol_len (gOf cl) path
    repeat walk_at "h"
    refine ⟨p, _, rfl, .inl (SqL.of e1), ?_⟩
    repeat walk_at "h"
    refine ⟨pp, _, rfl, .inl (SqL.of (s1.keep _ _ hp (by simp))), ?_⟩
    rw [List.length_map, wl]
    repeat walk_at "h"
    refine i_iteD (fun c => ?_) (fun c => ?_)
    · repeat walk_at "h"
      have c : (fol (gOf cl) path).length ≤ path.length := by omega
      refine q _ H1 ?_ s1
      unfold leadV
      rw [if_pos c]
      exact .non
    · repeat walk_at "h"
      have c : ¬ (fol (gOf cl) path).length ≤ path.length := by omega
      obtain ⟨v, hv, dv⟩ := at_lastD d1 (fun z => by rw [z] at fl; simp at fl)
      refine i_IxL (SqL.of e1) hv ?_
      refine q _ H1 ?_ s1
      unfold leadV
      rw [if_neg c]
      exact dv
/-! ### the cells that are asked -/
def askS (g : KV2 → Va) (st : List Va × List KV2) (f : Str) : List Va × List KV2 := match tgtOf (lastV st.1) with
  | none => st
  | some n => (st.1 ++ [g (n, f)], st.2 ++ [(n, f)])
def askP (g : KV2 → Va) (path : List Str) : List Va × List KV2 := path.foldl (askS g) ([rootV], [])
def ask (g : KV2 → Va) (path : List Str) : List KV2 := (askP g path).2
structure AskOk (path : List Str) (i : Nat) (st : List Va × List KV2) : Prop where
  len : st.2.length + 1 = st.1.length
  at_ : ∀ (j : Nat) (k : KV2), st.2[j]? = some k → (∃ x, st.1[j]? = some x ∧ tgtOf x = some k.1) ∧ path[j]? = some k.2
  end_ : tgtOf (lastV st.1) = none ∨ st.2.length = i
  le : st.2.length ≤ i
theorem ask_fol (g : KV2 → Va) (path : List Str) : (askP g path).1 = fol g path := by
  unfold askP fol
  suffices h : ∀ (fs : List Str) (st : List Va × List KV2), (fs.foldl (askS g) st).1 = fs.foldl (folS g) st.1 from h path _
  intro fs
  induction fs with
  | nil => intro st; rfl
  | cons f fs ih =>
    intro st
    rw [List.foldl_cons, List.foldl_cons, ih]
    congr 1
    unfold askS folS
    split <;> rfl
theorem ask_ok (g : KV2 → Va) (path : List Str) : ∀ i, i ≤ path.length → AskOk path i ((path.take i).foldl (askS g) ([rootV], [])) := by
  intro i
  induction i with
  | zero => exact fun _ => ⟨rfl, fun j k h => by simp at h, .inr rfl, Nat.le_refl _⟩
  | succ i ih =>
    intro hi
    obtain ⟨f, hf⟩ : ∃ f, path[i]? = some f := ⟨_, List.getElem?_eq_getElem (by omega)⟩
    rw [foldl_take_succ _ _ hf]
    obtain ⟨h1, h2, h3, h4⟩ := ih (by omega)
    generalize (path.take i).foldl (askS g) ([rootV], []) = st at h1 h2 h3 h4
    unfold askS
    cases ht : tgtOf (lastV st.1) with
    | none => exact ⟨h1, h2, .inl ht, Nat.le_succ_of_le h4⟩
    | some n =>
      have h3 : st.2.length = i := h3.resolve_left (by rw [ht]; simp)
      have l1 : (st.1 ++ [g (n, f)]).length = st.1.length + 1 := List.length_append
      have l2 : (st.2 ++ [(n, f)]).length = st.2.length + 1 := List.length_append
      refine ⟨by show (st.2 ++ [(n, f)]).length + 1 = (st.1 ++ [g (n, f)]).length; omega, fun j k hk => ?_, .inr (by show (st.2 ++ [(n, f)]).length = i + 1; omega), by show (st.2 ++ [(n, f)]).length ≤ i + 1; omega⟩
      have hk : (st.2 ++ [(n, f)])[j]? = some k := hk
      show (∃ x, (st.1 ++ [g (n, f)])[j]? = some x ∧ tgtOf x = some k.1) ∧ path[j]? = some k.2
      rcases Nat.lt_or_ge j st.2.length with l | l
      · rw [List.getElem?_append_left l] at hk
        obtain ⟨⟨x, hx, e⟩, hp⟩ := h2 j k hk
        exact ⟨⟨x, by rw [List.getElem?_append_left (by omega)]; exact hx, e⟩, hp⟩
      · rw [List.getElem?_append_right l] at hk
        have e : j - st.2.length = 0 := by
          rcases Nat.eq_zero_or_pos (j - st.2.length) with z | z
          · exact z
          · rw [List.getElem?_eq_none (by simp; omega)] at hk; cases hk
        rw [e] at hk
        have hk : (n, f) = k := by simpa using hk
        subst hk
        have ej : j = st.1.length - 1 := by omega
        have ne : st.1 ≠ [] := fun z => by rw [z] at h1; simp at h1
        refine ⟨⟨lastV st.1, ?_, ht⟩, by rw [show j = i by omega]; exact hf⟩
        rw [List.getElem?_append_left (by omega), ej]
        exact lastV_get ne
def kvD (k : KV2) : Dt := .tup [nmD k.1, .txt k.2]
theorem kvs_flat : ∀ xs : List KV2, Dt.flatAll (xs.map kvD) = true
  | [] => rfl
  | x :: xs => by
    rw [List.map_cons, Dt.flatAll, kvs_flat xs]
    simp [kvD, Dt.flat, Dt.flatAll]
/-- the first j of the asked, by what is met -/
theorem ask_zip {g : KV2 → Va} {path : List Str} {n : Nat} (hn : n = min (fol g path).length path.length) : ((List.range n).filterMap fun j => (((fol g path)[j]?).bind tgtOf).bind fun m => (path[j]?).map fun f => (m, f)) = ask g path := by
  have ok := ask_ok g path path.length (Nat.le_refl _)
  rw [List.take_length] at ok
  have e1 := ask_fol g path
  unfold askP at e1
  obtain ⟨h1, h2, h3, h4⟩ := ok
  rw [e1] at h1 h3
  have h2 : ∀ (j : Nat) (k : KV2), (ask g path)[j]? = some k → (∃ x, (fol g path)[j]? = some x ∧ tgtOf x = some k.1) ∧ path[j]? = some k.2 := fun j k h => by
    obtain ⟨⟨x, hx, e⟩, hp⟩ := h2 j k h
    rw [e1] at hx
    exact ⟨⟨x, hx, e⟩, hp⟩
  have h1 : (ask g path).length + 1 = (fol g path).length := h1
  have h3 : tgtOf (lastV (fol g path)) = none ∨ (ask g path).length = path.length := h3
  have h4 : (ask g path).length ≤ path.length := h4
  suffices S : ∀ i, i ≤ n → ((List.range i).filterMap fun j => (((fol g path)[j]?).bind tgtOf).bind fun m => (path[j]?).map fun f => (m, f)) = (ask g path).take i by
    rw [S n (Nat.le_refl _), List.take_of_length_le (by omega)]
  intro i
  induction i with
  | zero => intro _; simp
  | succ i ih =>
    intro hi
    rw [List.range_succ, List.filterMap_append, ih (by omega), List.take_add_one]
    congr 1
    cases hk : (ask g path)[i]? with
    | some k =>
      obtain ⟨⟨x, hx, e⟩, hp⟩ := h2 i k hk
      simp [hx, e, hp]
    | none =>
      have li : (ask g path).length ≤ i := List.getElem?_eq_none_iff.mp hk
      have ei : i = (fol g path).length - 1 := by omega
      have ne : fol g path ≠ [] := fun z => by rw [z] at h1; simp at h1
      have hl := lastV_get ne
      rw [← ei] at hl
      rcases h3 with h3 | h3
      · simp [hl, h3]
      · omega
def spCellsOf (P : Program) (w : World) (K : PySem.W.Frag) (CS : Addr) : Sp := fun vs H Q _ => ∃ (x dx d pp : Addr) (cl : List Cel) (path : List Str), vs = [.ref x, .ref pp] ∧ StR P w K CS H x dx d cl ∧ H pp = some (.lst (path.map V.str)) ∧ path.length ≤ 100 ∧
  ∀ (p : Addr) (ws : List V) (H1 : Hp), H p = none → H1 p = some (.lst ws) → DtsAt K H1 ws ((ask (gOf cl) path).map kvD) → Stp [] H H1 → Q (.ref p) H1
theorem cal_cells_of (F : Df K mg d_cells_of) (B : Blt mg) (B_zip : mg "zip" = none) (C_follow : Cal P w K mg base lv_follow "follow" ["state", "path"] (spFol P w K CS)) (C_linked_name : Cal P w K mg base lv_linked_name "linked_name" ["value"] (spLinked K)) : Cal P w K mg base lv_cells_of "cells_of" ["state", "path"] (spCellsOf P w K CS) := by
  obtain ⟨f, fd, F, g⟩ := F
  refine ⟨f, fd, F.ok sc_cells_of (fun vs H Q E h => ?_) (fun cdv A outer s H vs Q E hr h => ⟨_, PSs.nox
    (pss_cons (ps_setLc (i := 2) (own := [("value", 3)]) (g := gName 3) (by rfl) sc_cells_of.nd rfl rfl (sw_true rfl rfl rfl (by decide +kernel)) (pi_list (pc_call C_follow (hr.mono (by decide)) (by rfl) (pa_cons (pv 0) (pa_cons (pv 1) pa_nil)))) (blkOk_by (N := ["state", "path", "names", "value", "name", "field"]) (own := [("value", 3)]) (sc := defScope s_cells_of) (by decide +kernel)) (fun _ _ _ _ _ => (pg_name (i := 3) sc_cells_of.nd rfl (Or.inl rfl))) (fun _ _ _ _ _ => pts_nil) (fun _ _ _ _ _ => (pc_call C_linked_name (hr.mono (by decide)) (by rfl) (pa_cons (pv 3) pa_nil))))
    (pss_one (ps_ret (pe_lc (own := [("name", 4), ("field", 5)]) (g := gTup _ 2 (gCons (gName 4) (gCons (gName 5) gNil))) (by rfl) sc_cells_of.nd (pi_zip (by rfl) B_zip (pa_cons (pv 2) (pa_cons (pv 1) pa_nil))) (blkOk_by (N := ["state", "path", "names", "value", "name", "field"]) (own := [("name", 4), ("field", 5)]) (sc := defScope s_cells_of) (by decide +kernel)) (fun _ _ _ _ _ => (pg_tup (by rfl) (pgs_cons (pg_name (i := 4) sc_cells_of.nd rfl (Or.inl rfl)) (pgs_cons (pg_name (i := 5) sc_cells_of.nd rfl (Or.inl rfl)) pgs_nil)))) (fun _ _ _ _ _ => (pts_one (pt_cmpR op_notN (pv 4) pe_non (nomark _)))) (fun _ _ _ _ _ => (pe_tup (pa_cons (pv 4) (pa_cons (pv 5) pa_nil)))))))), ?_⟩), g, F.kp, F.bindsN fun _ _ _ _ _ _ us hl => match us, hl with | [_, _], _ => rfl⟩
  · obtain ⟨x, dx, d, pp, cl, path, rfl, _⟩ := h
    rfl
  · obtain ⟨x, dx, d, pp, cl, path, rfl, hS, hp, pl, q⟩ := h
    repeat walk_at "h"
    refine i_Lc ?_
    repeat walk_at "h"
    refine ⟨x, dx, d, pp, cl, path, rfl, hS, hp, pl, fun p ws H1 np e1 d1 s1 => ?_⟩
    have wl : ws.length = (fol (gOf cl) path).length := by have := d1.length; rwa [List.length_map] at this
    have fl := fol_len (gOf cl) path
    refine ⟨p, rfl, ⟨_, SqL.of e1⟩, fun np2 nnp2 => ?_⟩
    refine lc_list (xs := ws) (fun i H' => Stp [] H1 H' ∧ ∃ rs : List V, H' np2 = some (.lst rs) ∧ rs.length = i ∧ ∀ j r x, rs[j]? = some r → (fol (gOf cl) path)[j]? = some x → stOf K H' r (tgtOf x)) ⟨.new nnp2, [], upd_same, rfl, fun j r x h => by rw [List.getElem?_nil] at h; cases h⟩ (fun i H' _ h => SqL.of (h.1.keep _ _ e1 (by simp))) ?_ ?_
    · rintro i v H2 hv ⟨s2, rs, e2, rl, rk⟩
      obtain ⟨dd, hd, dv⟩ := (DtsAt.stp s2 _ _ (vas_flat _) d1).getV hv
      rw [List.getElem?_map] at hd
      obtain ⟨va, hva, rfl⟩ := Option.map_eq_some_iff.mp hd
      have il := (List.getElem?_eq_some_iff.mp hv).1
      refine ⟨rfl, i_Yes ?_⟩
      refine i_ite (fun _ => ?_) (fun z => nomatch z)
      repeat walk_at "h"
      refine ⟨v, va, rfl, dv, fun r hr => ?_⟩
      refine ⟨rs, e2, Nat.lt_of_le_of_lt (show rs.length ≤ 101 by omega) (by decide), s2.mut nnp2, _, upd_same, by simp [rl], fun j r' x' hj hx' => ?_⟩
      have sw : Stp [np2] H2 (upd H2 np2 (.lst (rs ++ [r]))) := .wr (by simp) e2 fun _ z => nomatch z
      rcases Nat.lt_or_ge j rs.length with l | l
      · rw [List.getElem?_append_left l] at hj
        exact (rk j r' x' hj hx').stp sw
      · rw [List.getElem?_append_right l] at hj
        have e : j - rs.length = 0 := by
          rcases Nat.eq_zero_or_pos (j - rs.length) with z | z
          · exact z
          · rw [List.getElem?_eq_none (by simp; omega)] at hj; cases hj
        rw [e] at hj
        have hj : r = r' := by simpa using hj
        rw [show j = i by omega, hva] at hx'
        cases hx'
        rw [← hj]
        exact hr.stp sw
    · rintro H2 ⟨s2, rs, e2, rl, rk⟩
      have s02 := s1.trans s2
      have hp2 := s02.keep _ _ hp (by simp)
      repeat walk_at "h"
      refine i_Lc (i_Zip2 ?_)
      repeat walk_at "h"
      refine ⟨np2, pp, rs, path.map V.str, rfl, SqL.of e2, SqL.of hp2, fun rp nrp => ?_⟩
      have n2 : rs.length = (fol (gOf cl) path).length := by omega
      refine lc_zip (n := min (fol (gOf cl) path).length path.length) (fun i H' => Stp [] H2 H' ∧ ∃ acc : List V, H' rp = some (.lst acc) ∧ acc.length ≤ i ∧ DtsAt K H' acc (((List.range i).filterMap fun j => (((fol (gOf cl) path)[j]?).bind tgtOf).bind fun m => (path[j]?).map fun f => (m, f)).map kvD)) ⟨.new nrp, [], upd_same, Nat.le_refl _, .nil⟩ (by omega) (by rw [List.length_map]; omega) (by rw [List.length_map]; omega) (fun i H' _ h => ⟨SqL.of (h.1.keep _ _ e2 (by simp)), SqL.of (h.1.keep _ _ hp2 (by simp))⟩) ?_ ?_
      · rintro i r y T H3 il hr hy hT ⟨s3, acc, e3, al, d3⟩
        rw [List.getElem?_map] at hy
        obtain ⟨f, hf, rfl⟩ := Option.map_eq_some_iff.mp hy
        obtain ⟨va, hva⟩ : ∃ va, (fol (gOf cl) path)[i]? = some va := ⟨_, List.getElem?_eq_getElem (by omega)⟩
        have st := (rk i r va hr hva).stp s3
        have s4 : Stp [] H3 (upd H3 T (.tup [r, .str f])) := .new hT
        have t4 : upd H3 T (.tup [r, .str f]) T = some (.tup [r, .str f]) := upd_same
        have st4 := st.stp s4
        have e4 := s4.keep _ _ e3 (by simp)
        have d4 := DtsAt.stp s4 _ _ (kvs_flat _) d3
        have s34 := s3.trans s4
        generalize upd H3 T (.tup [r, .str f]) = H4 at s4 t4 st4 e4 d4 s34 ⊢
        refine i_gTup (TupAt.sqt (.inl t4)) rfl ?_
        repeat walk_at "h"
        refine ⟨rfl, ?_⟩
        repeat walk_at "h"
        rw [List.range_succ, List.filterMap_append]
        cases ht : tgtOf va with
        | none =>
          rw [ht] at st4
          have st4 : r = .non := st4
          subst st4
          refine ⟨rfl, _, rfl, iteF ?_⟩
          have ef : List.filterMap (fun j => (((fol (gOf cl) path)[j]?).bind tgtOf).bind fun m => (path[j]?).map fun f => (m, f)) [i] = [] := by simp [hva, ht]
          rw [ef, List.append_nil]
          exact ⟨s34, acc, e4, by omega, d4⟩
        | some n =>
          rw [ht] at st4
          have st4 : DtAt K H4 r (nmD n) := st4
          obtain ⟨ra, rfl, hra⟩ := nmAt st4
          refine ⟨rfl, _, rfl, iteT ?_⟩
          have ef : List.filterMap (fun j => (((fol (gOf cl) path)[j]?).bind tgtOf).bind fun m => (path[j]?).map fun f => (m, f)) [i] = [(n, f)] := by simp [hva, ht, hf]
          rw [ef, List.map_append]
          repeat walk_at "h"
          refine ⟨(by decide : 2 ≤ sizeLine), fun t nt => ?_⟩
          have s5 : Stp [] H4 (upd H4 t (.tup [.ref ra, .str f])) := .new nt
          have t5 : DtAt K (upd H4 t (.tup [.ref ra, .str f])) (.ref t) (kvD (n, f)) := .tup (.inl upd_same) (.cons (DtAt.stp s5 _ _ rfl st4) (.cons (.txt _) .nil))
          have e5 := s5.keep _ _ e4 (by simp)
          have d5 := DtsAt.stp s5 _ _ (kvs_flat _) d4
          have s35 := s34.trans s5
          generalize upd H4 t (.tup [.ref ra, .str f]) = H5 at s5 t5 e5 d5 s35 ⊢
          have s6 : Stp [rp] H5 (upd H5 rp (.lst (acc ++ [.ref t]))) := .wr (by simp) e5 fun _ z => nomatch z
          refine ⟨acc, e5, Nat.lt_of_le_of_lt (show acc.length ≤ 101 by omega) (by decide), s35.mut nrp, _, upd_same, by simp; omega, ?_⟩
          exact (DtsAt.stp s6 _ _ (kvs_flat _) d5).append (.cons (DtAt.stp s6 _ _ (by simp [kvD, Dt.flat, Dt.flatAll]) t5) .nil)
      · rintro H3 ⟨s3, acc, e3, al, d3⟩
        rw [ask_zip rfl] at d3
        repeat walk_at "h"
        exact q rp acc H3 ((s02).free nrp (by simp)) e3 d3 (s02.trans s3)
end

/-! ### the law's walk -/
section
variable {P : Program} {w : World} {K : PySem.W.Frag} {mg : Str → Option Value} {base : Heap}
def onceS (acc : List KV2) (k : KV2) : List KV2 := if k ∈ acc then acc else acc ++ [k]
def onceK (ks : List KV2) : List KV2 := ks.foldl onceS []
theorem onceK_snoc (ks : List KV2) (k : KV2) : onceK (ks ++ [k]) = onceS (onceK ks) k := by
  unfold onceK
  rw [List.foldl_append]; rfl
theorem onceK_len : ∀ (ks acc : List KV2), (ks.foldl onceS acc).length ≤ acc.length + ks.length
  | [], acc => Nat.le_refl _
  | k :: ks, acc => by
    have := onceK_len ks (onceS acc k)
    rw [List.foldl_cons, List.length_cons]
    have h2 : (onceS acc k).length ≤ acc.length + 1 := by
      unfold onceS
      split <;> simp
    omega
theorem onceK_mem (ks : List KV2) : ∀ acc : List KV2, ∀ k, k ∈ ks.foldl onceS acc ↔ k ∈ acc ∨ k ∈ ks := by
  induction ks with
  | nil => intro acc k; simp
  | cons x ks ih =>
    intro acc k
    rw [List.foldl_cons, ih]
    unfold onceS
    split
    · rename_i h
      constructor
      · rintro (z | z)
        · exact .inl z
        · exact .inr (List.mem_cons_of_mem _ z)
      · rintro (z | z)
        · exact .inl z
        · rcases List.mem_cons.mp z with e | e
          · rw [e]; exact .inl h
          · exact .inr e
    · simp only [List.mem_append, List.mem_cons, List.not_mem_nil, or_false, or_assoc]
theorem kvD_inj {a b : KV2} (h : kvD a = kvD b) : a = b := by
  unfold kvD at h
  injection h with h
  injection h with h1 h
  injection h with h2 _
  injection h2 with h2
  exact Prod.ext (nmD_inj h1) h2
theorem kv_beq (a b : KV2) : Dt.beq (kvD a) (kvD b) = decide (a = b) := by
  by_cases h : a = b
  · rw [h, Dt.beq_self]; simp
  · rw [decide_eq_false h]
    refine Bool.eq_false_iff.mpr fun z => h (kvD_inj ((Dt.beq_iff (by simp [kvD, Dt.pure, Dt.pureAll]) (by simp [kvD, Dt.pure, Dt.pureAll])).mp z))
theorem kv_any (ks : List KV2) (k : KV2) : ((ks.map kvD).any fun z => Dt.beq z (kvD k)) = decide (k ∈ ks) := by
  rw [Bool.eq_iff_iff, List.any_eq_true, decide_eq_true_eq]
  constructor
  · rintro ⟨x, hx, hb⟩
    obtain ⟨n, hn, rfl⟩ := List.mem_map.mp hx
    rw [kv_beq] at hb
    rw [← of_decide_eq_true hb]; exact hn
  · intro h
    exact ⟨kvD k, List.mem_map.mpr ⟨k, h, rfl⟩, Dt.beq_self _⟩
theorem kv_dep (k : KV2) : (kvD k).depth ≤ 60 := by simp [kvD, Dt.depth, Dt.depthAll]
theorem kvs_dep : ∀ ks : List KV2, Dt.depthAll (ks.map kvD) ≤ 60
  | [] => Nat.zero_le _
  | k :: ks => by
    have h1 := kvs_dep ks
    have h2 := kv_dep k
    rw [List.map_cons, Dt.depthAll]
    omega
theorem walk_stop {g : KV2 → Va} {path : List Str} {i : Nat} {st : List Va × List KV2} (e : st = (path.take i).foldl (askS g) ([rootV], [])) (h : tgtOf (lastV st.1) = none) : askP g path = st := by
  unfold askP
  rw [foldl_split (askS g) ([rootV], []) path i, ← e]
  suffices s : ∀ fs : List Str, fs.foldl (askS g) st = st from s _
  intro fs
  induction fs with
  | nil => rfl
  | cons f fs ih => rw [List.foldl_cons, show askS g st f = st by unfold askS; rw [h]]; exact ih
theorem askS_go {g : KV2 → Va} {st : List Va × List KV2} {n : Nm} (h : tgtOf (lastV st.1) = some n) (f : Str) : askS g st f = (st.1 ++ [g (n, f)], st.2 ++ [(n, f)]) := by unfold askS; rw [h]
/-- what the walk tells -/
structure WkAt (K : PySem.W.Frag) (H : Hp) (p vp ap : Addr) (r : V) (g : KV2 → Va) (path : List Str) : Prop where
  at_ : H p = some (.lst [.ref vp, .ref ap, r])
  va : ∃ ws, H vp = some (.lst ws) ∧ DtsAt K H ws ((fol g path).map vaD)
  aa : ∃ ws, H ap = some (.lst ws) ∧ DtsAt K H ws ((onceK (ask g path)).map kvD)
  lv : DtAt K H r (vaD (leadV g path))
def spWalk (P : Program) (w : World) (K : PySem.W.Frag) : Sp := fun vs H Q _ => ∃ (dc pp : Addr) (cl : List Cel) (path : List Str), vs = [.ref dc, .ref pp] ∧ CelAt P w K H dc cl ∧ H pp = some (.lst (path.map V.str)) ∧ path.length ≤ 100 ∧
  ∀ (p vp ap : Addr) (r : V) (H1 : Hp), H p = none → H vp = none → H ap = none → WkAt K H1 p vp ap r (gOf cl) path → Stp [] H H1 → Q (.ref p) H1
theorem cal_law_walk (F : Df K mg d_law_walk) (C_law_target : Cal P w K mg base lv_law_target "_law_target" ["value"] (spLinked K)) : Cal P w K mg base lv_law_walk "_law_walk" ["cells", "path"] (spWalk P w K) := by
  obtain ⟨f, fd, F, g⟩ := F
  refine ⟨f, fd, F.ok sc_law_walk (fun vs H Q E h => ?_) (fun cdv A outer s H vs Q E hr h => ⟨_, PSs.nox
    (pss_cons (ps_set (i := 2) sc_law_walk.nd rfl (Or.inl rfl) (pe_lst (pa_cons (pe_tup (pa_cons pe_str (pa_cons (pe_tup (pa_cons pe_int (pa_cons pe_int pa_nil))) pa_nil))) pa_nil)))
    (pss_cons (ps_set (i := 3) sc_law_walk.nd rfl (Or.inl rfl) (pe_lst pa_nil))
    (pss_cons (ps_for PassesOwn.never rfl (pi_list (pv 1)) (pg_name (i := 4) sc_law_walk.nd rfl (Or.inl rfl))
      (pss_cons (ps_if (pt_cmpR op_isN (pc_call C_law_target (hr.mono (by decide)) (by rfl) (pa_cons (pe_ix (ix_listK (K := K) rfl) (pv 2) (pe_un un_neg pe_int) (fun _ _ => rfl)) pa_nil)) pe_non (nomark _))
          (pss_one (ps_ret (pe_lst (pa_cons (pv 2) (pa_cons (pv 3) (pa_cons pe_non pa_nil))))))
          pss_nil)
        (pss_cons (ps_set (i := 5) sc_law_walk.nd rfl (Or.inl rfl) (pe_tup (pa_cons (pe_ix (ix_tupK (K := K) rfl) (pe_ix (ix_listK (K := K) rfl) (pv 2) (pe_un un_neg pe_int) (fun _ _ => rfl)) pe_int (fun _ _ => rfl)) (pa_cons (pv 4) pa_nil))))
        (pss_cons (ps_if (pt_cmpR (op_notInTK (K := K) rfl hr.units) (pv 5) (pv 3) (by rfl))
          (pss_one (ps_expr (pe_bm PySem.F.plainAttrs_list PySem.F.slot_list_append PySem.F.type_list_append mt_append (pv 3) (pa_cons (pv 5) pa_nil))))
          pss_nil)
        (pss_cons (ps_set (i := 6) sc_law_walk.nd rfl (Or.inl rfl) pe_non)
        (pss_cons (ps_if (pt_cmp (pc_ninK (P := P) (w := w) (K := K) rfl rfl rfl hr (pv 5) (pv 0)))
          (pss_one (ps_set (i := 6) sc_law_walk.nd rfl (Or.inl rfl) (pe_ix (ix_tupK (K := K) rfl) (pe_ngetK (P := P) (w := w) (K := K) rfl rfl rfl hr (pv 0) (pv 5) (fun _ _ => rfl)) pe_int (fun _ _ => rfl))))
          pss_nil)
        (pss_one (ps_expr (pe_bm PySem.F.plainAttrs_list PySem.F.slot_list_append PySem.F.type_list_append mt_append (pv 2) (pa_cons (pv 6) pa_nil))))))))))
    (pss_one (ps_ret (pe_lst (pa_cons (pv 2) (pa_cons (pv 3) (pa_cons (pe_ix (ix_listK (K := K) rfl) (pv 2) (pe_un un_neg pe_int) (fun _ _ => rfl)) pa_nil))))))))), ?_⟩), g, F.kp, F.bindsN fun _ _ _ _ _ _ us hl => match us, hl with | [_, _], _ => rfl⟩
  · obtain ⟨dc, pp, cl, path, rfl, _⟩ := h
    rfl
  · obtain ⟨dc, pp, cl, path, rfl, hC, hp, pl, q⟩ := h
    repeat walk_at "h"
    refine ⟨(by decide : 2 ≤ sizeLine), fun t1 n1 => ?_⟩
    have s1 : Stp [] H (upd H t1 (.tup [.int 0, .int 0])) := .new n1
    have d1 : DtAt K (upd H t1 (.tup [.int 0, .int 0])) (.ref t1) (nmD (0, 0)) := nm_mk (n := (0, 0)) upd_same
    generalize upd H t1 (.tup [.int 0, .int 0]) = H1 at s1 d1 ⊢
    repeat walk_at "h"
    refine ⟨(by decide : 2 ≤ sizeLine), fun t2 n2 => ?_⟩
    have s2 : Stp [] H1 (upd H1 t2 (.tup [.str strRef, .ref t1])) := .new n2
    have d2 : DtAt K (upd H1 t2 (.tup [.str strRef, .ref t1])) (.ref t2) (vaD rootV) := .tup (.inl upd_same) (.cons (.txt _) (.cons (DtAt.stp s2 _ _ rfl d1) .nil))
    generalize upd H1 t2 (.tup [.str strRef, .ref t1]) = H2 at s2 d2 ⊢
    repeat walk_at "h"
    refine ⟨(by decide : 1 ≤ sizeLine), fun vp nvp => ?_⟩
    have s3 : Stp [] H2 (upd H2 vp (.lst [.ref t2])) := .new nvp
    have e3 : upd H2 vp (.lst [.ref t2]) vp = some (.lst [.ref t2]) := upd_same
    have d3 : DtsAt K (upd H2 vp (.lst [.ref t2])) [.ref t2] (([rootV] : List Va).map vaD) := .cons (DtAt.stp s3 _ _ (vaD_flat _) d2) .nil
    have s02 := s1.trans s2
    have v0 : H vp = none := s02.free nvp (by simp)
    generalize upd H2 vp (.lst [.ref t2]) = H3 at s3 e3 d3 ⊢
    repeat walk_at "h"
    refine ⟨Nat.zero_le _, fun ap nap => ?_⟩
    have s4 : Stp [] H3 (upd H3 ap (.lst [])) := .new nap
    have e4 := s4.keep _ _ e3 (by simp)
    have a4 : upd H3 ap (.lst []) ap = some (.lst []) := upd_same
    have d4 := DtsAt.stp s4 _ _ (vas_flat _) d3
    have s04 := (s02.trans s3).trans s4
    have a0 : H ap = none := (s02.trans s3).free nap (by simp)
    have va : vp ≠ ap := fun z => by rw [z, nap] at e3; cases e3
    generalize upd H3 ap (.lst []) = H4 at s4 e4 a4 d4 s04 ⊢
    clear s1 d1 s2 d2 s3 e3 d3 s02 s4 nvp nap
    repeat walk_at "h"
    refine ⟨pp, rfl, ⟨_, SqL.of (s04.keep _ _ hp (by simp))⟩, ?_⟩
    refine for_list (xs := path.map V.str) (fun i σ H' => ∃ (y4 y5 y6 : Option V) (wv wa : List V) (st : List Va × List KV2), σ = [some (.ref dc), some (.ref pp), some (.ref vp), some (.ref ap), y4, y5, y6] ∧ Stp [] H H' ∧ H' vp = some (.lst wv) ∧ DtsAt K H' wv (st.1.map vaD) ∧ H' ap = some (.lst wa) ∧ DtsAt K H' wa ((onceK st.2).map kvD) ∧ st = (path.take i).foldl (askS (gOf cl)) ([rootV], []) ∧ st.1.length = i + 1 ∧ st.2.length = i)
      ⟨_, _, _, _, [], ([rootV], []), rfl, s04, e4, d4, a4, .nil, rfl, rfl, rfl⟩ (fun i σ H' _ ⟨_, _, _, _, _, _, _, s, _⟩ => SqL.of (s.keep _ _ hp (by simp))) ?_ ?_
    · rintro i v σ H5 hv ⟨y4, y5, y6, wv, wa, st, rfl, s5, e5, d5, a5, k5, est, l1, l2⟩
      rw [List.getElem?_map] at hv
      obtain ⟨fl, hf, rfl⟩ := Option.map_eq_some_iff.mp hv
      have il : i < path.length := (List.getElem?_eq_some_iff.mp hf).1
      have ne : st.1 ≠ [] := fun z => by rw [z] at l1; simp at l1
      obtain ⟨lv, hlv, dlv⟩ := at_lastD d5 ne
      have wvl : wv.length = i + 1 := by have := d5.length; rw [List.length_map] at this; omega
      have wal : wa.length ≤ i := by
        have h1 := k5.length
        rw [List.length_map] at h1
        have h2 := onceK_len st.2 []
        have h2 : (onceK st.2).length ≤ 0 + st.2.length := h2
        omega
      repeat walk_at "h"
      refine i_IxL (SqL.of e5) hlv ?_
      repeat walk_at "h"
      refine ⟨lv, lastV st.1, rfl, dlv, fun r hr => ?_⟩
      cases ht : tgtOf (lastV st.1) with
      | none =>
        rw [ht] at hr
        have hr : r = .non := hr
        subst hr
        have wk := walk_stop est ht
        have ef : fol (gOf cl) path = st.1 := by rw [← ask_fol, wk]
        have ea : ask (gOf cl) path = st.2 := by unfold ask; rw [wk]
        repeat walk_at "h"
        refine ⟨rfl, _, rfl, iteT ?_⟩
        repeat walk_at "h"
        refine ⟨(by decide : 3 ≤ sizeLine), fun p np => ?_⟩
        have s6 : Stp [] H5 (upd H5 p (.lst [.ref vp, .ref ap, .non])) := .new np
        refine q p vp ap .non _ (s5.free np (by simp)) v0 a0 ⟨upd_same, ⟨wv, s6.keep _ _ e5 (by simp), ?_⟩, ⟨wa, s6.keep _ _ a5 (by simp), ?_⟩, ?_⟩ (s5.trans s6)
        · rw [ef]; exact DtsAt.stp s6 _ _ (vas_flat _) d5
        · rw [ea]; exact DtsAt.stp s6 _ _ (kvs_flat _) k5
        · unfold leadV
          rw [ef, if_pos (by omega)]
          exact .non
      | some n =>
        rw [ht] at hr
        have hr : DtAt K H5 r (nmD n) := hr
        obtain ⟨ra, rfl, hra⟩ := nmAt hr
        repeat walk_at "h"
        refine ⟨rfl, _, rfl, iteF ?_⟩
        obtain ⟨z, hz⟩ : ∃ z, lastV st.1 = .tg z n := by
          cases hl : lastV st.1 with
          | tg z m =>
            rw [hl] at ht
            have ht : some m = some n := ht
            cases ht
            exact ⟨z, rfl⟩
          | non => rw [hl] at ht; cases ht
          | num i => rw [hl] at ht; cases ht
          | txt x => rw [hl] at ht; cases ht
        rw [hz] at dlv
        obtain ⟨la, lb, rfl, hla, dlb⟩ := tgAt dlv
        repeat walk_at "h"
        refine i_IxL (SqL.of e5) hlv ?_
        repeat walk_at "h"
        refine i_IxT (K := K) hla.sqt (at_of (j := 1) rfl rfl) ?_
        repeat walk_at "h"
        refine ⟨(by decide : 2 ≤ sizeLine), fun t nt => ?_⟩
        have s6 : Stp [] H5 (upd H5 t (.tup [.ref lb, .str fl])) := .new nt
        have t6 : TupAt K (upd H5 t (.tup [.ref lb, .str fl])) t [.ref lb, .str fl] := .inl upd_same
        have lb6 := DtAt.stp s6 _ _ rfl dlb
        have e6 := s6.keep _ _ e5 (by simp)
        have a6 := s6.keep _ _ a5 (by simp)
        have d6 := DtsAt.stp s6 _ _ (vas_flat _) d5
        have k6 := DtsAt.stp s6 _ _ (kvs_flat _) k5
        have s56 := s5.trans s6
        generalize upd H5 t (.tup [.ref lb, .str fl]) = H6 at s6 t6 lb6 e6 a6 d6 k6 s56 ⊢
        clear s6 s5 e5 a5 d5 k5 nt hlv dlv hla dlb hr hra
        have dk : DtAt K H6 (.ref t) (kvD (n, fl)) := .tup t6 (.cons lb6 (.cons (.txt _) .nil))
        repeat walk_at "h"
        refine ⟨kvD (n, fl), (onceK st.2).map kvD, dk, .lst (SqL.of a6) k6, kv_dep _, kvs_dep _, ?_⟩
        rw [kv_any]
        by_cases hin : (n, fl) ∈ onceK st.2
        case' pos =>
          rw [decide_eq_true hin]
          refine ⟨_, rfl, iteF ?_⟩
          have es : onceS (onceK st.2) (n, fl) = onceK st.2 := by unfold onceS; rw [if_pos hin]
          rw [← es] at k6
          generalize H6 = H7 at t6 lb6 e6 a6 d6 k6 s56 ⊢
          generalize wa = wa7 at a6 k6 ⊢
        case' neg =>
          rw [decide_eq_false hin]
          refine ⟨_, rfl, iteT ?_⟩
          repeat walk_at "h"
          refine ⟨.inl ⟨rfl, _, SqL.of a6⟩, ?_⟩
          repeat walk_at "h"
          refine ⟨ap, _, .ref t, rfl, rfl, a6, Nat.lt_of_le_of_lt (show wa.length ≤ 101 by omega) (by decide), ?_⟩
          have s7 : Stp [ap] H6 (upd H6 ap (.lst (wa ++ [.ref t]))) := .wr (by simp) a6 fun _ z => nomatch z
          have es : onceS (onceK st.2) (n, fl) = onceK st.2 ++ [(n, fl)] := by unfold onceS; rw [if_neg hin]
          have k7 : DtsAt K (upd H6 ap (.lst (wa ++ [.ref t]))) (wa ++ [.ref t]) ((onceS (onceK st.2) (n, fl)).map kvD) := by
            rw [es, List.map_append]
            exact (DtsAt.stp s7 _ _ (kvs_flat _) k6).append (.cons (DtAt.stp s7 _ _ (by simp [kvD, Dt.flat, Dt.flatAll]) dk) .nil)
          have a7 : upd H6 ap (.lst (wa ++ [.ref t])) ap = some (.lst (wa ++ [.ref t])) := upd_same
          have e7 := s7.keep _ _ e6 (by simpa using va)
          have d7 := DtsAt.stp s7 _ _ (vas_flat _) d6
          have t7 := t6.stp s7
          have lb7 := DtAt.stp s7 _ _ rfl lb6
          have s57 := s56.into a0 s7
          clear s56 a6 k6 e6 d6 t6 lb6 dk
          generalize upd H6 ap (.lst (wa ++ [.ref t])) = H7 at s7 k7 a7 e7 d7 t7 lb7 s57 ⊢
          generalize wa ++ [.ref t] = wa7 at a7 k7 ⊢
          have k6 := k7
          have a6 := a7
          have e6 := e7
          have d6 := d7
          have t6 := t7
          have lb6 := lb7
          have s56 := s57
        all_goals
          repeat walk_at "h"
          obtain ⟨kvs, hnd, hdd⟩ := hC.stp s56 (by simp)
          have ky : KyAt K H7 (.ref t) (keyC (n, fl)) := key_mk2 (k := (n, fl)) t6 lb6
          refine ⟨dc, t, kvs, keyC (n, fl), rfl, rfl, hnd.r, ky, ?_⟩
          have dv := hdd.val (keyC (n, fl))
          rw [valD_toD] at dv
          -- the value goes behind the others
          have fin : ∀ (v : V), DtAt K H7 v (vaD (gOf cl (n, fl))) → Stp [] H (upd H7 vp (.lst (wv ++ [v]))) ∧ DtsAt K (upd H7 vp (.lst (wv ++ [v]))) (wv ++ [v]) ((askS (gOf cl) st fl).1.map vaD) ∧ upd H7 vp (.lst (wv ++ [v])) ap = some (.lst wa7) ∧ DtsAt K (upd H7 vp (.lst (wv ++ [v]))) wa7 ((onceK (askS (gOf cl) st fl).2).map kvD) := fun v dv => by
            have s8 : Stp [vp] H7 (upd H7 vp (.lst (wv ++ [v]))) := .wr (by simp) e6 fun _ z => nomatch z
            rw [askS_go ht]
            refine ⟨s56.into v0 s8, ?_, s8.keep _ _ a6 (by simpa using va.symm), ?_⟩
            · show DtsAt K _ _ ((st.1 ++ [gOf cl (n, fl)]).map vaD)
              rw [List.map_append]
              exact (DtsAt.stp s8 _ _ (vas_flat _) d6).append (.cons (DtAt.stp s8 _ _ (vaD_flat _) dv) .nil)
            · show DtsAt K _ _ ((onceK (st.2 ++ [(n, fl)])).map kvD)
              rw [onceK_snoc]
              exact DtsAt.stp s8 _ _ (kvs_flat _) k6
          have nx : askS (gOf cl) st fl = (path.take (i + 1)).foldl (askS (gOf cl)) ([rootV], []) := by rw [foldl_take_succ _ _ hf, ← est]
          have n1 : (askS (gOf cl) st fl).1.length = i + 1 + 1 := by rw [askS_go ht]; show (st.1 ++ [_]).length = _; rw [List.length_append, l1]; rfl
          have n2 : (askS (gOf cl) st fl).2.length = i + 1 := by rw [askS_go ht]; show (st.2 ++ [_]).length = _; rw [List.length_append, l2]; rfl
          have wl : wv.length < sizeLine := Nat.lt_of_le_of_lt (show wv.length ≤ 101 by omega) (by decide)
          cases hq : getC cl (n, fl) with
          | none =>
            have gv : gOf cl (n, fl) = .non := by unfold gOf; rw [hq]; rfl
            rw [hq] at dv
            rcases dv with ⟨e1, _⟩ | ⟨_, _, _, e2, _⟩
            · rw [e1]
              refine ⟨false, rfl, iteF ?_⟩
              repeat walk_at "h"
              refine ⟨.inl ⟨rfl, _, SqL.of e6⟩, ?_⟩
              repeat walk_at "h"
              obtain ⟨f1, f2, f3, f4⟩ := fin .non (by rw [gv]; exact .non)
              refine ⟨vp, _, .non, rfl, rfl, e6, wl, ?_⟩
              repeat walk_at "h"
              exact ⟨_, _, _, _, wa7, _, rfl, f1, upd_same, f2, f3, f4, nx, n1, n2⟩
            · cases e2
          | some pr =>
            have gv : gOf cl (n, fl) = pr.2 := by unfold gOf; rw [hq]; rfl
            rw [hq] at dv
            rcases dv with ⟨_, e2⟩ | ⟨y, dd, e1, e2, hy, _⟩
            · cases e2
            · obtain rfl := Option.some.inj e2
              rw [e1]
              refine ⟨true, rfl, iteT ?_⟩
              obtain ⟨ya, ys, yv, rfl, hya, hys, hyv⟩ := cel_at hy
              repeat walk_at "h"
              refine ⟨dc, t, kvs, keyC (n, fl), _, rfl, rfl, hnd.r, ky, e1, ?_⟩
              repeat walk_at "h"
              refine i_IxT (K := K) hya.sqt (at_of (j := 1) rfl rfl) ?_
              repeat walk_at "h"
              refine ⟨.inl ⟨rfl, _, SqL.of e6⟩, ?_⟩
              repeat walk_at "h"
              obtain ⟨f1, f2, f3, f4⟩ := fin yv (by rw [gv]; exact hyv)
              refine ⟨vp, _, yv, rfl, rfl, e6, wl, ?_⟩
              repeat walk_at "h"
              exact ⟨_, _, _, _, wa7, _, rfl, f1, upd_same, f2, f3, f4, nx, n1, n2⟩
    · rintro σ H5 ⟨y4, y5, y6, wv, wa, st, rfl, s5, e5, d5, a5, k5, est, l1, l2⟩
      rw [List.length_map, List.take_length] at est
      rw [List.length_map] at l1 l2
      have wk : askP (gOf cl) path = st := est.symm
      have ef : fol (gOf cl) path = st.1 := by rw [← ask_fol, wk]
      have ea : ask (gOf cl) path = st.2 := by unfold ask; rw [wk]
      have ne : st.1 ≠ [] := fun z => by rw [z] at l1; simp at l1
      obtain ⟨lv, hlv, dlv⟩ := at_lastD d5 ne
      repeat walk_at "h"
      refine i_IxL (SqL.of e5) hlv ?_
      repeat walk_at "h"
      refine ⟨(by decide : 3 ≤ sizeLine), fun p np => ?_⟩
      have s6 : Stp [] H5 (upd H5 p (.lst [.ref vp, .ref ap, lv])) := .new np
      refine q p vp ap lv _ (s5.free np (by simp)) v0 a0 ⟨upd_same, ⟨wv, s6.keep _ _ e5 (by simp), ?_⟩, ⟨wa, s6.keep _ _ a5 (by simp), ?_⟩, ?_⟩ (s5.trans s6)
      · rw [ef]; exact DtsAt.stp s6 _ _ (vas_flat _) d5
      · rw [ea]; exact DtsAt.stp s6 _ _ (kvs_flat _) k5
      · unfold leadV
        rw [ef, if_neg (by omega)]
        exact DtAt.stp s6 _ _ (vaD_flat _) dlv
end

/-! ### each once; the paths; more changes -/
section
variable {P : Program} {w : World} {K : PySem.W.Frag} {mg : Str → Option Value} {base : Heap}
def spOnce (K : PySem.W.Frag) : Sp := fun vs H Q _ => ∃ (r : Addr) (ws : List V) (ks : List KV2), vs = [.ref r] ∧ H r = some (.lst ws) ∧ DtsAt K H ws (ks.map kvD) ∧ ks.length ≤ 100 ∧
  ∀ (p : Addr) (us : List V) (H1 : Hp), H p = none → H1 p = some (.lst us) → DtsAt K H1 us ((onceK ks).map kvD) → Stp [] H H1 → Q (.ref p) H1
theorem cal_law_once (F : Df K mg d_law_once) : Cal P w K mg base lv_law_once "_law_once" ["rows"] (spOnce K) := by
  obtain ⟨f, fd, F, g⟩ := F
  refine ⟨f, fd, F.ok sc_law_once (fun vs H Q E h => ?_) (fun cdv A outer s H vs Q E hr h => ⟨_, PSs.nox
    (pss_cons (ps_set (i := 1) sc_law_once.nd rfl (Or.inl rfl) (pe_lst pa_nil))
    (pss_cons (ps_for PassesOwn.never rfl (pi_list (pv 0)) (pg_name (i := 2) sc_law_once.nd rfl (Or.inl rfl))
      (pss_one (ps_if (pt_cmpR (op_notInTK (K := K) rfl hr.units) (pv 2) (pv 1) (by rfl))
          (pss_one (ps_expr (pe_bm PySem.F.plainAttrs_list PySem.F.slot_list_append PySem.F.type_list_append mt_append (pv 1) (pa_cons (pv 2) pa_nil))))
          pss_nil)))
    (pss_one (ps_ret (pv 1))))), ?_⟩), g, F.kp, F.bindsN fun _ _ _ _ _ _ us hl => match us, hl with | [_], _ => rfl⟩
  · obtain ⟨r, ws, ks, rfl, _⟩ := h
    rfl
  · obtain ⟨r, ws, ks, rfl, hr1, hd, kl, q⟩ := h
    have wl : ws.length = ks.length := by have := hd.length; rwa [List.length_map] at this
    repeat walk_at "h"
    refine ⟨Nat.zero_le _, fun p np => ?_⟩
    have s1 : Stp [] H (upd H p (.lst [])) := .new np
    have e1 : upd H p (.lst []) p = some (.lst []) := upd_same
    generalize upd H p (.lst []) = H1 at s1 e1 ⊢
    repeat walk_at "h"
    refine ⟨r, rfl, ⟨_, SqL.of (s1.keep _ _ hr1 (by simp))⟩, ?_⟩
    refine for_list (xs := ws) (fun i σ H' => ∃ (y2 : Option V) (us : List V), σ = [some (.ref r), some (.ref p), y2] ∧ Stp [] H H' ∧ H' p = some (.lst us) ∧ DtsAt K H' us ((onceK (ks.take i)).map kvD))
      ⟨_, [], rfl, s1, e1, .nil⟩ (fun i σ H' _ ⟨_, _, _, s, _⟩ => SqL.of (s.keep _ _ hr1 (by simp))) ?_ ?_
    · rintro i v σ H2 hv ⟨y2, us, rfl, s2, e2, d2⟩
      obtain ⟨dd, hdd, dv⟩ := (DtsAt.stp s2 _ _ (kvs_flat _) hd).getV hv
      rw [List.getElem?_map] at hdd
      obtain ⟨k, hk, rfl⟩ := Option.map_eq_some_iff.mp hdd
      have tk : ks.take (i + 1) = ks.take i ++ [k] := by rw [List.take_add_one, hk]; rfl
      have ul : us.length ≤ 100 := by
        have h1 := d2.length
        rw [List.length_map] at h1
        have h2 : (onceK (ks.take i)).length ≤ 0 + (ks.take i).length := onceK_len _ []
        rw [List.length_take] at h2
        omega
      rw [tk, onceK_snoc]
      repeat walk_at "h"
      refine ⟨kvD k, (onceK (ks.take i)).map kvD, dv, .lst (SqL.of e2) d2, kv_dep _, kvs_dep _, ?_⟩
      rw [kv_any]
      by_cases hin : k ∈ onceK (ks.take i)
      · rw [decide_eq_true hin]
        refine ⟨_, rfl, iteF ?_⟩
        repeat walk_at "h"
        refine ⟨_, us, rfl, s2, e2, ?_⟩
        unfold onceS
        rw [if_pos hin]; exact d2
      · rw [decide_eq_false hin]
        refine ⟨_, rfl, iteT ?_⟩
        repeat walk_at "h"
        refine ⟨.inl ⟨rfl, _, SqL.of e2⟩, ?_⟩
        repeat walk_at "h"
        refine ⟨p, _, v, rfl, rfl, e2, Nat.lt_of_le_of_lt ul (by decide), ?_⟩
        have s3 : Stp [p] H2 (upd H2 p (.lst (us ++ [v]))) := .wr (by simp) e2 fun _ z => nomatch z
        repeat walk_at "h"
        refine ⟨_, us ++ [v], rfl, s2.into np s3, upd_same, ?_⟩
        unfold onceS
        rw [if_neg hin, List.map_append]
        exact (DtsAt.stp s3 _ _ (kvs_flat _) d2).append (.cons (DtAt.stp s3 _ _ (by simp [kvD, Dt.flat, Dt.flatAll]) dv) .nil)
    · rintro σ H2 ⟨y2, us, rfl, s2, e2, d2⟩
      rw [wl, List.take_length] at d2
      repeat walk_at "h"
      exact q p us H2 np e2 d2 s2
/-! lists of paths -/
structure PsAt (H : Hp) (fp : Addr) (as : List Addr) (paths : List (List Str)) : Prop where
  at_ : H fp = some (.lst (as.map V.ref))
  len : as.length = paths.length
  ps : ∀ (i : Nat) (a : Addr) (p : List Str), as[i]? = some a → paths[i]? = some p → H a = some (.lst (p.map V.str))
theorem PsAt.stp {H H1 : Hp} {M : List Addr} {fp : Addr} {as : List Addr} {paths : List (List Str)} (h : PsAt H fp as paths) (s : Stp M H H1) (n : fp ∉ M) (m : ∀ a ∈ as, a ∉ M) : PsAt H1 fp as paths :=
  ⟨s.keep _ _ h.at_ n, h.len, fun i a p ha hp => s.keep _ _ (h.ps i a p ha hp) (m a (List.mem_of_getElem? ha))⟩
theorem PsAt.get {H : Hp} {fp : Addr} {as : List Addr} {paths : List (List Str)} (h : PsAt H fp as paths) {i : Nat} {v : V} (hv : (as.map V.ref)[i]? = some v) : ∃ a p, as[i]? = some a ∧ paths[i]? = some p ∧ v = .ref a ∧ H a = some (.lst (p.map V.str)) := by
  rw [List.getElem?_map] at hv
  obtain ⟨a, ha, rfl⟩ := Option.map_eq_some_iff.mp hv
  have l := (List.getElem?_eq_some_iff.mp ha).1
  have e := h.len
  obtain ⟨p, hp⟩ : ∃ p, paths[i]? = some p := ⟨_, List.getElem?_eq_getElem (by omega)⟩
  exact ⟨a, p, ha, hp, rfl, h.ps i a p ha hp⟩
def pathD (p : List Str) : Dt := .lst (p.map Dt.txt)
theorem strs_dts (H : Hp) : ∀ p : List Str, DtsAt K H (p.map V.str) (p.map Dt.txt)
  | [] => .nil
  | x :: p => .cons (.txt x) (strs_dts H p)
theorem path_dt {H : Hp} {a : Addr} {p : List Str} (h : H a = some (.lst (p.map V.str))) : DtAt K H (.ref a) (pathD p) := .lst (SqL.of h) (strs_dts H p)
theorem PsAt.dts {H : Hp} {fp : Addr} : ∀ {as : List Addr} {paths : List (List Str)}, as.length = paths.length → (∀ (i : Nat) (a : Addr) (p : List Str), as[i]? = some a → paths[i]? = some p → H a = some (.lst (p.map V.str))) → DtsAt K H (as.map V.ref) (paths.map pathD)
  | [], [], _, _ => .nil
  | a :: as, p :: ps, l, h => .cons (path_dt (h 0 a p rfl rfl)) (PsAt.dts (fp := fp) (by simpa using l) fun i b q hb hq => h (i + 1) b q hb hq)
theorem path_dep (p : List Str) : (pathD p).depth ≤ 1 := by
  unfold pathD
  rw [Dt.depth]
  have := depthAll_map Dt.txt 0 p fun r _ => by simp [Dt.depth]
  omega
def okPath (p : List Str) : Prop := p.length ≤ 4 ∧ ∀ f ∈ p, f ∈ fieldsD
def okPaths (ps : List (List Str)) : Prop := (3 ≤ 3 ∧ ps.length ≤ 9) ∧ ∀ p ∈ ps, okPath p
def spPaths (K : PySem.W.Frag) : Sp := fun vs H Q _ => ∃ (b dg : Addr), vs = [.ref b] ∧ Box K b dg H ∧
  ∀ (fp : Addr) (as : List Addr) (paths : List (List Str)) (H1 : Hp), H fp = none → (∀ a ∈ as, H a = none ∧ a ≠ fp) → PsAt H1 fp as paths → okPaths paths → Stp [b] H H1 → Box K b dg H1 → Q (.ref fp) H1
theorem paths_dep (ps : List (List Str)) : Dt.depthAll (ps.map pathD) ≤ 60 := Nat.le_trans (depthAll_map pathD 1 ps fun p _ => path_dep p) (by decide)
def pathW : List Str := [Str.ofString "next", Str.ofString "a", Str.ofString "b", Str.ofString "next", Str.ofString "z"]
theorem pathW_in : ∀ f ∈ pathW, f ∈ fieldsD := by decide
theorem cal_law_paths (F : Df K mg d_law_paths) (B : Blt mg) (C_law_draw : Cal P w K mg base lv_law_draw "_law_draw" ["box", "many"] (spDraw K)) : Cal P w K mg base lv_law_paths "_law_paths" ["box"] (spPaths K) := by
  obtain ⟨f, fd, F, g⟩ := F
  refine ⟨f, fd, F.ok sc_law_paths (fun vs H Q E h => ?_) (fun cdv A outer s H vs Q E hr h => ⟨_, PSs.nox
    (pss_cons (ps_set (i := 1) sc_law_paths.nd rfl (Or.inl rfl) (pe_lst pa_nil))
    (pss_cons (ps_for PassesOwn.never rfl (pi_range1 rfl B.range (pa_cons (pe_op op_add pe_int (pc_call C_law_draw (hr.mono (by decide)) (by rfl) (pa_cons (pv 0) (pa_cons pe_int pa_nil)))) pa_nil)) (pg_name (i := 2) sc_law_paths.nd rfl (Or.inl rfl))
      (pss_cons (ps_setLc (i := 3) (own := [("k", 4)]) (g := gName 4) (by rfl) sc_law_paths.nd rfl rfl (sw_true rfl rfl rfl (by decide +kernel)) (pi_range1 rfl B.range (pa_cons (pc_call C_law_draw (hr.mono (by decide)) (by rfl) (pa_cons (pv 0) (pa_cons pe_int pa_nil))) pa_nil)) (blkOk_by (N := ["box", "found", "turn", "path", "k"]) (own := [("k", 4)]) (sc := defScope s_law_paths) (by decide +kernel)) (fun _ _ _ _ _ => (pg_name (i := 4) sc_law_paths.nd rfl (Or.inl rfl))) (fun _ _ _ _ _ => pts_nil) (fun _ _ _ _ _ => (pe_ix (ix_listK (K := K) rfl) (pe_lst (pa_cons pe_str (pa_cons pe_str (pa_cons pe_str (pa_cons pe_str (pa_cons pe_str pa_nil)))))) (pc_call C_law_draw (hr.mono (by decide)) (by rfl) (pa_cons (pv 0) (pa_cons pe_int pa_nil))) (fun _ _ => rfl))))
        (pss_one (ps_if (pt_cmpR (op_notInTK (K := K) rfl hr.units) (pv 3) (pv 1) (by rfl))
          (pss_one (ps_expr (pe_bm PySem.F.plainAttrs_list PySem.F.slot_list_append PySem.F.type_list_append mt_append (pv 1) (pa_cons (pv 3) pa_nil))))
          pss_nil))))
    (pss_one (ps_ret (pv 1))))), ?_⟩), g, F.kp, F.bindsN fun _ _ _ _ _ _ us hl => match us, hl with | [_], _ => rfl⟩
  · obtain ⟨b, dg, rfl, _⟩ := h
    rfl
  · obtain ⟨b, dg, rfl, hb, q⟩ := h
    repeat walk_at "h"
    refine ⟨Nat.zero_le _, fun fp nfp => ?_⟩
    have s1 : Stp [] H (upd H fp (.lst [])) := .new nfp
    have e1 : upd H fp (.lst []) fp = some (.lst []) := upd_same
    have b1 := hb.grow s1
    have fb : fp ≠ b := fun z => hb.nin nfp (by simp [z])
    have fdg := hb.dgn nfp
    generalize upd H fp (.lst []) = H1 at s1 e1 b1 ⊢
    repeat walk_at "h"
    refine ⟨b, dg, 7, rfl, by decide, b1, fun n H2 n0 n1 s2 b2 => ?_⟩
    have e2 := s2.keep _ _ e1 (by simpa using fb)
    have s02 : Stp [b] H H2 := (s1.mono (by simp)).trans s2
    clear s1 s2 e1 b1
    repeat walk_at "h"
    refine ⟨3 + n, rfl, by omega, by omega, ?_⟩
    refine for_range (lo := 0) (n := (3 + n).toNat) (fun i σ H' => ∃ (y2 y3 : Option V) (as : List Addr) (paths : List (List Str)), σ = [some (.ref b), some (.ref fp), y2, y3, none] ∧ Stp [b] H H' ∧ Box K b dg H' ∧ PsAt H' fp as paths ∧ (∀ a ∈ as, H a = none ∧ a ≠ fp ∧ a ≠ b ∧ a ≠ dg) ∧ paths.length ≤ i ∧ ∀ p ∈ paths, okPath p)
      ⟨_, _, [], [], rfl, s02, b2, ⟨e2, rfl, fun i a p h => by rw [List.getElem?_nil] at h; cases h⟩, by simp, Nat.le_refl _, by simp⟩ ?_ ?_
    · clear e2 b2 s02
      rintro i σ H3 hi ⟨y2, y3, as, paths, rfl, s3, b3, ps, an, pl, ok⟩
      repeat walk_at "h"
      refine i_Lc ?_
      repeat walk_at "h"
      refine ⟨b, dg, 5, rfl, by decide, b3, fun m H4 m0 m1 s4 b4 => ?_⟩
      repeat walk_at "h"
      refine ⟨m, rfl, by omega, by omega, fun lp nlp => ?_⟩
      have s34 := s3.trans s4
      have lp0 : H lp = none := s34.free nlp (fun z => b4.nin nlp z)
      have lpb : lp ≠ b := fun z => b4.nin nlp (by simp [z])
      have lpd := b4.dgn nlp
      have lpf : lp ≠ fp := fun z => by
        have := (ps.stp s4 (by simpa using fb) (fun a ha => by simpa using (an a ha).2.2.1)).at_
        rw [← z, nlp] at this; cases this
      have s5' : Stp [b] H4 (upd H4 lp (.lst [])) := by
        have z : Stp [] H4 (upd H4 lp (.lst [])) := .new nlp
        exact z.mono (by simp)
      refine lc_range (lo := 0) (n := m.toNat) (fun j H' => Stp [b] H4 H' ∧ Box K b dg H' ∧ ∃ p : List Str, H' lp = some (.lst (p.map V.str)) ∧ p.length = j ∧ ∀ f ∈ p, f ∈ fieldsD) ⟨s5', b4.grow (.new nlp), [], upd_same, rfl, by simp⟩ ?_ ?_
      · rintro j H5 hj ⟨s5, b5, p, hp, pj, pf⟩
        refine ⟨rfl, i_Yes ?_⟩
        refine i_ite (fun _ => ?_) (fun z => nomatch z)
        repeat walk_at "h"
        refine ⟨(by decide : 5 ≤ sizeLine), fun tl ntl => ?_⟩
        have s6 : Stp [] H5 (upd H5 tl (.lst (pathW.map V.str))) := .new ntl
        have hp6 := s6.keep _ _ hp (by simp)
        have tb : tl ∉ [b] := b5.nin ntl
        repeat walk_at "h"
        refine ⟨b, dg, 5, rfl, by decide, b5.grow s6, fun x H6 x0 x1 s7 b7 => ?_⟩
        have hl : H6 tl = some (.lst (pathW.map V.str)) := s7.keep _ _ upd_same tb
        obtain ⟨v, hv, hm⟩ := pick (xs := pathW.map V.str) x0 (by simpa [pathW] using x1)
        obtain ⟨z, hz, rfl⟩ := List.mem_map.mp hm
        refine i_IxL (SqL.of hl) hv ?_
        have hp7 := s7.keep _ _ hp6 (by simpa using lpb)
        have s57 : Stp [b] H4 H6 := (s5.trans (s6.mono (by simp))).trans s7
        have s8 : Stp [lp] H6 (upd H6 lp (.lst (p.map V.str ++ [.str z]))) := .wr (by simp) hp7 fun _ z => nomatch z
        refine ⟨_, hp7, Nat.lt_of_le_of_lt (show _ ≤ 100 by rw [List.length_map]; omega) (by decide), s57.mut nlp, b7.stp s8 (by simpa using lpb.symm) (by simpa using lpd), p ++ [z], by rw [upd_same, List.map_append]; rfl, by rw [List.length_append, pj]; rfl, fun f hf => ?_⟩
        rcases List.mem_append.mp hf with y | y
        · exact pf f y
        · rw [List.mem_singleton.mp y]; exact pathW_in z hz
      · rintro H5 ⟨s5, b5, p, hp, pj, pf⟩
        have s35 : Stp [b] H H5 := s34.trans s5
        have ps5 := (ps.stp s4 (by simpa using fb) (fun a ha => by simpa using (an a ha).2.2.1)).stp s5 (by simpa using fb) (fun a ha => by simpa using (an a ha).2.2.1)
        have okp : okPath p := ⟨by omega, pf⟩
        have al : as.length ≤ 9 := by rw [ps5.len]; omega
        clear ps s34 s4 s5 s5' b4 b3 s3
        repeat walk_at "h"
        refine ⟨pathD p, paths.map pathD, path_dt hp, .lst (SqL.of ps5.at_) (PsAt.dts (fp := fp) ps5.len ps5.ps), Nat.le_trans (path_dep p) (by decide), paths_dep paths, ?_⟩
        generalize ((paths.map pathD).any fun z => Dt.beq z (pathD p)) = bb
        refine ⟨_, rfl, ?_⟩
        cases bb with
        | true =>
          refine iteF ?_
          repeat walk_at "h"
          exact ⟨_, _, as, paths, rfl, s35, b5, ps5, an, by omega, ok⟩
        | false =>
          refine iteT ?_
          repeat walk_at "h"
          refine ⟨.inl ⟨rfl, _, SqL.of ps5.at_⟩, ?_⟩
          repeat walk_at "h"
          refine ⟨fp, _, .ref lp, rfl, rfl, ps5.at_, Nat.lt_of_le_of_lt (show _ ≤ 100 by rw [List.length_map]; omega) (by decide), ?_⟩
          have s6 : Stp [fp] H5 (upd H5 fp (.lst (as.map V.ref ++ [.ref lp]))) := .wr (by simp) ps5.at_ fun _ z => nomatch z
          repeat walk_at "h"
          refine ⟨_, _, as ++ [lp], paths ++ [p], rfl, s35.mut nfp, b5.stp s6 (by simpa using fb.symm) (by simpa using fdg), ⟨by rw [upd_same, List.map_append]; rfl, by rw [List.length_append, List.length_append, ps5.len]; rfl, fun j a pp ha hpp => ?_⟩, fun a ha => ?_, by rw [List.length_append]; simp; omega, fun pp hpp => ?_⟩
          · rcases Nat.lt_or_ge j as.length with l | l
            · rw [List.getElem?_append_left l] at ha
              rw [List.getElem?_append_left (by rw [← ps5.len]; exact l)] at hpp
              exact s6.keep _ _ (ps5.ps j a pp ha hpp) (by simpa using (an a (List.mem_of_getElem? ha)).2.1)
            · have lj : j = as.length := by
                have := (List.getElem?_eq_some_iff.mp ha).1
                simp at this; omega
              subst lj
              have e1 : lp = a := by simpa using ha
              rw [ps5.len] at hpp
              have e2 : p = pp := by simpa using hpp
              rw [← e1, ← e2]
              exact s6.keep _ _ hp (by simpa using lpf)
          · rcases List.mem_append.mp ha with y | y
            · exact an a y
            · rw [List.mem_singleton.mp y]; exact ⟨lp0, lpf, lpb, fun z => lpd z.symm⟩
          · rcases List.mem_append.mp hpp with y | y
            · exact ok pp y
            · rw [List.mem_singleton.mp y]; exact okp
    · rintro σ H3 ⟨y2, y3, as, paths, rfl, s3, b3, ps, an, pl, ok⟩
      repeat walk_at "h"
      exact q fp as paths H3 nfp (fun a ha => ⟨(an a ha).1, (an a ha).2.1⟩) ps ⟨⟨Nat.le_refl _, by omega⟩, ok⟩ s3 b3
end

/-! ### more changes -/
section
variable {P : Program} {w : World} {K : PySem.W.Frag} {mg : Str → Option Value} {base : Heap}
def names4 : List Nm := [(0, 0), (0, 1), (1, 0), (2, 0)]
def moreW : List Str := [Str.ofString "next", Str.ofString "a", Str.ofString "b", Str.ofString "next"]
theorem moreW_in : ∀ f ∈ moreW, f ∈ fieldsD := by decide
structure MoreCh (c : Ch) : Prop where
  nm : c.nm ∈ names4
  fd : c.fd ∈ fieldsD
  va : drawnVaD names4 c.va
def spMore (K : PySem.W.Frag) : Sp := fun vs H Q _ => ∃ (b dg : Addr) (ck : Int), vs = [.ref b, .int ck] ∧ Box K b dg H ∧
  ∀ (p : Addr) (ws : List V) (cs : List Ch) (H1 : Hp), H p = none → H1 p = some (.lst ws) → DtsAt K H1 ws (cs.map chD) → cs.length ≤ 5 → (∀ c ∈ cs, MoreCh c) → Stp [b] H H1 → Box K b dg H1 → Q (.ref p) H1
theorem tup2 {H : Hp} {t : Addr} (n : H t = none) (a b : Int) : Stp [] H (upd H t (.tup [.int a, .int b])) ∧ DtAt K (upd H t (.tup [.int a, .int b])) (.ref t) (nmD (a, b)) := ⟨.new n, nm_mk (n := (a, b)) upd_same⟩
theorem cal_law_more (F : Df K mg d_law_more) (B : Blt mg) (C_law_draw : Cal P w K mg base lv_law_draw "_law_draw" ["box", "many"] (spDraw K)) (C_law_pick : Cal P w K mg base lv_law_pick "_law_pick" ["box", "row"] (spPick K)) (C_law_worth : Cal P w K mg base lv_law_worth "_law_worth" ["box", "names"] (spWorthD K)) : Cal P w K mg base lv_law_more "_law_more" ["box", "clock"] (spMore K) := by
  obtain ⟨f, fd, F, g⟩ := F
  refine ⟨f, fd, F.ok sc_law_more (fun vs H Q E h => ?_) (fun cdv A outer s H vs Q E hr h => ⟨_, PSs.nox
    (pss_cons (ps_set (i := 2) sc_law_more.nd rfl (Or.inl rfl) (pe_lst (pa_cons (pe_tup (pa_cons pe_int (pa_cons pe_int pa_nil))) (pa_cons (pe_tup (pa_cons pe_int (pa_cons pe_int pa_nil))) (pa_cons (pe_tup (pa_cons pe_int (pa_cons pe_int pa_nil))) (pa_cons (pe_tup (pa_cons pe_int (pa_cons pe_int pa_nil))) pa_nil))))))
    (pss_cons (ps_set (i := 3) sc_law_more.nd rfl (Or.inl rfl) (pe_lst pa_nil))
    (pss_cons (ps_for PassesOwn.never rfl (pi_range1 rfl B.range (pa_cons (pe_op op_add pe_int (pc_call C_law_draw (hr.mono (by decide)) (by rfl) (pa_cons (pv 0) (pa_cons pe_int pa_nil)))) pa_nil)) (pg_name (i := 4) sc_law_more.nd rfl (Or.inl rfl))
      (pss_cons (ps_set (i := 5) sc_law_more.nd rfl (Or.inl rfl) (pc_call C_law_worth (hr.mono (by decide)) (by rfl) (pa_cons (pv 0) (pa_cons (pv 2) pa_nil))))
        (pss_cons (ps_if (pt_cmpR op_eq (pc_call C_law_draw (hr.mono (by decide)) (by rfl) (pa_cons (pv 0) (pa_cons pe_int pa_nil))) pe_int (nomark _))
          (pss_one (ps_set (i := 5) sc_law_more.nd rfl (Or.inl rfl) (pe_tup (pa_cons pe_str (pa_cons (pc_call C_law_pick (hr.mono (by decide)) (by rfl) (pa_cons (pv 0) (pa_cons (pv 2) pa_nil))) pa_nil)))))
          pss_nil)
        (pss_one (ps_expr (pe_bm PySem.F.plainAttrs_list PySem.F.slot_list_append PySem.F.type_list_append mt_append (pv 3) (pa_cons (pe_tup (pa_cons (pe_tup (pa_cons (pe_op op_add (pe_op op_add (pv 1) pe_int) (pv 4)) (pa_cons (pc_call C_law_draw (hr.mono (by decide)) (by rfl) (pa_cons (pv 0) (pa_cons pe_int pa_nil))) pa_nil))) (pa_cons (pc_call C_law_pick (hr.mono (by decide)) (by rfl) (pa_cons (pv 0) (pa_cons (pv 2) pa_nil))) (pa_cons (pe_ix (ix_listK (K := K) rfl) (pe_lst (pa_cons pe_str (pa_cons pe_str (pa_cons pe_str (pa_cons pe_str pa_nil))))) (pc_call C_law_draw (hr.mono (by decide)) (by rfl) (pa_cons (pv 0) (pa_cons pe_int pa_nil))) (fun _ _ => rfl)) (pa_cons (pv 5) pa_nil))))) pa_nil)))))))
    (pss_one (ps_ret (pv 3)))))), ?_⟩), g, F.kp, F.bindsN fun _ _ _ _ _ _ us hl => match us, hl with | [_, _], _ => rfl⟩
  · obtain ⟨b, dg, ck, rfl, _⟩ := h
    rfl
  · obtain ⟨b, dg, ck, rfl, hb, q⟩ := h
    repeat walk_at "h"
    refine ⟨(by decide : 2 ≤ sizeLine), fun t1 n1 => ?_⟩
    obtain ⟨s1, d1⟩ := tup2 (K := K) n1 0 0
    generalize upd H t1 (.tup [.int 0, .int 0]) = H1 at s1 d1 ⊢
    repeat walk_at "h"
    refine ⟨(by decide : 2 ≤ sizeLine), fun t2 n2 => ?_⟩
    obtain ⟨s2, d2⟩ := tup2 (K := K) n2 0 1
    have d1 := DtAt.stp s2 _ _ rfl d1
    have s2 := s1.trans s2
    generalize upd H1 t2 (.tup [.int 0, .int 1]) = H2 at s2 d1 d2 ⊢
    repeat walk_at "h"
    refine ⟨(by decide : 2 ≤ sizeLine), fun t3 n3 => ?_⟩
    obtain ⟨s3, d3⟩ := tup2 (K := K) n3 1 0
    have d1 := DtAt.stp s3 _ _ rfl d1
    have d2 := DtAt.stp s3 _ _ rfl d2
    have s3 := s2.trans s3
    generalize upd H2 t3 (.tup [.int 1, .int 0]) = H3 at s3 d1 d2 d3 ⊢
    repeat walk_at "h"
    refine ⟨(by decide : 2 ≤ sizeLine), fun t4 n4 => ?_⟩
    obtain ⟨s4, d4⟩ := tup2 (K := K) n4 2 0
    have d1 := DtAt.stp s4 _ _ rfl d1
    have d2 := DtAt.stp s4 _ _ rfl d2
    have d3 := DtAt.stp s4 _ _ rfl d3
    have s4 := s3.trans s4
    generalize upd H3 t4 (.tup [.int 2, .int 0]) = H4 at s4 d1 d2 d3 d4 ⊢
    repeat walk_at "h"
    refine ⟨(by decide : 4 ≤ sizeLine), fun np nnp => ?_⟩
    have s5 : Stp [] H4 (upd H4 np (.lst [.ref t1, .ref t2, .ref t3, .ref t4])) := .new nnp
    have e5 : upd H4 np (.lst [.ref t1, .ref t2, .ref t3, .ref t4]) np = some (.lst [.ref t1, .ref t2, .ref t3, .ref t4]) := upd_same
    have d5 : DtsAt K (upd H4 np (.lst [.ref t1, .ref t2, .ref t3, .ref t4])) [.ref t1, .ref t2, .ref t3, .ref t4] (names4.map nmD) := .cons (DtAt.stp s5 _ _ rfl d1) (.cons (DtAt.stp s5 _ _ rfl d2) (.cons (DtAt.stp s5 _ _ rfl d3) (.cons (DtAt.stp s5 _ _ rfl d4) .nil)))
    have b5 := hb.grow (s4.trans s5)
    have npb : np ∉ [b] := (hb.grow s4).nin nnp
    have s5 := s4.trans s5
    generalize upd H4 np (.lst [.ref t1, .ref t2, .ref t3, .ref t4]) = H5 at s5 e5 d5 b5 ⊢
    generalize [V.ref t1, .ref t2, .ref t3, .ref t4] = nw at e5 d5
    clear s1 s2 s3 s4 d1 d2 d3 d4 n1 n2 n3 n4 nnp
    repeat walk_at "h"
    refine ⟨Nat.zero_le _, fun fp nfp => ?_⟩
    have s6 : Stp [] H5 (upd H5 fp (.lst [])) := .new nfp
    have f6 : upd H5 fp (.lst []) fp = some (.lst []) := upd_same
    have fpb : fp ∉ [b] := b5.nin nfp
    have fdg := b5.dgn nfp
    have fnp : np ≠ fp := fun z => by rw [z, nfp] at e5; cases e5
    have fp0 : H fp = none := s5.free nfp (by simp)
    have e6 := s6.keep _ _ e5 (by simp)
    have d6 := DtsAt.stp s6 _ _ (nms_flat _) d5
    have b6 := b5.grow s6
    have s6 := s5.trans s6
    generalize upd H5 fp (.lst []) = H6 at s6 f6 e6 d6 b6 ⊢
    clear s5 e5 d5 b5 nfp
    repeat walk_at "h"
    refine ⟨b, dg, 5, rfl, by decide, b6, fun n H7 n0 n1 s7 b7 => ?_⟩
    have s67 : Stp [b] H H7 := (s6.mono (by simp)).trans s7
    have f7 := s7.keep _ _ f6 fpb
    have e7 := s7.keep _ _ e6 npb
    have d7 := DtsAt.stp s7 _ _ (nms_flat _) d6
    clear s6 s7 f6 e6 d6 b6
    repeat walk_at "h"
    refine ⟨1 + n, rfl, by omega, by omega, ?_⟩
    refine for_range (lo := 0) (n := (1 + n).toNat) (fun i σ H' => ∃ (y4 y5 : Option V) (ws : List V) (cs : List Ch), σ = [some (.ref b), some (.int ck), some (.ref np), some (.ref fp), y4, y5] ∧ Stp [b] H H' ∧ Box K b dg H' ∧ H' np = some (.lst nw) ∧ DtsAt K H' nw (names4.map nmD) ∧ H' fp = some (.lst ws) ∧ DtsAt K H' ws (cs.map chD) ∧ cs.length = i ∧ ∀ c ∈ cs, MoreCh c)
      ⟨_, _, [], [], rfl, s67, b7, e7, d7, f7, .nil, rfl, by simp⟩ ?_ ?_
    · clear s67 b7 e7 d7 f7
      rintro i σ H8 hi ⟨y4, y5, ws, cs, rfl, s8, b8, e8, d8, f8, g8, cl, mc⟩
      repeat walk_at "h"
      refine ⟨b, dg, np, nw, names4, rfl, b8, e8, d8, by decide, by decide, npb, fun v x H9 hx dv s9 b9 => ?_⟩
      have e9 := s9.keep _ _ e8 npb
      have d9 := DtsAt.stp s9 _ _ (nms_flat _) d8
      have f9 := s9.keep _ _ f8 fpb
      have g9 := chs_stp g8 s9
      have s9 := s8.trans s9
      clear s8 b8 e8 d8 f8 g8
      repeat walk_at "h"
      refine ⟨b, dg, 3, rfl, by decide, b9, fun m H10 m0 m1 s10 b10 => ?_⟩
      have e10 := s10.keep _ _ e9 npb
      have d10 := DtsAt.stp s10 _ _ (nms_flat _) d9
      have f10 := s10.keep _ _ f9 fpb
      have g10 := chs_stp g9 s10
      have dv := DtAt.stp s10 _ _ (vaD_flat _) dv
      have s10 := s9.trans s10
      clear s9 b9 e9 d9 f9 g9
      repeat walk_at "h"
      refine i_iteD (fun c => ?pos) (fun c => ?neg)
      case' pos =>
        repeat walk_at "h"
        refine ⟨b, dg, np, nw, names4, rfl, b10, e10, d10, by decide, by decide, npb, fun v2 n2 H11 hn dn s11 b11 => ?_⟩
        have e11 := s11.keep _ _ e10 npb
        have d11 := DtsAt.stp s11 _ _ (nms_flat _) d10
        have f11 := s11.keep _ _ f10 fpb
        have g11 := chs_stp g10 s11
        have s11 := s10.trans s11
        clear s10 b10 e10 d10 f10 g10 dv hx
        repeat walk_at "h"
        refine ⟨(by decide : 2 ≤ sizeLine), fun t nt => ?_⟩
        have s12 : Stp [] H11 (upd H11 t (.tup [.str strRef, v2])) := .new nt
        have dv : DtAt K (upd H11 t (.tup [.str strRef, v2])) (.ref t) (vaD (.tg strRef n2)) := .tup (.inl upd_same) (.cons (.txt _) (.cons (DtAt.stp s12 _ _ rfl dn) .nil))
        have hx : drawnVaD names4 (.tg strRef n2) := ⟨rfl, hn⟩
        have e10 := s12.keep _ _ e11 (by simp)
        have d10 := DtsAt.stp s12 _ _ (nms_flat _) d11
        have f10 := s12.keep _ _ f11 (by simp)
        have g10 := chs_stp g11 s12
        have b10 := b11.grow s12
        have s10 : Stp [b] H _ := s11.trans (s12.mono (by simp))
        generalize upd H11 t (.tup [.str strRef, v2]) = H12 at dv e10 d10 f10 g10 b10 s10 ⊢
        generalize (Va.tg strRef n2) = x12 at dv hx ⊢
        generalize (V.ref t) = v12 at dv ⊢
      case' neg =>
        generalize H10 = H12 at dv e10 d10 f10 g10 b10 s10 ⊢
        generalize x = x12 at dv hx ⊢
        generalize v = v12 at dv ⊢
      all_goals
        repeat walk_at "h"
        refine ⟨.inl ⟨rfl, _, SqL.of f10⟩, ?_⟩
        repeat walk_at "h"
        refine ⟨b, dg, 3, rfl, by decide, b10, fun pr H13 pr0 pr1 s13 b13 => ?_⟩
        have e13 := s13.keep _ _ e10 npb
        have d13 := DtsAt.stp s13 _ _ (nms_flat _) d10
        have f13 := s13.keep _ _ f10 fpb
        have g13 := chs_stp g10 s13
        have dv := DtAt.stp s13 _ _ (vaD_flat _) dv
        have s13 := s10.trans s13
        clear s10 b10 e10 d10 f10 g10
        repeat walk_at "h"
        refine ⟨(by decide : 2 ≤ sizeLine), fun st nst => ?_⟩
        obtain ⟨s14, dst⟩ := tup2 (K := K) nst (ck + 1 + (0 + (i : Int))) pr
        have e14 := s14.keep _ _ e13 (by simp)
        have d14 := DtsAt.stp s14 _ _ (nms_flat _) d13
        have f14 := s14.keep _ _ f13 (by simp)
        have g14 := chs_stp g13 s14
        have dv := DtAt.stp s14 _ _ (vaD_flat _) dv
        have b14 := b13.grow s14
        have s14 : Stp [b] H _ := s13.trans (s14.mono (by simp))
        generalize upd H13 st (.tup [.int (ck + 1 + (0 + (i : Int))), .int pr]) = H14 at dst e14 d14 f14 g14 dv b14 s14 ⊢
        clear s13 b13 e13 d13 f13 g13 nst
        repeat walk_at "h"
        refine ⟨b, dg, np, nw, names4, rfl, b14, e14, d14, by decide, by decide, npb, fun v3 n3 H15 hn3 dn3 s15 b15 => ?_⟩
        have f15 := s15.keep _ _ f14 fpb
        have e15 := s15.keep _ _ e14 npb
        have d15 := DtsAt.stp s15 _ _ (nms_flat _) d14
        have g15 := chs_stp g14 s15
        have dv := DtAt.stp s15 _ _ (vaD_flat _) dv
        have dst := DtAt.stp s15 _ _ rfl dst
        have s15 := s14.trans s15
        clear s14 b14 e14 d14 f14 g14
        repeat walk_at "h"
        refine ⟨(by decide : 4 ≤ sizeLine), fun tl ntl => ?_⟩
        have s16 : Stp [] H15 (upd H15 tl (.lst (moreW.map V.str))) := .new ntl
        have tb : tl ∉ [b] := b15.nin ntl
        repeat walk_at "h"
        refine ⟨b, dg, 4, rfl, by decide, b15.grow s16, fun y H17 y0 y1 s17 b17 => ?_⟩
        have hl : H17 tl = some (.lst (moreW.map V.str)) := s17.keep _ _ upd_same tb
        obtain ⟨u, hu, hm⟩ := pick (xs := moreW.map V.str) y0 (by simpa [moreW] using y1)
        obtain ⟨z, hz, rfl⟩ := List.mem_map.mp hm
        refine i_IxL (SqL.of hl) hu ?_
        have s167 : Stp [b] H15 H17 := (s16.mono (by simp)).trans s17
        have f17 := s167.keep _ _ f15 fpb
        have e17 := s167.keep _ _ e15 npb
        have d17 := DtsAt.stp s167 _ _ (nms_flat _) d15
        have g17 := chs_stp g15 s167
        have dv := DtAt.stp s167 _ _ (vaD_flat _) dv
        have dst := DtAt.stp s167 _ _ rfl dst
        have dn3 := DtAt.stp s167 _ _ rfl dn3
        have s17 := s15.trans s167
        clear s15 b15 e15 d15 f15 g15 s16 s167 hl hu tb ntl
        repeat walk_at "h"
        refine ⟨(by decide : 4 ≤ sizeLine), fun ct nct => ?_⟩
        have s18 : Stp [] H17 (upd H17 ct (.tup [.ref st, v3, .str z, v12])) := .new nct
        have dc : DtAt K (upd H17 ct (.tup [.ref st, v3, .str z, v12])) (.ref ct) (chD ⟨(ck + 1 + (0 + (i : Int)), pr), n3, z, x12⟩) := .tup (.inl upd_same) (.cons (DtAt.stp s18 _ _ rfl dst) (.cons (DtAt.stp s18 _ _ rfl dn3) (.cons (.txt _) (.cons (DtAt.stp s18 _ _ (vaD_flat _) dv) .nil))))
        have f18 := s18.keep _ _ f17 (by simp)
        have e18 := s18.keep _ _ e17 (by simp)
        have d18 := DtsAt.stp s18 _ _ (nms_flat _) d17
        have g18 := chs_stp g17 s18
        have b18 := b17.grow s18
        have s18 : Stp [b] H _ := s17.trans (s18.mono (by simp))
        generalize upd H17 ct (.tup [.ref st, v3, .str z, v12]) = H18 at dc f18 e18 d18 g18 b18 s18 ⊢
        clear s17 b17 e17 d17 f17 g17 nct dv dst dn3
        have wl : ws.length ≤ 100 := by
          have := g18.length
          rw [List.length_map] at this
          omega
        refine ⟨fp, _, .ref ct, rfl, rfl, f18, Nat.lt_of_le_of_lt wl (by decide), ?_⟩
        have s19 : Stp [fp] H18 (upd H18 fp (.lst (ws ++ [.ref ct]))) := .wr (by simp) f18 fun _ z => nomatch z
        repeat walk_at "h"
        refine ⟨_, _, ws ++ [.ref ct], cs ++ [⟨(ck + 1 + (0 + (i : Int)), pr), n3, z, x12⟩], rfl, s18.mut fp0, b18.stp s19 (by simpa using (fun z => fpb (by simp [z]) : ¬ b = fp) ) (by simpa using fdg), s19.keep _ _ e18 (by simpa using fnp), DtsAt.stp s19 _ _ (nms_flat _) d18, upd_same, dts_map (chs_stp g18 s19) (DtAt.stp s19 _ _ (chD_flat _) dc), by rw [List.length_append, cl]; rfl, fun c hc => ?_⟩
        rcases List.mem_append.mp hc with y | y
        · exact mc c y
        · rw [List.mem_singleton.mp y]
          exact ⟨hn3, moreW_in z hz, hx⟩
    · rintro σ H8 ⟨y4, y5, ws, cs, rfl, s8, b8, e8, d8, f8, g8, cl, mc⟩
      repeat walk_at "h"
      exact q fp ws cs H8 fp0 f8 g8 (by omega) mc s8 b8
end

/-! ### a watcher -/
section
variable {P : Program} {w : World} {K : PySem.W.Frag} {mg : Str → Option Value} {base : Heap} {CS CW : Addr}
abbrev stateW : Str := Str.ofString "state"
abbrev pathsW : Str := Str.ofString "paths"
abbrev toldW : Str := Str.ofString "told"
structure WaC (K : PySem.W.Frag) (C : Addr) : Prop where
  cls : Cls K C
  state : NoAttr K C "state"
  paths : NoAttr K C "paths"
  told : NoAttr K C "told"
structure WA where
  x : Addr
  dx : Addr
  pp : Addr
  tp : Addr
structure WaAt (K : PySem.W.Frag) (C : Addr) (H : Hp) (a : WA) (st : Addr) (as : List Addr) (paths : List (List Str)) (tv : List Va) : Prop where
  at_ : H a.x = some (.ins C a.dx [(stateW, .ref st), (pathsW, .ref a.pp), (toldW, .ref a.tp)])
  ps : PsAt H a.pp as paths
  td : ∃ tw, H a.tp = some (.lst tw) ∧ DtsAt K H tw (tv.map vaD)
  len : tv.length = paths.length
  ne : a.pp ≠ a.tp ∧ a.x ∉ as ∧ a.pp ∉ as ∧ a.tp ∉ as
theorem WaAt.xp {C : Addr} {H : Hp} {a : WA} {st : Addr} {as : List Addr} {paths : List (List Str)} {tv : List Va} (h : WaAt K C H a st as paths tv) : a.x ≠ a.pp ∧ a.x ≠ a.tp := by
  obtain ⟨tw, e, _⟩ := h.td
  refine ⟨fun z => ?_, fun z => ?_⟩
  · have := h.at_; rw [z, h.ps.at_] at this; cases this
  · have := h.at_; rw [z, e] at this; cases this
/-- its own addresses -/
def wfoot (a : WA) (as : List Addr) : List Addr := a.x :: a.pp :: a.tp :: as
theorem WaAt.stp {C : Addr} {H H1 : Hp} {M : List Addr} {a : WA} {st : Addr} {as : List Addr} {paths : List (List Str)} {tv : List Va} (h : WaAt K C H a st as paths tv) (s : Stp M H H1) (n : ∀ x ∈ wfoot a as, x ∉ M) : WaAt K C H1 a st as paths tv := by
  obtain ⟨tw, e, d⟩ := h.td
  exact ⟨s.keep _ _ h.at_ (n _ (by simp [wfoot])), h.ps.stp s (n _ (by simp [wfoot])) fun b hb => n b (by simp [wfoot, hb]), ⟨tw, s.keep _ _ e (n _ (by simp [wfoot])), DtsAt.stp s _ _ (vas_flat _) d⟩, h.len, h.ne⟩
theorem WaAt.there {C : Addr} {H : Hp} {a : WA} {st : Addr} {as : List Addr} {paths : List (List Str)} {tv : List Va} (h : WaAt K C H a st as paths tv) {x : Addr} (hx : x ∈ wfoot a as) : H x ≠ none := by
  obtain ⟨tw, e, _⟩ := h.td
  simp only [wfoot, List.mem_cons] at hx
  rcases hx with rfl | rfl | rfl | hx
  · rw [h.at_]; simp
  · rw [h.ps.at_]; simp
  · rw [e]; simp
  · obtain ⟨i, hi⟩ := List.getElem?_of_mem hx
    have l := (List.getElem?_eq_some_iff.mp hi).1
    obtain ⟨p, hp⟩ : ∃ p, paths[i]? = some p := ⟨_, List.getElem?_eq_getElem (by rw [← h.ps.len]; exact l)⟩
    rw [h.ps.ps i x p hi hp]; simp
theorem i_setF {Q : L2.St → Hp → Prop} {σ : L2.St} {H : Hp} {a c dx : Addr} {fs fs' : List (Str × V)} (e : H a = some (.ins c dx fs)) (h : ∀ H1, H1 a = some (.ins c dx fs') → Stp [a] H H1 → Q σ H1) : Q σ (upd H a (.ins c dx fs')) :=
  h _ upd_same (.wr (by simp) e fun _ z => nomatch z)
def spWInit (K : PySem.W.Frag) (C : Addr) : Sp := fun vs H Q _ => ∃ (x dx st : Addr), vs = [.ref x, .ref st] ∧ H x = some (.ins C dx []) ∧
  ∀ (pp tp : Addr) (H1 : Hp), H pp = none → H tp = none → WaAt K C H1 ⟨x, dx, pp, tp⟩ st [] [] [] → Stp [x] H H1 → Q .non H1
theorem mki_Watcher_init (F : Dfi K mg CW "Watcher" d_Watcher_init) (U : WaC K CW) : Mki P w K mg base lv_Watcher_init CW "Watcher" ["self", "state"] (spWInit K CW) := by
  obtain ⟨f, fd, F, g⟩ := F
  refine ⟨f, fd, F.ok sc_Watcher_init (fun vs H Q E h => ?_) (fun cdv A outer s H vs Q E hr h => ⟨_, PSs.nox
    (pss_cons (ps_fld (pv 0) (pv 1) rfl)
    (pss_cons (ps_fld (pv 0) (pe_lst pa_nil) rfl)
    (pss_one (ps_fld (pv 0) (pe_lst pa_nil) rfl)))), ?_⟩), g, F.kp, F.bindsN fun _ _ _ _ _ _ us hl => match us, hl with | [_, _], _ => rfl⟩
  · obtain ⟨x, dx, st, rfl, _⟩ := h
    rfl
  · obtain ⟨x, dx, st, rfl, hx, q⟩ := h
    repeat walk_at "h"
    refine ⟨x, CW, dx, [], rfl, hx, U.cls, U.state, by decide, i_setF hx fun H1 x1 s1 => ?_⟩
    repeat walk_at "h"
    refine ⟨Nat.zero_le _, fun ma nma => ?_⟩
    have s2 : Stp [] H1 (upd H1 ma (.lst [])) := .new nma
    have m2 : upd H1 ma (.lst []) ma = some (.lst []) := upd_same
    have x2 := s2.keep _ _ x1 (by simp)
    have max : x ≠ ma := ne_of_none x1 nma
    generalize upd H1 ma (.lst []) = H2 at s2 m2 x2 ⊢
    repeat walk_at "h"
    refine ⟨x, CW, dx, _, rfl, x2, U.cls, U.paths, (show 1 < 1000 by decide), i_setF x2 fun H3 x3 s3 => ?_⟩
    repeat walk_at "h"
    refine ⟨Nat.zero_le _, fun ua nua => ?_⟩
    have m3 := s3.keep _ _ m2 (by simpa using max.symm)
    have s4 : Stp [] H3 (upd H3 ua (.lst [])) := .new nua
    have u4 : upd H3 ua (.lst []) ua = some (.lst []) := upd_same
    have x4 := s4.keep _ _ x3 (by simp)
    have m4 := s4.keep _ _ m3 (by simp)
    have uax : x ≠ ua := ne_of_none x3 nua
    have uma : ma ≠ ua := ne_of_none m3 nua
    generalize upd H3 ua (.lst []) = H4 at s4 u4 x4 m4 ⊢
    repeat walk_at "h"
    refine ⟨x, CW, dx, _, rfl, x4, U.cls, U.told, (show 2 < 1000 by decide), i_setF x4 fun H5 x5 s5 => ?_⟩
    have s02 := s1.trans (s2.mono (M' := [x]) (by simp))
    have s03 := s02.trans s3
    have s05 := (s03.trans (s4.mono (M' := [x]) (by simp))).trans s5
    have m5 := s5.keep _ _ m4 (by simpa using max.symm)
    have u5 := s5.keep _ _ u4 (by simpa using uax.symm)
    exact q ma ua H5 (s1.free nma (by simpa using max.symm)) (s03.free nua (by simpa using uax.symm)) ⟨x5, ⟨m5, rfl, fun i a p h => by rw [List.getElem?_nil] at h; cases h⟩, ⟨[], u5, .nil⟩, rfl, ⟨uma, by simp, by simp, by simp⟩⟩ s05
def spWatch (P : Program) (w : World) (K : PySem.W.Frag) (C CS : Addr) : Sp := fun vs H Q _ => ∃ (a : WA) (st sx d q : Addr) (cl : List Cel) (as : List Addr) (paths : List (List Str)) (tv : List Va) (path : List Str), vs = [.ref a.x, .ref q] ∧ WaAt K C H a st as paths tv ∧ StR P w K CS H st sx d cl ∧ H q = some (.lst (path.map V.str)) ∧ path.length ≤ 100 ∧ paths.length ≤ 100 ∧
  ∀ (v : V) (na : Addr) (H1 : Hp), H na = none → DtAt K H1 v (vaD (leadV (gOf cl) path)) → WaAt K C H1 a st (as ++ [na]) (paths ++ [path]) (tv ++ [leadV (gOf cl) path]) → Stp [a.pp, a.tp] H H1 → Q v H1
theorem mth_Watcher_watch (F : Dfm K CW d_Watcher_watch) (B : Blt mg) (U : WaC K CW) (C_value_at : Cal P w K mg base lv_value_at "value_at" ["state", "path"] (spLead P w K CS)) : Mth P w K mg base lv_Watcher_watch CW "watch" ["self", "path"] (spWatch P w K CW CS) := by
  obtain ⟨f, fd, F, g⟩ := F
  refine ⟨f, fd, F.ok sc_Watcher_watch (fun vs H Q E h => ?_) (fun cdv A outer s H vs Q E hr h => ⟨_, PSs.nox
    (pss_cons (ps_set (i := 2) sc_Watcher_watch.nd rfl (Or.inl rfl) (pc_call C_value_at (hr.mono (by decide)) (by rfl) (pa_cons (pe_fld (pv 0) rfl) (pa_cons (pv 1) pa_nil))))
    (pss_cons (ps_expr (pe_bm PySem.F.plainAttrs_list PySem.F.slot_list_append PySem.F.type_list_append mt_append (pe_fld (pv 0) rfl) (pa_cons (pe_callTy call_list_of (by rfl) B.list (by decide +kernel) (pa_cons (pv 1) pa_nil)) pa_nil)))
    (pss_cons (ps_expr (pe_bm PySem.F.plainAttrs_list PySem.F.slot_list_append PySem.F.type_list_append mt_append (pe_fld (pv 0) rfl) (pa_cons (pv 2) pa_nil)))
    (pss_one (ps_ret (pv 2)))))), ?_⟩), g, F.kp, F.bindsN fun _ _ _ _ _ _ us hl => match us, hl with | [_, _], _ => rfl⟩
  · obtain ⟨a, st, sx, d, q, cl, as, paths, tv, path, rfl, _⟩ := h
    rfl
  · obtain ⟨a, st, sx, d, qa, cl, as, paths, tv, path, rfl, hW, hS, hp, pl, psl, q⟩ := h
    repeat walk_at "h"
    refine ⟨a.x, CW, a.dx, _, _, rfl, hW.at_, U.cls, U.state, rfl, ?_⟩
    repeat walk_at "h"
    refine ⟨st, sx, d, qa, cl, path, rfl, hS, hp, pl, fun v H1 dv s1 => ?_⟩
    have W1 := hW.stp s1 (by simp)
    have hp1 := s1.keep _ _ hp (by simp)
    repeat walk_at "h"
    refine ⟨a.x, CW, a.dx, _, _, rfl, W1.at_, U.cls, U.paths, rfl, ?_⟩
    repeat walk_at "h"
    refine ⟨.inl ⟨rfl, _, SqL.of W1.ps.at_⟩, ?_⟩
    repeat walk_at "h"
    refine ⟨qa, _, rfl, .inl (SqL.of hp1), fun na nna => ?_⟩
    have s2 : Stp [] H1 (upd H1 na (.lst (path.map V.str))) := .new nna
    have l2 : upd H1 na (.lst (path.map V.str)) na = some (.lst (path.map V.str)) := upd_same
    have W2 := W1.stp s2 (by simp)
    have dv2 := DtAt.stp s2 _ _ (vaD_flat _) dv
    have na0 : H na = none := s1.free nna (by simp)
    have nf : na ∉ wfoot a as := fun z => W1.there z nna
    simp only [wfoot, List.mem_cons, not_or] at nf
    have s02 := s1.trans s2
    generalize upd H1 na (.lst (path.map V.str)) = H2 at s2 l2 W2 dv2 s02 ⊢
    clear s1 s2 W1 dv hp1 nna
    repeat walk_at "h"
    have al : as.length ≤ 100 := by rw [W2.ps.len]; exact psl
    refine ⟨a.pp, _, .ref na, rfl, rfl, W2.ps.at_, Nat.lt_of_le_of_lt (show _ ≤ 100 by rw [List.length_map]; exact al) (by decide), ?_⟩
    have s3 : Stp [a.pp] H2 (upd H2 a.pp (.lst (as.map V.ref ++ [.ref na]))) := .wr (by simp) W2.ps.at_ fun _ z => nomatch z
    have p3 : upd H2 a.pp (.lst (as.map V.ref ++ [.ref na])) a.pp = some (.lst ((as ++ [na]).map V.ref)) := by rw [upd_same, List.map_append]; rfl
    obtain ⟨tw, t2, dt2⟩ := W2.td
    have t3 := s3.keep _ _ t2 (by simpa using W2.ne.1.symm)
    have dt3 := DtsAt.stp s3 _ _ (vas_flat _) dt2
    have x3 := s3.keep _ _ W2.at_ (by simpa using W2.xp.1)
    have dv3 := DtAt.stp s3 _ _ (vaD_flat _) dv2
    have ps3 : ∀ (i : Nat) (b : Addr) (p : List Str), (as ++ [na])[i]? = some b → (paths ++ [path])[i]? = some p → upd H2 a.pp (.lst (as.map V.ref ++ [.ref na])) b = some (.lst (p.map V.str)) := fun i b p hb hp => by
      rcases Nat.lt_or_ge i as.length with l | l
      · rw [List.getElem?_append_left l] at hb
        rw [List.getElem?_append_left (by rw [← W2.ps.len]; exact l)] at hp
        exact s3.keep _ _ (W2.ps.ps i b p hb hp) (by
          have := List.mem_of_getElem? hb
          simp only [List.mem_singleton]
          exact fun z => W2.ne.2.2.1 (by rw [← z]; exact this))
      · have li : i = as.length := by
          have := (List.getElem?_eq_some_iff.mp hb).1
          simp at this; omega
        subst li
        have e1 : na = b := by simpa using hb
        rw [W2.ps.len] at hp
        have e2 : path = p := by simpa using hp
        rw [← e1, ← e2]
        exact s3.keep _ _ l2 (by simpa using nf.2.1)
    have s03 : Stp [a.pp] H _ := (s02.mono (by simp)).trans s3
    generalize upd H2 a.pp (.lst (as.map V.ref ++ [.ref na])) = H3 at s3 p3 t3 dt3 x3 dv3 ps3 s03 ⊢
    repeat walk_at "h"
    refine ⟨a.x, CW, a.dx, _, _, rfl, x3, U.cls, U.told, rfl, ?_⟩
    repeat walk_at "h"
    refine ⟨.inl ⟨rfl, _, SqL.of t3⟩, ?_⟩
    repeat walk_at "h"
    have twl : tw.length ≤ 100 := by
      have h1 := dt3.length
      rw [List.length_map, W2.len] at h1
      omega
    refine ⟨a.tp, _, v, rfl, rfl, t3, Nat.lt_of_le_of_lt twl (by decide), ?_⟩
    have s4 : Stp [a.tp] H3 (upd H3 a.tp (.lst (tw ++ [v]))) := .wr (by simp) t3 fun _ z => nomatch z
    repeat walk_at "h"
    refine q v na _ na0 (DtAt.stp s4 _ _ (vaD_flat _) dv3) ⟨s4.keep _ _ x3 (by simpa using W2.xp.2), ⟨s4.keep _ _ p3 (by simpa using W2.ne.1), by rw [List.length_append, List.length_append, W2.ps.len]; rfl, fun i b p hb hp => s4.keep _ _ (ps3 i b p hb hp) ?_⟩, ⟨tw ++ [v], upd_same, ?_⟩, by rw [List.length_append, List.length_append, W2.len]; rfl, ⟨W2.ne.1, ?_, ?_, ?_⟩⟩ ((s03.mono (by simp)).trans (s4.mono (by simp)))
    · have hb := List.mem_of_getElem? hb
      simp only [List.mem_singleton]
      rintro rfl
      rcases List.mem_append.mp hb with z | z
      · exact W2.ne.2.2.2 z
      · exact nf.2.2.1 (List.mem_singleton.mp z).symm
    · rw [List.map_append]
      exact (DtsAt.stp s4 _ _ (vas_flat _) dt3).append (.cons (DtAt.stp s4 _ _ (vaD_flat _) dv3) .nil)
    · intro z
      rcases List.mem_append.mp z with z | z
      · exact W2.ne.2.1 z
      · exact nf.1 (List.mem_singleton.mp z).symm
    · intro z
      rcases List.mem_append.mp z with z | z
      · exact W2.ne.2.2.1 z
      · exact nf.2.1 (List.mem_singleton.mp z).symm
    · intro z
      rcases List.mem_append.mp z with z | z
      · exact W2.ne.2.2.2 z
      · exact nf.2.2.1 (List.mem_singleton.mp z).symm
end

/-! ### a watcher's news -/
section
variable {P : Program} {w : World} {K : PySem.W.Frag} {mg : Str → Option Value} {base : Heap} {CS CW : Addr}
abbrev News := List Str × Va × Va
def newsD (x : News) : Dt := .tup [pathD x.1, vaD x.2.1, vaD x.2.2]
def newsAt (ps : List (List Str)) (ts ns : List Va) (j : Nat) : Option News := (ps[j]?).bind fun p => (ts[j]?).bind fun t => (ns[j]?).bind fun n => if n = t then none else some (p, t, n)
def newsR (ps : List (List Str)) (ts ns : List Va) (i : Nat) : List News := (List.range i).filterMap (newsAt ps ts ns)
theorem newsR_succ (ps : List (List Str)) (ts ns : List Va) (i : Nat) : newsR ps ts ns (i + 1) = newsR ps ts ns i ++ (newsAt ps ts ns i).toList := by
  unfold newsR
  rw [List.range_succ, List.filterMap_append]
  cases e : newsAt ps ts ns i <;> simp [e]
theorem newsAt_of {ps : List (List Str)} {ts ns : List Va} {j : Nat} {p : List Str} {t n : Va} (h1 : ps[j]? = some p) (h2 : ts[j]? = some t) (h3 : ns[j]? = some n) : newsAt ps ts ns j = if n = t then none else some (p, t, n) := by
  unfold newsAt
  rw [h1, h2, h3]; rfl
theorem newsR_len (ps : List (List Str)) (ts ns : List Va) (i : Nat) : (newsR ps ts ns i).length ≤ i := by
  unfold newsR
  refine Nat.le_trans (List.length_filterMap_le ..) ?_
  rw [List.length_range]
  exact Nat.le_refl i
theorem dts_idx {α : Type} {f : α → Dt} {H : Hp} : ∀ {vs : List V} {xs : List α}, vs.length = xs.length → (∀ (i : Nat) (v : V) (x : α), vs[i]? = some v → xs[i]? = some x → DtAt K H v (f x)) → DtsAt K H vs (xs.map f)
  | [], [], _, _ => .nil
  | v :: vs, x :: xs, l, h => .cons (h 0 v x rfl rfl) (dts_idx (by simpa using l) fun i u y hu hy => h (i + 1) u y hu hy)
structure NwsAt (K : PySem.W.Frag) (ok : Addr → Prop) (H : Hp) (acc : List V) (xs : List News) : Prop where
  len : acc.length = xs.length
  at_ : ∀ (i : Nat) (v : V) (x : News), acc[i]? = some v → xs[i]? = some x → ∃ t l u n, v = .ref t ∧ TupAt K H t [.ref l, u, n] ∧ H l = some (.lst (x.1.map V.str)) ∧ ok l ∧ DtAt K H u (vaD x.2.1) ∧ DtAt K H n (vaD x.2.2)
theorem NwsAt.nil {ok : Addr → Prop} {H : Hp} : NwsAt K ok H [] [] := ⟨rfl, fun i v x h => by rw [List.getElem?_nil] at h; cases h⟩
theorem NwsAt.stp {ok : Addr → Prop} {H H1 : Hp} {M : List Addr} {acc : List V} {xs : List News} (h : NwsAt K ok H acc xs) (s : Stp M H H1) (n : ∀ l, ok l → l ∉ M) : NwsAt K ok H1 acc xs :=
  ⟨h.len, fun i v x hv hx => let ⟨t, l, u, n', e, ht, hl, o, d1, d2⟩ := h.at_ i v x hv hx; ⟨t, l, u, n', e, ht.stp s, s.keep _ _ hl (n l o), o, DtAt.stp s _ _ (vaD_flat _) d1, DtAt.stp s _ _ (vaD_flat _) d2⟩⟩
theorem NwsAt.dts {ok : Addr → Prop} {H : Hp} {acc : List V} {xs : List News} (h : NwsAt K ok H acc xs) : DtsAt K H acc (xs.map newsD) :=
  dts_idx h.len fun i v x hv hx => by
    obtain ⟨t, l, u, n, rfl, ht, hl, _, d1, d2⟩ := h.at_ i v x hv hx
    exact .tup ht (.cons (path_dt hl) (.cons d1 (.cons d2 .nil)))
theorem NwsAt.snoc {ok : Addr → Prop} {H : Hp} {acc : List V} {xs : List News} (h : NwsAt K ok H acc xs) {t l : Addr} {u n : V} {x : News} (ht : TupAt K H t [.ref l, u, n]) (hl : H l = some (.lst (x.1.map V.str))) (o : ok l) (d1 : DtAt K H u (vaD x.2.1)) (d2 : DtAt K H n (vaD x.2.2)) : NwsAt K ok H (acc ++ [.ref t]) (xs ++ [x]) := by
  refine ⟨by rw [List.length_append, List.length_append, h.len]; rfl, fun i v y hv hy => ?_⟩
  rcases Nat.lt_or_ge i acc.length with z | z
  · rw [List.getElem?_append_left z] at hv
    rw [List.getElem?_append_left (by rw [← h.len]; exact z)] at hy
    exact h.at_ i v y hv hy
  · have li : i = acc.length := by
      have := (List.getElem?_eq_some_iff.mp hv).1
      simp at this; omega
    subst li
    have e1 : V.ref t = v := by simpa using hv
    rw [h.len] at hy
    have e2 : x = y := by simpa using hy
    subst e1 e2
    exact ⟨t, l, u, n, rfl, ht, hl, o, d1, d2⟩
theorem va_beq (a b : Va) : Dt.beq (vaD a) (vaD b) = decide (a = b) := by
  by_cases h : a = b
  · rw [h, Dt.beq_self]; simp
  · rw [decide_eq_false h]
    exact Bool.eq_false_iff.mpr fun z => h (vaD_inj ((Dt.beq_iff (vaD_pure _) (vaD_pure _)).mp z))
theorem va_dep (x : Va) : (vaD x).depth ≤ 60 := Nat.le_trans (vaD_depth x) (by decide)
def spNews (P : Program) (w : World) (K : PySem.W.Frag) (C CS : Addr) : Sp := fun vs H Q _ => ∃ (a : WA) (st x2 sx d : Addr) (cl : List Cel) (as : List Addr) (paths : List (List Str)) (tv : List Va), vs = [.ref a.x, .ref x2] ∧ WaAt K C H a st as paths tv ∧ StR P w K CS H x2 sx d cl ∧ paths.length ≤ 100 ∧ (∀ p ∈ paths, p.length ≤ 100) ∧
  ∀ (r vp : Addr) (acc : List V) (H1 : Hp), H r = none → H vp = none → H1 r = some (.lst acc) → NwsAt K (fun l => H l = none) H1 acc (newsR paths tv (paths.map (leadV (gOf cl))) paths.length) → WaAt K C H1 { a with tp := vp } x2 as paths (paths.map (leadV (gOf cl))) → Stp [a.x] H H1 → Q (.ref r) H1
theorem mth_Watcher_news (F : Dfm K CW d_Watcher_news) (B : Blt mg) (B_zip : mg "zip" = none) (U : WaC K CW) (C_value_at : Cal P w K mg base lv_value_at "value_at" ["state", "path"] (spLead P w K CS)) : Mth P w K mg base lv_Watcher_news CW "news" ["self", "state"] (spNews P w K CW CS) := by
  obtain ⟨f, fd, F, g⟩ := F
  refine ⟨f, fd, F.ok sc_Watcher_news (fun vs H Q E h => ?_) (fun cdv A outer s H vs Q E hr h => ⟨_, PSs.nox
    (pss_cons (ps_setLc (i := 2) (own := [("path", 4)]) (g := gName 4) (by rfl) sc_Watcher_news.nd rfl rfl (sw_true rfl rfl rfl (by decide +kernel)) (pi_list (pe_fld (pv 0) rfl)) (blkOk_by (N := ["self", "state", "values", "news", "path", "value", "new_value"]) (own := [("path", 4)]) (sc := defScope s_Watcher_news) (by decide +kernel)) (fun _ _ _ _ _ => (pg_name (i := 4) sc_Watcher_news.nd rfl (Or.inl rfl))) (fun _ _ _ _ _ => pts_nil) (fun _ _ _ _ _ => (pc_call C_value_at (hr.mono (by decide)) (by rfl) (pa_cons (pv 1) (pa_cons (pv 4) pa_nil)))))
    (pss_cons (ps_setLc (i := 3) (own := [("path", 4), ("value", 5), ("new_value", 6)]) (g := gTup _ 3 (gCons (gName 4) (gCons (gName 5) (gCons (gName 6) gNil)))) (by rfl) sc_Watcher_news.nd rfl rfl (sw_true rfl rfl rfl (by decide +kernel)) (pi_zip3 (by rfl) B_zip (pa_cons (pe_fld (pv 0) rfl) (pa_cons (pe_fld (pv 0) rfl) (pa_cons (pv 2) pa_nil)))) (blkOk_by (N := ["self", "state", "values", "news", "path", "value", "new_value"]) (own := [("path", 4), ("value", 5), ("new_value", 6)]) (sc := defScope s_Watcher_news) (by decide +kernel)) (fun _ _ _ _ _ => (pg_tup (by rfl) (pgs_cons (pg_name (i := 4) sc_Watcher_news.nd rfl (Or.inl rfl)) (pgs_cons (pg_name (i := 5) sc_Watcher_news.nd rfl (Or.inl rfl)) (pgs_cons (pg_name (i := 6) sc_Watcher_news.nd rfl (Or.inl rfl)) pgs_nil))))) (fun _ _ _ _ _ => (pts_one (pt_cmpR (op_neTK (K := K) rfl hr.units) (pv 6) (pv 5) (nomark _)))) (fun _ _ _ _ _ => (pe_tup (pa_cons (pe_callTy (call_list_ofK (K := K) rfl) (by rfl) B.list (by decide +kernel) (pa_cons (pv 4) pa_nil)) (pa_cons (pv 5) (pa_cons (pv 6) pa_nil))))))
    (pss_cons (ps_fld (pv 0) (pv 1) rfl)
    (pss_cons (ps_fld (pv 0) (pv 2) rfl)
    (pss_one (ps_ret (pv 3))))))), ?_⟩), g, F.kp, F.bindsN fun _ _ _ _ _ _ us hl => match us, hl with | [_, _], _ => rfl⟩
  · obtain ⟨a, st, x2, sx, d, cl, as, paths, tv, rfl, _⟩ := h
    rfl
  · obtain ⟨a, st, x2, sx, d, cl, as, paths, tv, rfl, hW, hS, psl, pll, q⟩ := h
    have al : as.length = paths.length := hW.ps.len
    repeat walk_at "h"
    refine i_Lc ?_
    repeat walk_at "h"
    refine ⟨a.x, CW, a.dx, _, _, rfl, hW.at_, U.cls, U.paths, rfl, ?_⟩
    refine ⟨a.pp, rfl, ⟨_, SqL.of hW.ps.at_⟩, fun vp nvp => ?_⟩
    refine lc_list (xs := as.map V.ref) (fun i H' => Stp [] H H' ∧ ∃ ws : List V, H' vp = some (.lst ws) ∧ DtsAt K H' ws (((paths.take i).map (leadV (gOf cl))).map vaD)) ⟨.new nvp, [], upd_same, .nil⟩ (fun i H' _ h => SqL.of (h.1.keep _ _ hW.ps.at_ (by simp))) ?_ ?_
    · rintro i v H1 hv ⟨s1, ws, e1, d1⟩
      obtain ⟨qa, p, hqa, hp, rfl, hl⟩ := (hW.ps.stp s1 (by simp) (by simp)).get hv
      have il := (List.getElem?_eq_some_iff.mp hp).1
      have wl : ws.length ≤ 100 := by
        have := d1.length
        rw [List.length_map, List.length_map, List.length_take] at this
        omega
      rw [List.take_add_one, hp, List.map_append, List.map_append]
      refine ⟨rfl, i_Yes ?_⟩
      refine i_ite (fun _ => ?_) (fun z => nomatch z)
      repeat walk_at "h"
      refine ⟨x2, sx, d, qa, cl, p, rfl, hS.stp s1 (by simp) (by simp), hl, pll p (List.mem_of_getElem? hp), fun u H2 du s2 => ?_⟩
      have e2 := s2.keep _ _ e1 (by simp)
      have s3 : Stp [vp] H2 (upd H2 vp (.lst (ws ++ [u]))) := .wr (by simp) e2 fun _ z => nomatch z
      exact ⟨ws, e2, Nat.lt_of_le_of_lt wl (by decide), (s1.trans s2).mut nvp, _, upd_same, (DtsAt.stp s3 _ _ (vas_flat _) (DtsAt.stp s2 _ _ (vas_flat _) d1)).append (.cons (DtAt.stp s3 _ _ (vaD_flat _) du) .nil)⟩
    · rintro H1 ⟨s1, vw, e1, d1⟩
      rw [List.length_map, al, List.take_length] at d1
      have W1 := hW.stp s1 (by simp)
      repeat walk_at "h"
      refine i_Lc (i_Zip3 ?_)
      repeat walk_at "h"
      refine ⟨a.x, CW, a.dx, _, _, rfl, W1.at_, U.cls, U.paths, rfl, ?_⟩
      repeat walk_at "h"
      refine ⟨a.x, CW, a.dx, _, _, rfl, W1.at_, U.cls, U.told, rfl, ?_⟩
      repeat walk_at "h"
      obtain ⟨tw, t1, dt1⟩ := W1.td
      have twl : tw.length = paths.length := by have := dt1.length; rw [List.length_map, W1.len] at this; exact this
      have vwl : vw.length = paths.length := by have := d1.length; rw [List.length_map, List.length_map] at this; exact this
      refine ⟨a.pp, a.tp, vp, as.map V.ref, rfl, SqL.of W1.ps.at_, ⟨_, SqL.of t1⟩, ⟨_, SqL.of e1⟩, fun rp nrp => ?_⟩
      have rp0 : H rp = none := s1.free nrp (by simp)
      refine lc_zip3 (ys := tw) (zs := vw) (fun i H' => Stp [] H1 H' ∧ ∃ acc : List V, H' rp = some (.lst acc) ∧ NwsAt K (fun l => H l = none ∧ l ≠ rp) H' acc (newsR paths tv (paths.map (leadV (gOf cl))) i)) ⟨.new nrp, [], upd_same, .nil⟩ (by rw [List.length_map]; omega) (by rw [List.length_map]; omega) (fun i H' _ h => ⟨SqL.of (h.1.keep _ _ W1.ps.at_ (by simp)), SqL.of (h.1.keep _ _ t1 (by simp)), SqL.of (h.1.keep _ _ e1 (by simp))⟩) ?_ ?_
      · rintro i v t n T H2 hv ht hn hT ⟨s2, acc, r2, a2⟩
        obtain ⟨qa, p, hqa, hp, rfl, hl⟩ := (W1.ps.stp s2 (by simp) (by simp)).get hv
        obtain ⟨d3, hd3, dt⟩ := (DtsAt.stp s2 _ _ (vas_flat _) dt1).getV ht
        rw [List.getElem?_map] at hd3
        obtain ⟨ta, hta, rfl⟩ := Option.map_eq_some_iff.mp hd3
        obtain ⟨d4, hd4, dn⟩ := (DtsAt.stp s2 _ _ (vas_flat _) d1).getV hn
        rw [List.getElem?_map] at hd4
        obtain ⟨na, hna, rfl⟩ := Option.map_eq_some_iff.mp hd4
        have il := (List.getElem?_eq_some_iff.mp hp).1
        have accl : acc.length ≤ 100 := by
          rw [a2.len]
          exact Nat.le_trans (newsR_len ..) (by omega)
        have s3 : Stp [] H2 (upd H2 T (.tup [.ref qa, t, n])) := .new hT
        have t3 : upd H2 T (.tup [.ref qa, t, n]) T = some (.tup [.ref qa, t, n]) := upd_same
        have r3 := s3.keep _ _ r2 (by simp)
        have a3 := a2.stp s3 (by simp)
        have hl := s3.keep _ _ hl (by simp)
        have dt := DtAt.stp s3 _ _ (vaD_flat _) dt
        have dn := DtAt.stp s3 _ _ (vaD_flat _) dn
        have s3 := s2.trans s3
        generalize upd H2 T (.tup [.ref qa, t, n]) = H3 at s3 t3 r3 a3 hl dt dn ⊢
        clear s2 r2 a2
        rw [newsR_succ, newsAt_of hp hta hna]
        refine i_gTup (TupAt.sqt (.inl t3)) rfl ?_
        repeat walk_at "h"
        refine ⟨rfl, ?_⟩
        repeat walk_at "h"
        refine i_NeT dn dt ?_ (va_dep _) (va_dep _)
        rw [va_beq]
        by_cases e : na = ta
        · rw [decide_eq_true e, if_pos e]
          refine ⟨false, rfl, iteF ?_⟩
          exact ⟨s3, acc, r3, by rw [show (none : Option News).toList = [] from rfl, List.append_nil]; exact a3⟩
        · rw [decide_eq_false e, if_neg e]
          refine ⟨true, rfl, iteT ?_⟩
          repeat walk_at "h"
          refine ⟨qa, _, rfl, .inl (SqL.of hl), fun l nl => ?_⟩
          have s4 : Stp [] H3 (upd H3 l (.lst (p.map V.str))) := .new nl
          have l4 : upd H3 l (.lst (p.map V.str)) l = some (.lst (p.map V.str)) := upd_same
          have r4 := s4.keep _ _ r3 (by simp)
          have a4 := a3.stp s4 (by simp)
          have dt := DtAt.stp s4 _ _ (vaD_flat _) dt
          have dn := DtAt.stp s4 _ _ (vaD_flat _) dn
          have l0 : H l = none := (s1.trans s3).free nl (by simp)
          have lr : l ≠ rp := fun z => by rw [z, r3] at nl; cases nl
          have s4 := s3.trans s4
          generalize upd H3 l (.lst (p.map V.str)) = H4 at s4 l4 r4 a4 dt dn ⊢
          clear s3 t3 r3 a3 hl nl
          repeat walk_at "h"
          refine ⟨(by decide : 3 ≤ sizeLine), fun u nu => ?_⟩
          have s5 : Stp [] H4 (upd H4 u (.tup [.ref l, t, n])) := .new nu
          have u5 : TupAt K (upd H4 u (.tup [.ref l, t, n])) u [.ref l, t, n] := .inl upd_same
          have r5 := s5.keep _ _ r4 (by simp)
          have a5 := a4.stp s5 (by simp)
          have l5 := s5.keep _ _ l4 (by simp)
          have dt := DtAt.stp s5 _ _ (vaD_flat _) dt
          have dn := DtAt.stp s5 _ _ (vaD_flat _) dn
          have s5 := s4.trans s5
          generalize upd H4 u (.tup [.ref l, t, n]) = H5 at s5 u5 r5 a5 l5 dt dn ⊢
          have s6 : Stp [rp] H5 (upd H5 rp (.lst (acc ++ [.ref u]))) := .wr (by simp) r5 fun _ z => nomatch z
          refine ⟨acc, r5, Nat.lt_of_le_of_lt accl (by decide), s5.mut nrp, _, upd_same, ?_⟩
          exact (a5.stp s6 fun l o => by simpa using o.2).snoc (x := (p, ta, na)) (u5.stp s6) (s6.keep _ _ l5 (by simpa using lr)) ⟨l0, lr⟩ (DtAt.stp s6 _ _ (vaD_flat _) dt) (DtAt.stp s6 _ _ (vaD_flat _) dn)
      · rintro H2 ⟨s2, acc, r2, a2⟩
        rw [List.length_map, al] at a2
        have W2 := W1.stp s2 (by simp)
        have e2 := s2.keep _ _ e1 (by simp)
        have d2 := DtsAt.stp s2 _ _ (vas_flat _) d1
        have s02 := s1.trans s2
        have xv : a.x ≠ vp := fun z => by have := W1.at_; rw [z, e1] at this; cases this
        have vf : vp ∉ wfoot a as := fun z => hW.there z nvp
        simp only [wfoot, List.mem_cons, not_or] at vf
        repeat walk_at "h"
        refine ⟨a.x, CW, a.dx, _, rfl, W2.at_, U.cls, U.state, (show 3 < 1000 by decide), i_setF W2.at_ fun H3 x3 s3 => ?_⟩
        have x3 : H3 a.x = some (.ins CW a.dx [(stateW, .ref x2), (pathsW, .ref a.pp), (toldW, .ref a.tp)]) := x3
        have e3 := s3.keep _ _ e2 (by simpa using xv.symm)
        have d3 := DtsAt.stp s3 _ _ (vas_flat _) d2
        have xr : a.x ≠ rp := fun z => by have := W1.at_; rw [z, nrp] at this; cases this
        have r3 := s3.keep _ _ r2 (by simpa using xr.symm)
        have a3 := a2.stp s3 fun l o => by
          simp only [List.mem_singleton]
          rintro rfl
          have := hW.at_; rw [o.1] at this; cases this
        have p3 := W2.ps.stp s3 (by simpa using W2.xp.1.symm) (fun b hb => by simpa using fun z => W2.ne.2.1 (by rw [← z]; exact hb))
        repeat walk_at "h"
        refine ⟨a.x, CW, a.dx, _, rfl, x3, U.cls, U.told, (show 3 < 1000 by decide), i_setF x3 fun H4 x4 s4 => ?_⟩
        have x4 : H4 a.x = some (.ins CW a.dx [(stateW, .ref x2), (pathsW, .ref a.pp), (toldW, .ref vp)]) := x4
        repeat walk_at "h"
        refine q rp vp acc H4 rp0 nvp (s4.keep _ _ r3 (by simpa using xr.symm)) ⟨a3.len, fun i v x hv hx => ?_⟩ ⟨x4, p3.stp s4 (by simpa using W2.xp.1.symm) (fun b hb => by simpa using fun z => W2.ne.2.1 (by rw [← z]; exact hb)), ⟨vw, s4.keep _ _ e3 (by simpa using xv.symm), DtsAt.stp s4 _ _ (vas_flat _) d3⟩, by rw [List.length_map], ⟨fun z => vf.2.1 z.symm, W2.ne.2.1, W2.ne.2.2.1, vf.2.2.2⟩⟩ (((s02.mono (by simp)).trans s3).trans s4)
        obtain ⟨t, l, u, n, e, ht, hl, o, du, dn⟩ := a3.at_ i v x hv hx
        exact ⟨t, l, u, n, e, ht.stp s4, s4.keep _ _ hl (by
          simp only [List.mem_singleton]
          rintro rfl
          have := hW.at_; rw [o.1] at this; cases this), o.1, DtAt.stp s4 _ _ (vaD_flat _) du, DtAt.stp s4 _ _ (vaD_flat _) dn⟩
end

/-! ### what changes touch -/
section
variable {P : Program} {w : World} {K : PySem.W.Frag} {mg : Str → Option Value} {base : Heap} {CS CW : Addr}
theorem keyC_kvD (k : KV2) : (kvD k).key = keyC k := rfl
theorem valV_some (kvs : List NKV) (k : NestedKey) : (valV kvs k).isSome = decide (k ∈ kvs.map (·.1)) := by
  cases h : valV kvs k with
  | none =>
    refine (decide_eq_false fun z => ?_).symm
    obtain ⟨kv, h1, h2⟩ := List.mem_map.mp z
    unfold valV at h
    simp only [Option.map_eq_none_iff, List.find?_eq_none] at h
    exact h kv h1 (by simp [h2])
  | some v =>
    refine (decide_eq_true ?_).symm
    unfold valV at h
    obtain ⟨kv, h1, h2⟩ := Option.map_eq_some_iff.mp h
    have h3 := List.find?_some h1
    exact List.mem_map.mpr ⟨kv, List.mem_of_find?_eq_some h1, by simpa using h3⟩
def keysCh (cs : List Ch) : List KV2 := cs.map fun c => (c.nm, c.fd)
def touAt (g : KV2 → Va) (paths : List (List Str)) (keys : List KV2) (j : Nat) : Bool := ((paths[j]?).map fun p => (ask g p).any fun k => decide (k ∈ keys)).getD false
def touL (g : KV2 → Va) (paths : List (List Str)) (keys : List KV2) (n : Nat) : List Int := ((List.range n).filter (touAt g paths keys)).map fun j : Nat => (j : Int)
theorem touL_succ (g : KV2 → Va) (paths : List (List Str)) (keys : List KV2) (n : Nat) : touL g paths keys (n + 1) = touL g paths keys n ++ if touAt g paths keys n = true then [(n : Int)] else [] := by
  unfold touL
  rw [List.range_succ, List.filter_append, List.map_append]
  cases h : touAt g paths keys n <;> simp [h]
theorem touL_len (g : KV2 → Va) (paths : List (List Str)) (keys : List KV2) (n : Nat) : (touL g paths keys n).length ≤ n := by
  unfold touL
  rw [List.length_map]
  refine Nat.le_trans (List.length_filter_le ..) ?_
  rw [List.length_range]; exact Nat.le_refl n
theorem ask_len (g : KV2 → Va) (p : List Str) : (ask g p).length ≤ p.length := by
  have := (ask_ok g p p.length (Nat.le_refl _)).le
  rwa [List.take_length] at this
def spTouched (P : Program) (w : World) (K : PySem.W.Frag) (C CS : Addr) : Sp := fun vs H Q _ => ∃ (a : WA) (st sx d r : Addr) (cl : List Cel) (as : List Addr) (paths : List (List Str)) (tv : List Va) (ws : List V) (cs : List Ch), vs = [.ref a.x, .ref r] ∧ WaAt K C H a st as paths tv ∧ StR P w K CS H st sx d cl ∧ paths.length ≤ 100 ∧ (∀ p ∈ paths, p.length ≤ 100) ∧ H r = some (.lst ws) ∧ DtsAt K H ws (cs.map chD) ∧ cs.length ≤ 100 ∧
  ∀ (p : Addr) (H1 : Hp), H p = none → H1 p = some (.lst ((touL (gOf cl) paths (keysCh cs) paths.length).map V.int)) → Stp [] H H1 → Q (.ref p) H1
theorem mth_Watcher_touched (F : Dfm K CW d_Watcher_touched) (B : Blt mg) (U : WaC K CW) (C_cells_of : Cal P w K mg base lv_cells_of "cells_of" ["state", "path"] (spCellsOf P w K CS)) : Mth P w K mg base lv_Watcher_touched CW "touched" ["self", "changes"] (spTouched P w K CW CS) := by
  obtain ⟨f, fd, F, g⟩ := F
  refine ⟨f, fd, F.ok sc_Watcher_touched (fun vs H Q E h => ?_) (fun cdv A outer s H vs Q E hr h => ⟨_, PSs.nox
    (pss_cons (ps_set (i := 2) sc_Watcher_touched.nd rfl (Or.inr rfl) (pe_dn (P := P) (w := w) (K := K) (own := [("_", 3), ("name", 4), ("field", 5)]) (g := gTup _ 4 (gCons (gName 3) (gCons (gName 4) (gCons (gName 5) (gCons (gName 3) gNil))))) rfl rfl rfl hr (by rfl) sc_Watcher_touched.nd (pi_list (pv 1)) (blkOk_by (N := ["self", "changes", "cells", "_", "name", "field", "at", "path", "cell"]) (own := [("_", 3), ("name", 4), ("field", 5)]) (sc := defScope s_Watcher_touched) (by decide +kernel)) (fun _ _ _ _ _ => (pg_tup (by rfl) (pgs_cons (pg_name (i := 3) sc_Watcher_touched.nd rfl (Or.inl rfl)) (pgs_cons (pg_name (i := 4) sc_Watcher_touched.nd rfl (Or.inl rfl)) (pgs_cons (pg_name (i := 5) sc_Watcher_touched.nd rfl (Or.inl rfl)) (pgs_cons (pg_name (i := 3) sc_Watcher_touched.nd rfl (Or.inl rfl)) pgs_nil)))))) (fun _ _ _ _ _ => pts_nil) (fun _ _ _ _ _ => (pe_tup (pa_cons (pv 4) (pa_cons (pv 5) pa_nil)))) (fun _ _ _ _ _ => pe_bl)))
    (pss_one (ps_ret (pe_lc (own := [("at", 6), ("path", 7)]) (g := gTup _ 2 (gCons (gName 6) (gCons (gName 7) gNil))) (by rfl) sc_Watcher_touched.nd (pi_enum (by rfl) B.enumerate (pa_cons (pe_fld (pv 0) rfl) pa_nil)) (blkOk_by (N := ["self", "changes", "cells", "_", "name", "field", "at", "path", "cell"]) (own := [("at", 6), ("path", 7)]) (sc := defScope s_Watcher_touched) (by decide +kernel)) (fun _ _ _ _ _ => (pg_tup (by rfl) (pgs_cons (pg_name (i := 6) sc_Watcher_touched.nd rfl (Or.inl rfl)) (pgs_cons (pg_name (i := 7) sc_Watcher_touched.nd rfl (Or.inl rfl)) pgs_nil)))) (fun _ _ _ _ _ => (pts_one (pt_val (pe_callB (cr_anyK (K := K) rfl rfl) (by rfl) B.any (by decide +kernel) (pa_cons (pe_lc (own := [("cell", 8)]) (g := gName 8) (by rfl) sc_Watcher_touched.nd (pi_listK (K := K) rfl (pc_call C_cells_of (hr.mono (by decide)) (by rfl) (pa_cons (pe_fldK (K := K) rfl (pv 0) rfl) (pa_cons (pv 7) pa_nil)))) (blkOk_by (N := ["self", "changes", "cells", "_", "name", "field", "at", "path", "cell"]) (own := [("cell", 8)]) (sc := _) (by rfl)) (fun _ _ _ _ _ => (pg_name (i := 8) sc_Watcher_touched.nd rfl (Or.inl rfl))) (fun _ _ _ _ _ => pts_nil) (fun _ _ _ _ _ => (pe_cmp (pc_ninK (P := P) (w := w) (K := K) rfl rfl rfl hr (pv 8) (pv 2))))) pa_nil))))) (fun _ _ _ _ _ => (pv 6)))))), ?_⟩), g, F.kp, F.bindsN fun _ _ _ _ _ _ us hl => match us, hl with | [_, _], _ => rfl⟩
  · obtain ⟨a, st, sx, d, r, cl, as, paths, tv, ws, cs, rfl, _⟩ := h
    rfl
  · obtain ⟨a, st, sx, d, r, cl, as, paths, tv, ws, cs, rfl, hW, hS, psl, pll, hr1, hd, csl, q⟩ := h
    have wl : ws.length = cs.length := by have := hd.length; rwa [List.length_map] at this
    repeat walk_at "h"
    refine i_Dn ?_
    repeat walk_at "h"
    refine ⟨r, rfl, ⟨ws, SqL.of hr1⟩, fun D H2 hD nd0 s0 => ?_⟩
    refine dn_list (P := P) (w := w) (K := K) (xs := ws) (fun i H' => Stp [] H H' ∧ ∃ kvs, ND P w K H' D kvs ∧ (∀ k : KV2, keyC k ∈ kvs.map (·.1) ↔ k ∈ keysCh (cs.take i)) ∧ kvs.length ≤ i)
      ⟨s0, [], nd0, by simp [keysCh], Nat.le_refl _⟩ (fun i H' _ ⟨h, _⟩ => SqL.of (h.keep _ _ hr1 (by simp))) ?_ ?_
    · rintro i x H1 hx ⟨s1, kvs, nd1, hk1, ln1⟩
      obtain ⟨c, hc, dc⟩ := ch_get (chs_stp hd s1) hx
      obtain ⟨ca, sv, n, v, rfl, hca, hsv, hn, hv⟩ := chAt dc
      have hi : i < ws.length := (List.getElem?_eq_some_iff.mp hx).1
      refine i_gTup hca.sqt rfl ?_
      repeat walk_at "h"
      refine ⟨rfl, i_Yes ?_⟩
      refine i_ite (fun _ => ?_) (fun z => nomatch z)
      repeat walk_at "h"
      refine ⟨(by decide : 2 ≤ sizeLine), fun t nt => ?_⟩
      have s2 : Stp [] H1 (upd H1 t (.tup [n, .str c.fd])) := .new nt
      have k2 : KyAt K (upd H1 t (.tup [n, .str c.fd])) (.ref t) (keyC (c.nm, c.fd)) := key_mk (.inl upd_same) (DtAt.stp s2 _ _ rfl hn)
      have nd2 := nd1.stp s2 (by simp)
      have s2 := s1.trans s2
      generalize upd H1 t (.tup [n, .str c.fd]) = H2' at s2 k2 nd2 ⊢
      repeat walk_at "h"
      refine ⟨t, kvs, keyC (c.nm, c.fd), rfl, nd2, k2, Nat.lt_of_le_of_lt (show kvs.length ≤ 1000 by omega) (by decide), fun H6 nd6 st6 => ⟨s2.into hD st6, _, nd6, fun k => ?_, ?_⟩⟩
      · have tk : cs.take (i + 1) = cs.take i ++ [c] := by rw [List.take_add_one, hc]; rfl
        have ek : keysCh (cs.take i ++ [c]) = keysCh (cs.take i) ++ [(c.nm, c.fd)] := by simp [keysCh]
        rw [tk, ek, List.mem_append, List.mem_singleton, ← hk1, putK_keys]
        split
        · rename_i h1
          constructor
          · exact .inl
          · rintro (z | z)
            · exact z
            · obtain ⟨kv, h2, h3⟩ := List.any_eq_true.mp h1
              rw [z, ← of_decide_eq_true h3]
              exact List.mem_map.mpr ⟨kv, h2, rfl⟩
        · rw [List.mem_append, List.mem_singleton]
          exact ⟨fun z => z.imp id keyC_inj, fun z => z.imp id fun e => by rw [e]⟩
      · have h1 := congrArg List.length (putK_keys kvs (keyC (c.nm, c.fd)) (.bl true))
        rw [List.length_map] at h1
        rw [h1]
        split <;> simp <;> omega
    · rintro H1 ⟨s1, kvs, nd1, hk1, ln1⟩
      rw [wl, List.take_length] at hk1
      have W1 := hW.stp s1 (by simp)
      repeat walk_at "h"
      refine i_Lc (i_Enum1 ?_)
      repeat walk_at "h"
      refine ⟨a.x, CW, a.dx, _, _, rfl, W1.at_, U.cls, U.paths, rfl, ?_⟩
      repeat walk_at "h"
      refine ⟨a.pp, as.map V.ref, rfl, SqL.of W1.ps.at_, fun rp nrp => ?_⟩
      have rp0 : H rp = none := s1.free nrp (by simp)
      have al : as.length = paths.length := hW.ps.len
      refine lc_enum (fun i H' => Stp [] H1 H' ∧ H' rp = some (.lst ((touL (gOf cl) paths (keysCh cs) i).map V.int))) ⟨.new nrp, upd_same⟩ (fun i H' _ h => SqL.of (h.1.keep _ _ W1.ps.at_ (by simp))) ?_ ?_
      · rintro i v T H2 hv hT ⟨s2, r2⟩
        obtain ⟨qa, p, hqa, hp, rfl, hl⟩ := (W1.ps.stp s2 (by simp) (by simp)).get hv
        have il := (List.getElem?_eq_some_iff.mp hp).1
        have s3 : Stp [] H2 (upd H2 T (.tup [.int (i : Nat), .ref qa])) := .new hT
        have t3 : upd H2 T (.tup [.int (i : Nat), .ref qa]) T = some (.tup [.int (i : Nat), .ref qa]) := upd_same
        have r3 := s3.keep _ _ r2 (by simp)
        have hl := s3.keep _ _ hl (by simp)
        have s3 := s2.trans s3
        generalize upd H2 T (.tup [.int (i : Nat), .ref qa]) = H3 at s3 t3 r3 hl ⊢
        have W3 := W1.stp s3 (by simp)
        have nd3 := nd1.stp s3 (by simp)
        refine i_gTup (TupAt.sqt (.inl t3)) rfl ?_
        repeat walk_at "h"
        refine ⟨rfl, ?_⟩
        repeat walk_at "h"
        refine i_Lc (i_List ?_)
        repeat walk_at "h"
        refine ⟨a.x, CW, a.dx, _, _, rfl, W3.at_, U.cls, U.state, rfl, ?_⟩
        repeat walk_at "h"
        refine ⟨st, sx, d, qa, cl, p, rfl, hS.stp (s1.trans s3) (by simp) (by simp), hl, pll p (List.mem_of_getElem? hp), fun kp kw H4 nkp hkp dk s4 => ?_⟩
        have nd4 := nd3.stp s4 (by simp)
        have r4 := s4.keep _ _ r3 (by simp)
        have s4 := s3.trans s4
        have kwl : kw.length = (ask (gOf cl) p).length := by have := dk.length; rwa [List.length_map] at this
        have askl := ask_len (gOf cl) p
        have pl100 := pll p (List.mem_of_getElem? hp)
        clear s2 r2 hT t3 r3 s3 W3 nd3 hv
        refine ⟨kp, rfl, ⟨_, SqL.of hkp⟩, fun bp nbp => ?_⟩
        refine lc_list (xs := kw) (fun j H' => Stp [] H4 H' ∧ H' bp = some (.lst ((((ask (gOf cl) p).take j).map fun k => decide (k ∈ keysCh cs)).map V.bl))) ⟨.new nbp, upd_same⟩ (fun j H' _ h => SqL.of (h.1.keep _ _ hkp (by simp))) ?_ ?_
        · rintro j v H5 hv ⟨s5, b5⟩
          obtain ⟨dd, hdd, dv⟩ := (DtsAt.stp s5 _ _ (kvs_flat _) dk).getV hv
          rw [List.getElem?_map] at hdd
          obtain ⟨k, hk, rfl⟩ := Option.map_eq_some_iff.mp hdd
          have jl := (List.getElem?_eq_some_iff.mp hk).1
          obtain ⟨kt, rfl⟩ : ∃ kt, v = .ref kt := by
            cases dv with
            | tup h1 h2 => exact ⟨_, rfl⟩
          refine ⟨rfl, i_Yes ?_⟩
          refine i_ite (fun _ => ?_) (fun z => nomatch z)
          repeat walk_at "h"
          refine ⟨D, kt, kvs, keyC k, rfl, rfl, (nd4.stp s5 (by simp)).r, KyAt.of dv (by simp [kvD, Dt.flat, Dt.flatAll]) (by simp [kvD, Dt.depth, Dt.depthAll]), ?_⟩
          rw [valV_some, show decide (keyC k ∈ kvs.map (·.1)) = decide (k ∈ keysCh cs) from by rw [decide_eq_decide]; exact hk1 k]
          refine ⟨_, b5, Nat.lt_of_le_of_lt (show _ ≤ 100 by rw [List.length_map, List.length_map, List.length_take]; omega) (by decide), s5.mut nbp, ?_⟩
          rw [upd_same, List.take_add_one, hk, List.map_append, List.map_append]; rfl
        · rintro H5 ⟨s5, b5⟩
          rw [kwl, List.take_length] at b5
          have r5 := s5.keep _ _ r4 (by simp)
          have s5 := s4.trans s5
          repeat walk_at "h"
          refine ⟨bp, _, rfl, SqL.of b5, ?_⟩
          have et : (((ask (gOf cl) p).map fun k => decide (k ∈ keysCh cs)).any id) = touAt (gOf cl) paths (keysCh cs) i := by
            unfold touAt
            rw [hp, List.any_map]
            rfl
          rw [et, touL_succ]
          refine ⟨_, rfl, ?_⟩
          have tl := touL_len (gOf cl) paths (keysCh cs) i
          cases hb : touAt (gOf cl) paths (keysCh cs) i with
          | true =>
            refine iteT ?_
            repeat walk_at "h"
            refine ⟨_, r5, Nat.lt_of_le_of_lt (show _ ≤ 100 by rw [List.length_map]; omega) (by decide), s5.mut nrp, ?_⟩
            rw [upd_same, if_pos rfl, List.map_append]; rfl
          | false =>
            refine iteF ?_
            exact ⟨s5, by rw [if_neg (by simp), List.append_nil]; exact r5⟩
      · rintro H2 ⟨s2, r2⟩
        rw [List.length_map, al] at r2
        exact q rp H2 rp0 r2 (s1.trans s2)
end

/-! ### what can be shown -/
section
variable {P : Program} {w : World} {K : PySem.W.Frag} {mg : Str → Option Value} {base : Heap} {CS : Addr}
theorem txt_brief {z : Str} (h : z ∈ textsD ∨ z ∈ fieldsD) : (Dt.txt z).brief = true ∧ (Dt.txt z).mass ≤ 4 := by
  have e : ∀ z ∈ textsD ++ fieldsD, (Dt.txt z).brief = true ∧ (Dt.txt z).mass ≤ 4 := by decide +kernel
  exact e z (by rcases h with h | h <;> simp [h])
theorem nm4_brief {n : Nm} (h : n ∈ names4) : (nmD n).brief = true ∧ (nmD n).mass ≤ 2 := by
  have e : ∀ n ∈ names4, (nmD n).brief = true ∧ (nmD n).mass ≤ 2 := by decide +kernel
  exact e n h
theorem va_brief {x : Va} (h : drawnVaD names4 x) : (vaD x).brief = true ∧ (vaD x).mass ≤ 10 := by
  cases x with
  | non => exact ⟨rfl, Nat.zero_le _⟩
  | num i =>
    obtain ⟨h1, h2⟩ : -4 ≤ i ∧ i ≤ 4 := h
    refine ⟨?_, Nat.zero_le _⟩
    show decide (i.natAbs < 10 ^ 12) = true
    exact decide_eq_true (by omega)
  | txt z =>
    have h : z ∈ textsD := h
    have := txt_brief (.inl h)
    exact ⟨this.1, by have := this.2; show (Dt.txt z).mass ≤ 10; omega⟩
  | tg s n =>
    obtain ⟨rfl, hn⟩ : s = strRef ∧ n ∈ names4 := h
    obtain ⟨h1, h2⟩ := nm4_brief hn
    have e : (Dt.txt strRef).brief = true ∧ (Dt.txt strRef).mass = 3 := by decide +kernel
    refine ⟨?_, ?_⟩
    · show Dt.briefAll [.txt strRef, nmD n] = true
      rw [Dt.briefAll, Dt.briefAll, Dt.briefAll, e.1, h1]; rfl
    · show Dt.massAll [.txt strRef, nmD n] ≤ 10
      rw [Dt.massAll, Dt.massAll, Dt.massAll, e.2]
      omega
theorem va_shows {x : Va} (h : drawnVaD names4 x) : (vaD x).Shows := by
  obtain ⟨h1, h2⟩ := va_brief h
  exact Dt.shows_of h1 (Nat.le_trans h2 (by decide)) (va_dep x)
theorem list_shows {α : Type} {f : α → Dt} {n d : Nat} {l : List α} (ll : l.length ≤ 100) (n9 : n ≤ 1000) (dd : d ≤ 50) (h : ∀ x ∈ l, ((f x).brief = true ∧ (f x).mass ≤ n) ∧ (f x).depth ≤ d) : (Dt.lst (l.map f)).Shows := by
  refine Dt.shows_of ?_ ?_ ?_
  · rw [Dt.brief]
    exact briefAll_map f l fun x hx => (h x hx).1.1
  · rw [Dt.mass]
    have h1 := massAll_map f n l fun x hx => (h x hx).1.2
    have h2 : (n + 1) * l.length ≤ 1001 * 100 := Nat.mul_le_mul (by omega) ll
    have e : (2 : Nat) ^ 20 = 1048576 := by decide
    omega
  · rw [Dt.depth]
    have := depthAll_map f d l fun x hx => (h x hx).2
    omega
theorem vals_shows {xs : List Va} (h : ∀ x ∈ xs, drawnVaD names4 x) (l : xs.length ≤ 100) : (Dt.lst (xs.map vaD)).Shows :=
  list_shows (n := 10) (d := 2) l (by decide) (by decide) fun x hx => ⟨va_brief (h x hx), vaD_depth x⟩
theorem keys_shows {ks : List KV2} (h : ∀ k ∈ ks, k.1 ∈ names4 ∧ k.2 ∈ fieldsD) (l : ks.length ≤ 100) : (Dt.lst (ks.map kvD)).Shows :=
  list_shows (n := 10) (d := 2) l (by decide) (by decide) fun k hk => by
    obtain ⟨h1, h2⟩ := h k hk
    obtain ⟨a1, a2⟩ := nm4_brief h1
    obtain ⟨b1, b2⟩ := txt_brief (.inr h2)
    refine ⟨⟨?_, ?_⟩, by simp [kvD, Dt.depth, Dt.depthAll]⟩
    · show Dt.briefAll [nmD k.1, .txt k.2] = true
      rw [Dt.briefAll, Dt.briefAll, Dt.briefAll, a1, b1]; rfl
    · show Dt.massAll [nmD k.1, .txt k.2] ≤ 10
      rw [Dt.massAll, Dt.massAll, Dt.massAll]
      omega
theorem path_brief {p : List Str} (h : okPath p) : (pathD p).brief = true ∧ (pathD p).mass ≤ 20 := by
  refine ⟨?_, ?_⟩
  · show Dt.briefAll (p.map Dt.txt) = true
    exact briefAll_map Dt.txt p fun x hx => (txt_brief (.inr (h.2 x hx))).1
  · show Dt.massAll (p.map Dt.txt) ≤ 20
    have h1 := massAll_map Dt.txt 4 p fun x hx => (txt_brief (.inr (h.2 x hx))).2
    have h2 := h.1
    omega
theorem news_shows {xs : List News} (h : ∀ x ∈ xs, okPath x.1 ∧ drawnVaD names4 x.2.1 ∧ drawnVaD names4 x.2.2) (l : xs.length ≤ 100) : (Dt.lst (xs.map newsD)).Shows :=
  list_shows (n := 50) (d := 3) l (by decide) (by decide) fun x hx => by
    obtain ⟨h1, h2, h3⟩ := h x hx
    obtain ⟨a1, a2⟩ := path_brief h1
    obtain ⟨b1, b2⟩ := va_brief h2
    obtain ⟨c1, c2⟩ := va_brief h3
    refine ⟨⟨?_, ?_⟩, ?_⟩
    · show Dt.briefAll [pathD x.1, vaD x.2.1, vaD x.2.2] = true
      rw [Dt.briefAll, Dt.briefAll, Dt.briefAll, Dt.briefAll, a1, b1, c1]; rfl
    · show Dt.massAll [pathD x.1, vaD x.2.1, vaD x.2.2] ≤ 50
      rw [Dt.massAll, Dt.massAll, Dt.massAll, Dt.massAll]
      omega
    · have d1 := path_dep x.1
      have d2 := vaD_depth x.2.1
      have d3 := vaD_depth x.2.2
      simp only [newsD, Dt.depth, Dt.depthAll]
      omega
/-- values are told apart by what is shown -/
def valsD : List Va := [.non] ++ textsD.map Va.txt ++ ([-4, -3, -2, -1, 0, 1, 2, 3, 4] : List Int).map Va.num ++ names4.map (Va.tg strRef)
theorem valsD_of {x : Va} (h : drawnVaD names4 x) : x ∈ valsD := by
  cases x with
  | non => simp [valsD]
  | num i =>
    obtain ⟨h1, h2⟩ : -4 ≤ i ∧ i ≤ 4 := h
    have : i ∈ ([-4, -3, -2, -1, 0, 1, 2, 3, 4] : List Int) := by simp only [List.mem_cons, List.not_mem_nil, or_false]; omega
    simp only [valsD, List.mem_append, List.mem_map]
    exact .inl (.inr ⟨i, this, rfl⟩)
  | txt z =>
    have h : z ∈ textsD := h
    simp only [valsD, List.mem_append, List.mem_map]
    exact .inl (.inl (.inr ⟨z, h, rfl⟩))
  | tg s n =>
    obtain ⟨rfl, hn⟩ : s = strRef ∧ n ∈ names4 := h
    simp only [valsD, List.mem_append, List.mem_map]
    exact .inr ⟨n, hn, rfl⟩
theorem shown_inj {x y : Va} (hx : drawnVaD names4 x) (hy : drawnVaD names4 y) (h : (vaD x).shown = (vaD y).shown) : x = y := by
  have e : ∀ x ∈ valsD, ∀ y ∈ valsD, (vaD x).shown = (vaD y).shown → x = y := by decide +kernel
  exact e x (valsD_of hx) y (valsD_of hy) h
theorem shown_dec {x y : Va} (hx : drawnVaD names4 x) (hy : drawnVaD names4 y) : decide (V.str (vaD x).shown = V.str (vaD y).shown) = decide (x = y) := by
  rw [decide_eq_decide]
  exact ⟨fun h => shown_inj hx hy (by injection h), fun h => by rw [h]⟩
def OkG (g : KV2 → Va) : Prop := ∀ k, drawnVaD names4 (g k)
theorem fol_drawn {g : KV2 → Va} (h : OkG g) (p : List Str) : ∀ x ∈ fol g p, drawnVaD names4 x := by
  unfold fol
  suffices s : ∀ (fs : List Str) (vs : List Va), (∀ x ∈ vs, drawnVaD names4 x) → ∀ x ∈ fs.foldl (folS g) vs, drawnVaD names4 x from s p _ fun x hx => by
    rw [List.mem_singleton.mp hx]
    exact ⟨rfl, by decide⟩
  intro fs
  induction fs with
  | nil => exact fun vs hv => hv
  | cons f fs ih =>
    intro vs hv
    rw [List.foldl_cons]
    refine ih _ fun x hx => ?_
    unfold folS at hx
    split at hx
    · exact hv x hx
    · rcases List.mem_append.mp hx with z | z
      · exact hv x z
      · rw [List.mem_singleton.mp z]; exact h _
theorem lead_drawn {g : KV2 → Va} (h : OkG g) (p : List Str) : drawnVaD names4 (leadV g p) := by
  unfold leadV
  split
  · trivial
  · have l := fol_len g p
    have ne : fol g p ≠ [] := fun z => by rw [z] at l; simp at l
    exact fol_drawn h p _ (List.mem_of_getElem? (lastV_get ne))
theorem ask_in {g : KV2 → Va} (h : OkG g) (p : List Str) : ∀ k ∈ ask g p, k.1 ∈ names4 ∧ k.2 ∈ p := by
  intro k hk
  obtain ⟨j, hj⟩ := List.getElem?_of_mem hk
  have ok := ask_ok g p p.length (Nat.le_refl _)
  rw [List.take_length] at ok
  obtain ⟨⟨x, hx, e⟩, hp⟩ := ok.at_ j k hj
  have e1 : (List.foldl (askS g) ([rootV], []) p).1 = fol g p := ask_fol g p
  rw [e1] at hx
  have dx := fol_drawn h p x (List.mem_of_getElem? hx)
  refine ⟨?_, List.mem_of_getElem? hp⟩
  cases x with
  | tg s n =>
    have e : some n = some k.1 := e
    cases e
    exact dx.2
  | non => cases e
  | num i => cases e
  | txt z => cases e
theorem once_in {g : KV2 → Va} (h : OkG g) (p : List Str) : ∀ k ∈ onceK (ask g p), k.1 ∈ names4 ∧ k.2 ∈ p := fun k hk => ask_in h p k (((onceK_mem (ask g p) [] k).mp hk).resolve_left (by simp))
end

/-! ### the law's looks -/
section
variable {P : Program} {w : World} {K : PySem.W.Frag} {mg : Str → Option Value} {base : Heap} {CS : Addr}
def spRight (P : Program) (w : World) (K : PySem.W.Frag) (CS : Addr) : Sp := fun vs H Q _ => ∃ (x dx d dc fp : Addr) (cl : List Cel) (as : List Addr) (paths : List (List Str)), vs = [.ref x, .ref dc, .ref fp] ∧ StR P w K CS H x dx d cl ∧ CelAt P w K H dc cl ∧ PsAt H fp as paths ∧ okPaths paths ∧ OkG (gOf cl) ∧ ∀ H1, Stp [] H H1 → Q (.bl true) H1
theorem cal_law_right (F : Df K mg d_law_right) (B : Blt mg) (C_law_walk : Cal P w K mg base lv_law_walk "_law_walk" ["cells", "path"] (spWalk P w K)) (C_law_same : CalG P w K mg base lv_law_same "_law_same" ["one", "other"] (spSame2 K)) (C_follow : Cal P w K mg base lv_follow "follow" ["state", "path"] (spFol P w K CS)) (C_value_at : Cal P w K mg base lv_value_at "value_at" ["state", "path"] (spLead P w K CS)) (C_law_once : Cal P w K mg base lv_law_once "_law_once" ["rows"] (spOnce K)) (C_cells_of : Cal P w K mg base lv_cells_of "cells_of" ["state", "path"] (spCellsOf P w K CS)) : CalG P w K mg base lv_law_right "_law_right" ["state", "cells", "paths"] (spRight P w K CS) := by
  obtain ⟨f, fd, F, g⟩ := F
  refine ⟨f, fd, GT.FunD.okG F sc_law_right (fun vs H Q E h => ?_) (fun cdv A outer s H vs Q E hr hG h => ⟨_, PSs.nox
    (pss_cons (ps_for PassesOwn.never rfl (pi_list (pv 2)) (pg_name (i := 3) sc_law_right.nd rfl (Or.inl rfl))
      (pss_cons (ps_asg (pc_call C_law_walk (hr.mono (by decide)) (by rfl) (pa_cons (pv 1) (pa_cons (pv 3) pa_nil))) (pg_lst (by rfl) (pgs_cons (pg_name (i := 4) sc_law_right.nd rfl (Or.inl rfl)) (pgs_cons (pg_name (i := 5) sc_law_right.nd rfl (Or.inl rfl)) (pgs_cons (pg_name (i := 6) sc_law_right.nd rfl (Or.inl rfl)) pgs_nil)))))
        (pss_cons (ps_set (i := 7) sc_law_right.nd rfl (Or.inl rfl) (pe_callTy call_list_of (by rfl) B.list (by decide +kernel) (pa_cons (pv 3) pa_nil)))
        (pss_cons (ps_if (PW.pt (pw_or (pt_not (pt_val (pc_callG C_law_same hG (hr.mono (by decide)) (by rfl) (pa_cons (pc_call C_follow (hr.mono (by decide)) (by rfl) (pa_cons (pv 0) (pa_cons (pv 3) pa_nil))) (pa_cons (pv 4) pa_nil))))) (pw_or (pt_not (pt_val (pc_callG C_law_same hG (hr.mono (by decide)) (by rfl) (pa_cons (pc_call C_value_at (hr.mono (by decide)) (by rfl) (pa_cons (pv 0) (pa_cons (pv 3) pa_nil))) (pa_cons (pv 6) pa_nil))))) (pw_or1 (pt_cmpR (op_neTK (K := K) rfl hr.units) (pv 3) (pv 7) (nomark _))))))
          (pss_one (ps_ret pe_bl))
          pss_nil)
        (pss_one (ps_if (pt_not (pt_val (pc_callG C_law_same hG (hr.mono (by decide)) (by rfl) (pa_cons (pc_call C_law_once (hr.mono (by decide)) (by rfl) (pa_cons (pc_call C_cells_of (hr.mono (by decide)) (by rfl) (pa_cons (pv 0) (pa_cons (pv 3) pa_nil))) pa_nil)) (pa_cons (pv 5) pa_nil)))))
          (pss_one (ps_ret pe_bl))
          pss_nil))))))
    (pss_one (ps_ret pe_bl))), ?_⟩), g, F.kp, F.bindsN fun _ _ _ _ _ _ us hl => match us, hl with | [_, _, _], _ => rfl⟩
  · obtain ⟨x, dx, d, dc, fp, cl, as, paths, rfl, _⟩ := h
    rfl
  · obtain ⟨x, dx, d, dc, fp, cl, as, paths, rfl, hS, hC, hP, okp, okg, q⟩ := h
    repeat walk_at "h"
    refine ⟨fp, rfl, ⟨_, SqL.of hP.at_⟩, ?_⟩
    refine for_list (xs := as.map V.ref) (fun i σ H' => ∃ (y3 y4 y5 y6 y7 : Option V), σ = [some (.ref x), some (.ref dc), some (.ref fp), y3, y4, y5, y6, y7] ∧ Stp [] H H')
      ⟨_, _, _, _, _, rfl, .refl _⟩ (fun i σ H' _ ⟨_, _, _, _, _, _, s⟩ => SqL.of (s.keep _ _ hP.at_ (by simp))) ?_ ?_
    · rintro i v σ H1 hv ⟨y3, y4, y5, y6, y7, rfl, s1⟩
      obtain ⟨qa, p, hqa, hp, rfl, hl⟩ := (hP.stp s1 (by simp) (by simp)).get hv
      have pin := List.mem_of_getElem? hp
      have okq := okp.2 p pin
      have p4 := okq.1
      repeat walk_at "h"
      refine ⟨dc, qa, cl, p, rfl, hC.stp s1 (by simp), hl, by omega, fun wp vp ap r H2 n1 n2 n3 wk s2 => ?_⟩
      have hl2 := s2.keep _ _ hl (by simp)
      have s12 := s1.trans s2
      repeat walk_at "h"
      obtain ⟨vw, ev, dv⟩ := wk.va
      obtain ⟨aw, ea, da⟩ := wk.aa
      refine ⟨wp, _, rfl, SqL.of wk.at_, rfl, ?_⟩
      repeat walk_at "h"
      refine ⟨qa, _, rfl, .inl (SqL.of hl2), fun kp nkp => ?_⟩
      have s3 : Stp [] H2 (upd H2 kp (.lst (p.map V.str))) := .new nkp
      have k3 : upd H2 kp (.lst (p.map V.str)) kp = some (.lst (p.map V.str)) := upd_same
      have hl3 := s3.keep _ _ hl2 (by simp)
      have ev3 := s3.keep _ _ ev (by simp)
      have dv3 := DtsAt.stp s3 _ _ (vas_flat _) dv
      have ea3 := s3.keep _ _ ea (by simp)
      have da3 := DtsAt.stp s3 _ _ (kvs_flat _) da
      have lv3 := DtAt.stp s3 _ _ (vaD_flat _) wk.lv
      have s13 := s12.trans s3
      generalize upd H2 kp (.lst (p.map V.str)) = H3 at s3 k3 hl3 ev3 dv3 ea3 da3 lv3 s13 ⊢
      clear s2 s12 s3 hl hl2 wk ev dv ea da nkp
      have fl := fol_len (gOf cl) p
      repeat walk_at "h"
      refine ⟨x, dx, d, qa, cl, p, rfl, hS.stp s13 (by simp) (by simp), hl3, by omega, fun lp lw H4 nlp e4 d4 s4 => ?_⟩
      have dsh : (Dt.lst ((fol (gOf cl) p).map vaD)).Shows := vals_shows (fol_drawn okg p) (by omega)
      repeat walk_at "h"
      refine same_of (d := .lst ((fol (gOf cl) p).map vaD)) (.lst (SqL.of e4) d4) (.lst (SqL.of (s4.keep _ _ ev3 (by simp))) (DtsAt.stp s4 _ _ (vas_flat _) dv3)) dsh ?_
      repeat walk_at "h"
      refine iteF ?_
      have hl4 := s4.keep _ _ hl3 (by simp)
      have k4 := s4.keep _ _ k3 (by simp)
      have ea4 := s4.keep _ _ ea3 (by simp)
      have da4 := DtsAt.stp s4 _ _ (kvs_flat _) da3
      have lv4 := DtAt.stp s4 _ _ (vaD_flat _) lv3
      have s14 := s13.trans s4
      clear s13 s4 hl3 k3 ev3 dv3 ea3 da3 lv3 e4 d4
      repeat walk_at "h"
      refine ⟨x, dx, d, qa, cl, p, rfl, hS.stp s14 (by simp) (by simp), hl4, by omega, fun u H5 du s5 => ?_⟩
      repeat walk_at "h"
      refine same_of (d := vaD (leadV (gOf cl) p)) du (DtAt.stp s5 _ _ (vaD_flat _) lv4) (va_shows (lead_drawn okg p)) ?_
      repeat walk_at "h"
      refine iteF ?_
      have hl5 := s5.keep _ _ hl4 (by simp)
      have k5 := s5.keep _ _ k4 (by simp)
      have ea5 := s5.keep _ _ ea4 (by simp)
      have da5 := DtsAt.stp s5 _ _ (kvs_flat _) da4
      have s15 := s14.trans s5
      clear s14 s5 hl4 k4 ea4 da4 lv4 du
      repeat walk_at "h"
      have pd60 := Nat.le_trans (path_dep p) (show 1 ≤ 60 by decide)
      refine i_NeT (path_dt hl5) (path_dt k5) ?_ pd60 pd60
      rw [Dt.beq_self]
      refine ⟨false, rfl, iteF ?_⟩
      repeat walk_at "h"
      refine ⟨x, dx, d, qa, cl, p, rfl, hS.stp s15 (by simp) (by simp), hl5, by omega, fun cp cw H6 ncp e6 d6 s6 => ?_⟩
      have askl := ask_len (gOf cl) p
      repeat walk_at "h"
      refine ⟨cp, cw, ask (gOf cl) p, rfl, e6, d6, by omega, fun op ow H7 nop e7 d7 s7 => ?_⟩
      have ea7 := s7.keep _ _ (s6.keep _ _ ea5 (by simp)) (by simp)
      have da7 := DtsAt.stp s7 _ _ (kvs_flat _) (DtsAt.stp s6 _ _ (kvs_flat _) da5)
      have onl : (onceK (ask (gOf cl) p)).length ≤ 0 + (ask (gOf cl) p).length := onceK_len _ []
      repeat walk_at "h"
      refine same_of (d := .lst ((onceK (ask (gOf cl) p)).map kvD)) (.lst (SqL.of e7) d7) (.lst (SqL.of ea7) da7) (keys_shows (fun k hk => ⟨(once_in okg p k hk).1, okq.2 _ (once_in okg p k hk).2⟩) (by omega)) ?_
      repeat walk_at "h"
      refine iteF ?_
      repeat walk_at "h"
      exact ⟨_, _, _, _, _, rfl, (s15.trans s6).trans s7⟩
    · rintro σ H1 ⟨y3, y4, y5, y6, y7, rfl, s1⟩
      repeat walk_at "h"
      exact q H1 s1
end

/-! ### the law's look at what moved -/
section
variable {P : Program} {w : World} {K : PySem.W.Frag} {mg : Str → Option Value} {base : Heap} {CS : Addr}
theorem ask_sub (g : KV2 → Va) (fs : List Str) : ∀ st : List Va × List KV2, ∀ k ∈ st.2, k ∈ (fs.foldl (askS g) st).2 := by
  induction fs with
  | nil => exact fun st k hk => hk
  | cons f fs ih =>
    intro st k hk
    rw [List.foldl_cons]
    refine ih _ k ?_
    unfold askS
    split
    · exact hk
    · exact List.mem_append_left _ hk
/-- what is asked tells where paths lead -/
theorem ask_same {g g' : KV2 → Va} {p : List Str} (h : ∀ k ∈ ask g p, g k = g' k) : askP g' p = askP g p := by
  suffices s : ∀ i, i ≤ p.length → (p.take i).foldl (askS g') ([rootV], []) = (p.take i).foldl (askS g) ([rootV], []) by
    have := s p.length (Nat.le_refl _)
    rw [List.take_length] at this
    exact this
  intro i
  induction i with
  | zero => intro _; rfl
  | succ i ih =>
    intro hi
    obtain ⟨f, hf⟩ : ∃ f, p[i]? = some f := ⟨_, List.getElem?_eq_getElem (by omega)⟩
    rw [foldl_take_succ _ _ hf, foldl_take_succ _ _ hf, ih (by omega)]
    have sub := ask_sub g (p.drop (i + 1)) ((p.take (i + 1)).foldl (askS g) ([rootV], []))
    rw [← foldl_split (askS g) ([rootV], []) p (i + 1), foldl_take_succ _ _ hf] at sub
    generalize (p.take i).foldl (askS g) ([rootV], []) = st at sub ⊢
    cases ht : tgtOf (lastV st.1) with
    | none =>
      unfold askS
      rw [ht]
    | some n =>
      rw [askS_go ht, askS_go ht]
      rw [askS_go ht] at sub
      have := h (n, f) (sub (n, f) (List.mem_append_right _ (List.mem_singleton.mpr rfl)))
      rw [this]
theorem lead_same {g g' : KV2 → Va} {p : List Str} (h : ∀ k ∈ ask g p, g k = g' k) : leadV g' p = leadV g p := by
  unfold leadV
  rw [← ask_fol g' p, ← ask_fol g p, ask_same h]
theorem kvs_dep1 (ks : List KV2) : (Dt.lst (ks.map kvD)).depth ≤ 60 := by
  rw [Dt.depth]
  have h := depthAll_map kvD 2 ks fun k _ => by simp [kvD, Dt.depth, Dt.depthAll]
  omega
def spLocal (P : Program) (w : World) (K : PySem.W.Frag) (CS : Addr) : Sp := fun vs H Q _ => ∃ (x dx d x2 dx2 d2 dc da fp : Addr) (cl cl2 : List Cel) (as : List Addr) (paths : List (List Str)), vs = [.ref x, .ref dc, .ref x2, .ref da, .ref fp] ∧ StR P w K CS H x dx d cl ∧ StR P w K CS H x2 dx2 d2 cl2 ∧ CelAt P w K H dc cl ∧ PsAt H fp as paths ∧ okPaths paths ∧ OkG (gOf cl) ∧ OkG (gOf cl2) ∧ ∀ H1, Stp [] H H1 → Q (.bl true) H1
theorem cal_law_local (F : Df K mg d_law_local) (B : Blt mg) (C_law_walk : Cal P w K mg base lv_law_walk "_law_walk" ["cells", "path"] (spWalk P w K)) (C_law_same : CalG P w K mg base lv_law_same "_law_same" ["one", "other"] (spSame2 K)) (C_value_at : Cal P w K mg base lv_value_at "value_at" ["state", "path"] (spLead P w K CS)) (CL_State : Cls K CS) (M_State_value : Mth P w K mg base lv_State_value CS "value" ["self", "name", "field"] (spValue P w K CS)) : CalG P w K mg base lv_law_local "_law_local" ["state", "cells", "later", "after", "paths"] (spLocal P w K CS) := by
  obtain ⟨f, fd, F, g⟩ := F
  refine ⟨f, fd, GT.FunD.okG F sc_law_local (fun vs H Q E h => ?_) (fun cdv A outer s H vs Q E hr hG h => ⟨_, PSs.nox
    (pss_cons (ps_for PassesOwn.never rfl (pi_list (pv 4)) (pg_name (i := 5) sc_law_local.nd rfl (Or.inl rfl))
      (pss_cons (ps_set (i := 6) sc_law_local.nd rfl (Or.inl rfl) (pe_ix (ix_listK (K := K) rfl) (pc_call C_law_walk (hr.mono (by decide)) (by rfl) (pa_cons (pv 1) (pa_cons (pv 5) pa_nil))) pe_int (fun _ _ => rfl)))
        (pss_cons (ps_setLc (i := 7) (own := [("key", 8)]) (g := gName 8) (by rfl) sc_law_local.nd rfl rfl (sw_true rfl rfl rfl (by decide +kernel)) (pi_list (pv 6)) (blkOk_by (N := ["state", "cells", "later", "after", "paths", "path", "asked", "moved", "key"]) (own := [("key", 8)]) (sc := defScope s_law_local) (by decide +kernel)) (fun _ _ _ _ _ => (pg_name (i := 8) sc_law_local.nd rfl (Or.inl rfl))) (fun _ _ _ _ _ => (pts_one (pt_not (pt_val (pc_callG C_law_same hG (hr.mono (by decide)) (by rfl) (pa_cons (pc_meth (pv 0) CL_State M_State_value (hr.mono (by decide)) (pa_cons (pe_ix (ix_tupK (K := K) rfl) (pv 8) pe_int (fun _ _ => rfl)) (pa_cons (pe_ix (ix_tupK (K := K) rfl) (pv 8) pe_int (fun _ _ => rfl)) pa_nil))) (pa_cons (pc_meth (pv 2) CL_State M_State_value (hr.mono (by decide)) (pa_cons (pe_ix (ix_tupK (K := K) rfl) (pv 8) pe_int (fun _ _ => rfl)) (pa_cons (pe_ix (ix_tupK (K := K) rfl) (pv 8) pe_int (fun _ _ => rfl)) pa_nil))) pa_nil))))))) (fun _ _ _ _ _ => (pv 8)))
        (pss_one (ps_if (PW.pt (pw_and (pt_cmpR (op_eqTK (K := K) rfl hr.units) (pv 7) (pe_lst pa_nil) (nomark _)) (pw_and1 (pt_not (pt_val (pc_callG C_law_same hG (hr.mono (by decide)) (by rfl) (pa_cons (pc_call C_value_at (hr.mono (by decide)) (by rfl) (pa_cons (pv 2) (pa_cons (pv 5) pa_nil))) (pa_cons (pc_call C_value_at (hr.mono (by decide)) (by rfl) (pa_cons (pv 0) (pa_cons (pv 5) pa_nil))) pa_nil))))))))
          (pss_one (ps_ret pe_bl))
          pss_nil)))))
    (pss_one (ps_ret pe_bl))), ?_⟩), g, F.kp, F.bindsN fun _ _ _ _ _ _ us hl => match us, hl with | [_, _, _, _, _], _ => rfl⟩
  · obtain ⟨x, dx, d, x2, dx2, d2, dc, da, fp, cl, cl2, as, paths, rfl, _⟩ := h
    rfl
  · obtain ⟨x, dx, d, x2, dx2, d2, dc, da, fp, cl, cl2, as, paths, rfl, hS, hS2, hC, hP, okp, okg, okg2, q⟩ := h
    repeat walk_at "h"
    refine ⟨fp, rfl, ⟨_, SqL.of hP.at_⟩, ?_⟩
    refine for_list (xs := as.map V.ref) (fun i σ H' => ∃ (y5 y6 y7 y8 : Option V), σ = [some (.ref x), some (.ref dc), some (.ref x2), some (.ref da), some (.ref fp), y5, y6, y7, y8] ∧ Stp [] H H')
      ⟨_, _, _, _, rfl, .refl _⟩ (fun i σ H' _ ⟨_, _, _, _, _, s⟩ => SqL.of (s.keep _ _ hP.at_ (by simp))) ?_ ?_
    · rintro i v σ H1 hv ⟨y5, y6, y7, y8, rfl, s1⟩
      obtain ⟨qa, p, hqa, hp, rfl, hl⟩ := (hP.stp s1 (by simp) (by simp)).get hv
      have pin := List.mem_of_getElem? hp
      have okq := okp.2 p pin
      have p4 := okq.1
      have askl := ask_len (gOf cl) p
      have onl : (onceK (ask (gOf cl) p)).length ≤ 0 + (ask (gOf cl) p).length := onceK_len _ []
      repeat walk_at "h"
      refine ⟨dc, qa, cl, p, rfl, hC.stp s1 (by simp), hl, by omega, fun wp vp ap r H2 n1 n2 n3 wk s2 => ?_⟩
      have hl2 := s2.keep _ _ hl (by simp)
      have s12 := s1.trans s2
      obtain ⟨aw, ea, dk⟩ := wk.aa
      have awl : aw.length = (onceK (ask (gOf cl) p)).length := by have := dk.length; rwa [List.length_map] at this
      repeat walk_at "h"
      refine i_IxL (SqL.of wk.at_) (at_of (j := 1) rfl rfl) ?_
      repeat walk_at "h"
      refine i_Lc ?_
      repeat walk_at "h"
      refine ⟨ap, rfl, ⟨_, SqL.of ea⟩, fun mp nmp => ?_⟩
      refine lc_list (xs := aw) (fun j H' => Stp [] H2 H' ∧ ∃ acc, H' mp = some (.lst acc) ∧ DtsAt K H' acc ((((onceK (ask (gOf cl) p)).take j).filter fun k => !decide (gOf cl k = gOf cl2 k)).map kvD)) ⟨.new nmp, [], upd_same, .nil⟩ (fun j H' _ h => SqL.of (h.1.keep _ _ ea (by simp))) ?_ ?_
      · rintro j v H3 hv ⟨s3, acc, e3, d3⟩
        obtain ⟨dd, hdd, dv⟩ := (DtsAt.stp s3 _ _ (kvs_flat _) dk).getV hv
        rw [List.getElem?_map] at hdd
        obtain ⟨k, hk, rfl⟩ := Option.map_eq_some_iff.mp hdd
        have tk : (onceK (ask (gOf cl) p)).take (j + 1) = (onceK (ask (gOf cl) p)).take j ++ [k] := by rw [List.take_add_one, hk]; rfl
        have accl : acc.length ≤ 100 := by
          have h1 := d3.length
          rw [List.length_map] at h1
          have h2 := List.length_filter_le (fun k => !decide (gOf cl k = gOf cl2 k)) ((onceK (ask (gOf cl) p)).take j)
          rw [List.length_take] at h2
          omega
        obtain ⟨kt, nn, rfl, hkt, dnn⟩ : ∃ kt nn, v = .ref kt ∧ TupAt K H3 kt [nn, .str k.2] ∧ DtAt K H3 nn (nmD k.1) := by
          cases dv with
          | @tup a xs _ h1 h2 =>
            cases h2 with
            | cons r1 t =>
              cases t with
              | cons r2 t =>
                cases t
                cases r2
                exact ⟨_, _, rfl, h1, r1⟩
        have s13 := s12.trans s3
        rw [tk, List.filter_append, List.map_append]
        repeat walk_at "h"
        refine ⟨rfl, ?_⟩
        repeat walk_at "h"
        have S3 := hS.stp s13 (by simp) (by simp)
        refine ⟨x, dx, _, rfl, S3.at_, rfl, ?_⟩
        repeat walk_at "h"
        refine i_IxT (K := K) hkt.sqt (at_of (j := 0) rfl rfl) ?_
        repeat walk_at "h"
        refine i_IxT (K := K) hkt.sqt (at_of (j := 1) rfl rfl) ?_
        repeat walk_at "h"
        refine ⟨x, dx, d, nn, k, cl, rfl, dnn, S3, fun u H4 s4 du => ?_⟩
        have e4 := s4.keep _ _ e3 (by simp)
        have d4 := DtsAt.stp s4 _ _ (kvs_flat _) d3
        have hkt4 := hkt.stp s4
        have dnn4 := DtAt.stp s4 _ _ rfl dnn
        have S4 := hS2.stp (s13.trans s4) (by simp) (by simp)
        have dv4 := DtAt.stp s4 _ _ (by simp [kvD, Dt.flat, Dt.flatAll]) dv
        have s24 := s3.trans s4
        clear s3 e3 d3 hkt dnn S3 dv
        repeat walk_at "h"
        refine ⟨x2, dx2, _, rfl, S4.at_, rfl, ?_⟩
        repeat walk_at "h"
        refine i_IxT (K := K) hkt4.sqt (at_of (j := 0) rfl rfl) ?_
        repeat walk_at "h"
        refine i_IxT (K := K) hkt4.sqt (at_of (j := 1) rfl rfl) ?_
        repeat walk_at "h"
        refine ⟨x2, dx2, d2, nn, k, cl2, rfl, dnn4, S4, fun u2 H5 s5 du2 => ?_⟩
        have e5 := s5.keep _ _ e4 (by simp)
        have d5 := DtsAt.stp s5 _ _ (kvs_flat _) d4
        have dv5 := DtAt.stp s5 _ _ (by simp [kvD, Dt.flat, Dt.flatAll]) dv4
        have du := DtAt.stp s5 _ _ (vaD_flat _) du
        have s25 := s24.trans s5
        repeat walk_at "h"
        refine ⟨u, u2, vaD (gOf cl k), vaD (gOf cl2 k), rfl, du, du2, va_shows (okg k), va_shows (okg2 k), ?_⟩
        rw [shown_dec (okg k) (okg2 k)]
        by_cases e : gOf cl k = gOf cl2 k
        · rw [decide_eq_true e]
          have ef : List.filter (fun k => !decide (gOf cl k = gOf cl2 k)) [k] = [] := by simp [e]
          rw [ef]
          repeat walk_at "h"
          refine iteF ?_
          exact ⟨s25, acc, e5, by rw [List.map_nil, List.append_nil]; exact d5⟩
        · rw [decide_eq_false e]
          have ef : List.filter (fun k => !decide (gOf cl k = gOf cl2 k)) [k] = [k] := by simp [e]
          rw [ef]
          repeat walk_at "h"
          refine iteT ?_
          repeat walk_at "h"
          have s6 : Stp [mp] H5 (upd H5 mp (.lst (acc ++ [.ref kt]))) := .wr (by simp) e5 fun _ z => nomatch z
          exact ⟨acc, e5, Nat.lt_of_le_of_lt accl (by decide), s25.mut nmp, _, upd_same, (DtsAt.stp s6 _ _ (kvs_flat _) d5).append (.cons (DtAt.stp s6 _ _ (by simp [kvD, Dt.flat, Dt.flatAll]) dv5) .nil)⟩
      · rintro H3 ⟨s3, acc, e3, d3⟩
        rw [awl, List.take_length] at d3
        have s13 := s12.trans s3
        have hl3 := s3.keep _ _ hl2 (by simp)
        repeat walk_at "h"
        refine ⟨Nat.zero_le _, fun el nel => ?_⟩
        have s4 : Stp [] H3 (upd H3 el (.lst [])) := .new nel
        have e4 := s4.keep _ _ e3 (by simp)
        have d4 := DtsAt.stp s4 _ _ (kvs_flat _) d3
        have l4 : upd H3 el (.lst []) el = some (.lst []) := upd_same
        have hl4 := s4.keep _ _ hl3 (by simp)
        have s14 := s13.trans s4
        generalize upd H3 el (.lst []) = H4 at s4 e4 d4 l4 hl4 s14 ⊢
        refine i_EqT (.lst (SqL.of e4) d4) (.lst (SqL.of l4) .nil) ?_ (kvs_dep1 _)
        obtain ⟨ms, hms⟩ : ∃ ms, ms = (onceK (ask (gOf cl) p)).filter fun k => !decide (gOf cl k = gOf cl2 k) := ⟨_, rfl⟩
        rw [← hms]
        cases hm : ms with
        | cons k ks =>
          refine ⟨false, rfl, iteF ?_⟩
          refine iteF ?_
          repeat walk_at "h"
          exact ⟨_, _, _, _, rfl, s14⟩
        | nil =>
          refine ⟨true, rfl, iteT ?_⟩
          have same : leadV (gOf cl2) p = leadV (gOf cl) p := lead_same fun k hk => by
            have hin : k ∈ onceK (ask (gOf cl) p) := (onceK_mem (ask (gOf cl) p) [] k).mpr (.inr hk)
            rw [hm] at hms
            have hne : k ∉ (onceK (ask (gOf cl) p)).filter fun k => !decide (gOf cl k = gOf cl2 k) := by rw [← hms]; simp
            rw [List.mem_filter] at hne
            simp only [hin, true_and, Bool.not_eq_true, Bool.not_eq_false', decide_eq_true_eq] at hne
            exact hne
          repeat walk_at "h"
          refine ⟨x2, dx2, d2, qa, cl2, p, rfl, hS2.stp s14 (by simp) (by simp), hl4, by omega, fun u H5 du s5 => ?_⟩
          have hl5 := s5.keep _ _ hl4 (by simp)
          have s15 := s14.trans s5
          repeat walk_at "h"
          refine ⟨x, dx, d, qa, cl, p, rfl, hS.stp s15 (by simp) (by simp), hl5, by omega, fun u2 H6 du2 s6 => ?_⟩
          rw [same] at du
          repeat walk_at "h"
          refine same_of (d := vaD (leadV (gOf cl) p)) (DtAt.stp s6 _ _ (vaD_flat _) du) du2 (va_shows (lead_drawn okg p)) ?_
          repeat walk_at "h"
          refine iteF ?_
          repeat walk_at "h"
          exact ⟨_, _, _, _, rfl, s15.trans s6⟩
    · rintro σ H1 ⟨y5, y6, y7, y8, rfl, s1⟩
      repeat walk_at "h"
      exact q H1 s1
end

/-! ### touched and news, by the law -/
section
variable {P : Program} {w : World} {K : PySem.W.Frag} {mg : Str → Option Value} {base : Heap}
def spTouched2 (P : Program) (w : World) (K : PySem.W.Frag) : Sp := fun vs H Q _ => ∃ (fp dc r : Addr) (cl : List Cel) (as : List Addr) (paths : List (List Str)) (many : Nat) (ws : List V) (cs : List Ch), vs = [.ref fp, .int (many : Nat), .ref dc, .ref r] ∧ PsAt H fp as paths ∧ CelAt P w K H dc cl ∧ many ≤ paths.length ∧ paths.length ≤ 100 ∧ (∀ p ∈ paths, p.length ≤ 100) ∧ H r = some (.lst ws) ∧ DtsAt K H ws (cs.map chD) ∧ cs.length ≤ 100 ∧
  ∀ (p : Addr) (H1 : Hp), H p = none → H1 p = some (.lst ((touL (gOf cl) paths (keysCh cs) many).map V.int)) → Stp [] H H1 → Q (.ref p) H1
theorem cal_law_touched (F : Df K mg d_law_touched) (B : Blt mg) (C_law_walk : Cal P w K mg base lv_law_walk "_law_walk" ["cells", "path"] (spWalk P w K)) : Cal P w K mg base lv_law_touched "_law_touched" ["paths", "many", "cells", "changes"] (spTouched2 P w K) := by
  obtain ⟨f, fd, F, g⟩ := F
  refine ⟨f, fd, F.ok sc_law_touched (fun vs H Q E h => ?_) (fun cdv A outer s H vs Q E hr h => ⟨_, PSs.nox
    (pss_cons (ps_set (i := 4) sc_law_touched.nd rfl (Or.inr rfl) (pe_lc (own := [("change", 7)]) (g := gName 7) (by rfl) sc_law_touched.nd (pi_list (pv 3)) (blkOk_by (N := ["paths", "many", "cells", "changes", "keys", "found", "k", "change", "key"]) (own := [("change", 7)]) (sc := defScope s_law_touched) (by decide +kernel)) (fun _ _ _ _ _ => (pg_name (i := 7) sc_law_touched.nd rfl (Or.inl rfl))) (fun _ _ _ _ _ => pts_nil) (fun _ _ _ _ _ => (pe_slice (sl_tupK (K := K) rfl) (pv 7) (po_some pe_int) (po_some pe_int)))))
    (pss_cons (ps_set (i := 5) sc_law_touched.nd rfl (Or.inl rfl) (pe_lst pa_nil))
    (pss_cons (ps_for PassesOwn.never rfl (pi_range1 rfl B.range (pa_cons (pv 1) pa_nil)) (pg_name (i := 6) sc_law_touched.nd rfl (Or.inl rfl))
      (pss_one (ps_if (pt_truth (pe_lc (own := [("key", 8)]) (g := gName 8) (by rfl) sc_law_touched.nd (pi_list (pe_ix (ix_listK (K := K) rfl) (pc_call C_law_walk (hr.mono (by decide)) (by rfl) (pa_cons (pv 2) (pa_cons (pe_ix (ix_listK (K := K) rfl) (pv 0) (pv 6) (fun _ _ => rfl)) pa_nil))) pe_int (fun _ _ => rfl))) (blkOk_by (N := ["paths", "many", "cells", "changes", "keys", "found", "k", "change", "key"]) (own := [("key", 8)]) (sc := defScope s_law_touched) (by decide +kernel)) (fun _ _ _ _ _ => (pg_name (i := 8) sc_law_touched.nd rfl (Or.inl rfl))) (fun _ _ _ _ _ => (pts_one (pt_cmpR (op_inTK (K := K) rfl hr.units) (pv 8) (pv 4) (by rfl)))) (fun _ _ _ _ _ => (pv 8))) (by intro _; rfl))
          (pss_one (ps_expr (pe_bm PySem.F.plainAttrs_list PySem.F.slot_list_append PySem.F.type_list_append mt_append (pv 5) (pa_cons (pv 6) pa_nil))))
          pss_nil)))
    (pss_one (ps_ret (pv 5)))))), ?_⟩), g, F.kp, F.bindsN fun _ _ _ _ _ _ us hl => match us, hl with | [_, _, _, _], _ => rfl⟩
  · obtain ⟨fp, dc, r, cl, as, paths, many, ws, cs, rfl, _⟩ := h
    rfl
  · obtain ⟨fp, dc, r, cl, as, paths, many, ws, cs, rfl, hP, hC, mp, psl, pll, hr1, hd, csl, q⟩ := h
    have wl : ws.length = cs.length := by have := hd.length; rwa [List.length_map] at this
    repeat walk_at "h"
    refine i_Lc ?_
    repeat walk_at "h"
    refine ⟨r, rfl, ⟨_, SqL.of hr1⟩, fun kp nkp => ?_⟩
    refine lc_list (xs := ws) (fun i H' => Stp [] H H' ∧ ∃ kw, H' kp = some (.lst kw) ∧ DtsAt K H' kw ((keysCh (cs.take i)).map kvD)) ⟨.new nkp, [], upd_same, .nil⟩ (fun i H' _ h => SqL.of (h.1.keep _ _ hr1 (by simp))) ?_ ?_
    · rintro i v H1 hv ⟨s1, kw, e1, d1⟩
      obtain ⟨c, hc, dc⟩ := ch_get (chs_stp hd s1) hv
      obtain ⟨ca, sv, n, v, rfl, hca, hsv, hn, hv2⟩ := chAt dc
      have hi : i < ws.length := (List.getElem?_eq_some_iff.mp hv).1
      have kwl : kw.length ≤ 100 := by
        have := d1.length
        unfold keysCh at this
        rw [List.length_map, List.length_map, List.length_take] at this
        omega
      have tk : cs.take (i + 1) = cs.take i ++ [c] := by rw [List.take_add_one, hc]; rfl
      have ek : keysCh (cs.take i ++ [c]) = keysCh (cs.take i) ++ [(c.nm, c.fd)] := by simp [keysCh]
      rw [tk, ek, List.map_append]
      refine ⟨rfl, i_Yes ?_⟩
      refine i_ite (fun _ => ?_) (fun z => nomatch z)
      repeat walk_at "h"
      refine ⟨ca, [sv, n, .str c.fd, v], rfl, hca.sqt, (by show ¬ (HT.sIx 4 0 (some 1) = 0 ∧ HT.sIx 4 4 (some 3) = 4); decide), fun t nt => ?_⟩
      have s2 : Stp [] H1 (upd H1 t (.tup [n, .str c.fd])) := .new nt
      have t2 : DtAt K (upd H1 t (.tup [n, .str c.fd])) (.ref t) (kvD (c.nm, c.fd)) := .tup (.inl upd_same) (.cons (DtAt.stp s2 _ _ rfl hn) (.cons (.txt _) .nil))
      have e2 := s2.keep _ _ e1 (by simp)
      have d2 := DtsAt.stp s2 _ _ (kvs_flat _) d1
      have s2 := s1.trans s2
      have ec : cutV [sv, n, .str c.fd, v] (some 1) (some 3) = [n, .str c.fd] := rfl
      rw [ec]
      generalize upd H1 t (.tup [n, .str c.fd]) = H2 at s2 t2 e2 d2 ⊢
      have s3 : Stp [kp] H2 (upd H2 kp (.lst (kw ++ [.ref t]))) := .wr (by simp) e2 fun _ z => nomatch z
      exact ⟨kw, e2, Nat.lt_of_le_of_lt kwl (by decide), s2.mut nkp, _, upd_same, (DtsAt.stp s3 _ _ (kvs_flat _) d2).append (.cons (DtAt.stp s3 _ _ (by simp [kvD, Dt.flat, Dt.flatAll]) t2) .nil)⟩
    · rintro H1 ⟨s1, kw, e1, d1⟩
      rw [wl, List.take_length] at d1
      have kp0 : H kp = none := nkp
      repeat walk_at "h"
      refine ⟨Nat.zero_le _, fun rp nrp => ?_⟩
      have s2 : Stp [] H1 (upd H1 rp (.lst [])) := .new nrp
      have r2 : upd H1 rp (.lst []) rp = some (.lst []) := upd_same
      have e2 := s2.keep _ _ e1 (by simp)
      have d2 := DtsAt.stp s2 _ _ (kvs_flat _) d1
      have rp0 : H rp = none := s1.free nrp (by simp)
      have s2 := s1.trans s2
      have kr : kp ≠ rp := fun z => by rw [z, nrp] at e1; cases e1
      generalize upd H1 rp (.lst []) = H2 at s2 r2 e2 d2 ⊢
      clear s1 e1 d1
      repeat walk_at "h"
      refine ⟨(many : Nat), rfl, by omega, by omega, ?_⟩
      refine for_range (lo := 0) (n := ((many : Nat) : Int).toNat) (fun i σ H' => ∃ (y6 y7 y8 : Option V), σ = [some (.ref fp), some (.int (many : Nat)), some (.ref dc), some (.ref r), some (.ref kp), some (.ref rp), y6, y7, y8] ∧ Stp [] H H' ∧ H' kp = some (.lst kw) ∧ DtsAt K H' kw ((keysCh cs).map kvD) ∧ H' rp = some (.lst ((touL (gOf cl) paths (keysCh cs) i).map V.int)))
        ⟨_, _, _, rfl, s2, e2, d2, r2⟩ ?_ ?_
      · clear s2 r2 e2 d2
        rintro i σ H3 hi ⟨y6, y7, y8, rfl, s3, e3, d3, r3⟩
        have im : i < many := by omega
        have al := hP.len
        obtain ⟨qa, hqa⟩ : ∃ qa, as[i]? = some qa := ⟨_, List.getElem?_eq_getElem (by omega)⟩
        obtain ⟨p, hp⟩ : ∃ p, paths[i]? = some p := ⟨_, List.getElem?_eq_getElem (by omega)⟩
        have P3 := hP.stp s3 (by simp) (by simp)
        have hl := P3.ps i qa p hqa hp
        have pl100 := pll p (List.mem_of_getElem? hp)
        have askl := ask_len (gOf cl) p
        have onl : (onceK (ask (gOf cl) p)).length ≤ 0 + (ask (gOf cl) p).length := onceK_len _ []
        have tl := touL_len (gOf cl) paths (keysCh cs) i
        repeat walk_at "h"
        refine i_Lc ?_
        repeat walk_at "h"
        refine i_IxL (SqL.of P3.at_) (at_of (j := i) (by omega) (v := .ref qa) (by rw [List.getElem?_map, hqa]; rfl)) ?_
        repeat walk_at "h"
        refine ⟨dc, qa, cl, p, rfl, hC.stp s3 (by simp), hl, pl100, fun wp vp ap r4 H4 n1 n2 n3 wk s4 => ?_⟩
        obtain ⟨aw, ea, dk⟩ := wk.aa
        have awl : aw.length = (onceK (ask (gOf cl) p)).length := by have := dk.length; rwa [List.length_map] at this
        have e4 := s4.keep _ _ e3 (by simp)
        have d4 := DtsAt.stp s4 _ _ (kvs_flat _) d3
        have r4' := s4.keep _ _ r3 (by simp)
        have s34 := s3.trans s4
        repeat walk_at "h"
        refine i_IxL (SqL.of wk.at_) (at_of (j := 1) rfl rfl) ?_
        refine ⟨ap, rfl, ⟨_, SqL.of ea⟩, fun mp2 nmp2 => ?_⟩
        refine lc_list (xs := aw) (fun j H' => Stp [] H4 H' ∧ ∃ acc : List V, H' mp2 = some (.lst acc) ∧ acc.length = (((onceK (ask (gOf cl) p)).take j).filter fun k => decide (k ∈ keysCh cs)).length) ⟨.new nmp2, [], upd_same, rfl⟩ (fun j H' _ h => SqL.of (h.1.keep _ _ ea (by simp))) ?_ ?_
        · rintro j v H5 hv ⟨s5, acc, e5, l5⟩
          obtain ⟨dd, hdd, dv⟩ := (DtsAt.stp s5 _ _ (kvs_flat _) dk).getV hv
          rw [List.getElem?_map] at hdd
          obtain ⟨k, hk, rfl⟩ := Option.map_eq_some_iff.mp hdd
          have tk : (onceK (ask (gOf cl) p)).take (j + 1) = (onceK (ask (gOf cl) p)).take j ++ [k] := by rw [List.take_add_one, hk]; rfl
          have accl : acc.length ≤ 100 := by
            have h2 := List.length_filter_le (fun k => decide (k ∈ keysCh cs)) ((onceK (ask (gOf cl) p)).take j)
            rw [List.length_take] at h2
            omega
          rw [tk, List.filter_append, List.length_append]
          repeat walk_at "h"
          refine ⟨rfl, ?_⟩
          repeat walk_at "h"
          refine ⟨kvD k, (keysCh cs).map kvD, dv, .lst (SqL.of (s5.keep _ _ e4 (by simp))) (DtsAt.stp s5 _ _ (kvs_flat _) d4), kv_dep _, kvs_dep _, ?_⟩
          rw [kv_any]
          refine ⟨_, rfl, ?_⟩
          by_cases hin : k ∈ keysCh cs
          · rw [decide_eq_true hin]
            have ef : List.filter (fun k => decide (k ∈ keysCh cs)) [k] = [k] := by simp [hin]
            rw [ef]
            refine iteT ?_
            repeat walk_at "h"
            exact ⟨acc, e5, Nat.lt_of_le_of_lt accl (by decide), s5.mut nmp2, _, upd_same, by rw [List.length_append, l5]; rfl⟩
          · rw [decide_eq_false hin]
            have ef : List.filter (fun k => decide (k ∈ keysCh cs)) [k] = [] := by simp [hin]
            rw [ef]
            refine iteF ?_
            exact ⟨s5, acc, e5, by rw [l5]; rfl⟩
        · rintro H5 ⟨s5, acc, e5, l5⟩
          rw [awl, List.take_length] at l5
          have e6 := s5.keep _ _ e4 (by simp)
          have d6 := DtsAt.stp s5 _ _ (kvs_flat _) d4
          have r6 := s5.keep _ _ r4' (by simp)
          have s35 := s34.trans s5
          refine ⟨_, .inl ⟨acc, SqL.of e5, rfl⟩, ?_⟩
          have et : (!acc.isEmpty) = touAt (gOf cl) paths (keysCh cs) i := by
            unfold touAt
            rw [hp]
            show (!acc.isEmpty) = (ask (gOf cl) p).any fun k => decide (k ∈ keysCh cs)
            rw [Bool.eq_iff_iff, List.any_eq_true]
            constructor
            · intro h
              have l0 : 0 < acc.length := by
                cases acc with
                | nil => simp at h
                | cons x xs => simp
              rw [l5] at l0
              obtain ⟨k, hk⟩ := List.exists_mem_of_length_pos l0
              obtain ⟨h1, h2⟩ := List.mem_filter.mp hk
              exact ⟨k, ((onceK_mem (ask (gOf cl) p) [] k).mp h1).resolve_left (by simp), h2⟩
            · rintro ⟨k, h1, h2⟩
              have h3 : k ∈ (onceK (ask (gOf cl) p)).filter fun k => decide (k ∈ keysCh cs) := List.mem_filter.mpr ⟨(onceK_mem (ask (gOf cl) p) [] k).mpr (.inr h1), h2⟩
              have l0 := List.length_pos_of_mem h3
              rw [← l5] at l0
              cases acc with
              | nil => simp at l0
              | cons x xs => rfl
          rw [et, touL_succ]
          cases hb : touAt (gOf cl) paths (keysCh cs) i with
          | true =>
            refine iteT ?_
            repeat walk_at "h"
            refine ⟨.inl ⟨rfl, _, SqL.of r6⟩, ?_⟩
            repeat walk_at "h"
            refine ⟨rp, _, _, rfl, rfl, r6, Nat.lt_of_le_of_lt (show _ ≤ 100 by rw [List.length_map]; omega) (by decide), ?_⟩
            have s7 : Stp [rp] H5 (upd H5 rp (.lst ((touL (gOf cl) paths (keysCh cs) i).map V.int ++ [.int (0 + (i : Int))]))) := .wr (by simp) r6 fun _ z => nomatch z
            repeat walk_at "h"
            refine ⟨_, _, _, rfl, s35.into rp0 s7, s7.keep _ _ e6 (by simpa using kr), DtsAt.stp s7 _ _ (kvs_flat _) d6, ?_⟩
            rw [upd_same, if_pos rfl, List.map_append, Int.zero_add]; rfl
          | false =>
            refine iteF ?_
            repeat walk_at "h"
            refine ⟨_, _, _, rfl, s35, e6, d6, ?_⟩
            rw [if_neg (by simp), List.append_nil]; exact r6
      · rintro σ H3 ⟨y6, y7, y8, rfl, s3, e3, d3, r3⟩
        rw [show ((many : Nat) : Int).toNat = many by omega] at r3
        repeat walk_at "h"
        exact q rp H3 rp0 r3 s3
end

/-! ### the law's news -/
section
variable {P : Program} {w : World} {K : PySem.W.Frag} {mg : Str → Option Value} {base : Heap}
theorem ix_ofN {n j : Nat} {k : Int} (h : j < n) (e : k = (j : Int)) : ixN n k = some j := by
  subst e
  unfold ixN
  rw [if_pos (by omega), if_pos (by omega)]
  simp
def spNews2 (P : Program) (w : World) (K : PySem.W.Frag) : Sp := fun vs H Q _ => ∃ (fp lt dc : Addr) (cl : List Cel) (as : List Addr) (paths : List (List Str)) (tw : List V) (tv : List Va), vs = [.ref fp, .ref lt, .ref dc] ∧ PsAt H fp as paths ∧ CelAt P w K H dc cl ∧ H lt = some (.lst tw) ∧ DtsAt K H tw (tv.map vaD) ∧ tv.length ≤ paths.length ∧ paths.length ≤ 100 ∧ (∀ p ∈ paths, p.length ≤ 100) ∧ OkG (gOf cl) ∧ (∀ t ∈ tv, drawnVaD names4 t) ∧ lt ≠ fp ∧ lt ∉ as ∧ lt ≠ dc ∧
  ∀ (r : Addr) (acc tw' : List V) (H1 : Hp), H r = none → H1 r = some (.lst acc) → NwsAt K (fun l => l ∈ as) H1 acc (newsR paths tv (paths.map (leadV (gOf cl))) tv.length) → H1 lt = some (.lst tw') → DtsAt K H1 tw' (((paths.map (leadV (gOf cl))).take tv.length).map vaD) → Stp [lt] H H1 → Q (.ref r) H1
theorem cal_law_news (F : Df K mg d_law_news) (B : Blt mg) (C_law_walk : Cal P w K mg base lv_law_walk "_law_walk" ["cells", "path"] (spWalk P w K)) (C_law_same : CalG P w K mg base lv_law_same "_law_same" ["one", "other"] (spSame2 K)) : CalG P w K mg base lv_law_news "_law_news" ["paths", "told", "cells"] (spNews2 P w K) := by
  obtain ⟨f, fd, F, g⟩ := F
  refine ⟨f, fd, GT.FunD.okG F sc_law_news (fun vs H Q E h => ?_) (fun cdv A outer s H vs Q E hr hG h => ⟨_, PSs.nox
    (pss_cons (ps_set (i := 3) sc_law_news.nd rfl (Or.inl rfl) (pe_lst pa_nil))
    (pss_cons (ps_for PassesOwn.never rfl (pi_range1 rfl B.range (pa_cons (pe_callB call_len_seq (by rfl) B.len boot_len (pa_cons (pv 1) pa_nil)) pa_nil)) (pg_name (i := 4) sc_law_news.nd rfl (Or.inl rfl))
      (pss_cons (ps_set (i := 5) sc_law_news.nd rfl (Or.inl rfl) (pe_ix (ix_listK (K := K) rfl) (pc_call C_law_walk (hr.mono (by decide)) (by rfl) (pa_cons (pv 2) (pa_cons (pe_ix (ix_listK (K := K) rfl) (pv 0) (pv 4) (fun _ _ => rfl)) pa_nil))) pe_int (fun _ _ => rfl)))
        (pss_one (ps_if (pt_not (pt_val (pc_callG C_law_same hG (hr.mono (by decide)) (by rfl) (pa_cons (pv 5) (pa_cons (pe_ix (ix_listK (K := K) rfl) (pv 1) (pv 4) (fun _ _ => rfl)) pa_nil)))))
          (pss_cons (ps_expr (pe_bm PySem.F.plainAttrs_list PySem.F.slot_list_append PySem.F.type_list_append mt_append (pv 3) (pa_cons (pe_tup (pa_cons (pe_ix (ix_listK (K := K) rfl) (pv 0) (pv 4) (fun _ _ => rfl)) (pa_cons (pe_ix (ix_listK (K := K) rfl) (pv 1) (pv 4) (fun _ _ => rfl)) (pa_cons (pv 5) pa_nil)))) pa_nil)))
            (pss_one (ps_asg (pv 5) (pg_sub (pv 1) (pv 4) set_list))))
          pss_nil))))
    (pss_one (ps_ret (pv 3))))), ?_⟩), g, F.kp, F.bindsN fun _ _ _ _ _ _ us hl => match us, hl with | [_, _, _], _ => rfl⟩
  · obtain ⟨fp, lt, dc, cl, as, paths, tw, tv, rfl, _⟩ := h
    rfl
  · obtain ⟨fp, lt, dc, cl, as, paths, tw, tv, rfl, hP, hC, hlt, hdt, tp, psl, pll, okg, tdr, n1, n2, n3, q⟩ := h
    have twl : tw.length = tv.length := by have := hdt.length; rwa [List.length_map] at this
    have al := hP.len
    repeat walk_at "h"
    refine ⟨Nat.zero_le _, fun rp nrp => ?_⟩
    have s1 : Stp [] H (upd H rp (.lst [])) := .new nrp
    have r1 : upd H rp (.lst []) rp = some (.lst []) := upd_same
    have t1 := s1.keep _ _ hlt (by simp)
    have d1 := DtsAt.stp s1 _ _ (vas_flat _) hdt
    have rl : rp ≠ lt := fun z => by rw [← z, nrp] at hlt; cases hlt
    have rf : rp ≠ fp := fun z => by have := hP.at_; rw [← z, nrp] at this; cases this
    have ra : rp ∉ as := fun z => by
      obtain ⟨j, hj⟩ := List.getElem?_of_mem z
      have l := (List.getElem?_eq_some_iff.mp hj).1
      obtain ⟨p, hp⟩ : ∃ p, paths[j]? = some p := ⟨_, List.getElem?_eq_getElem (by omega)⟩
      have := hP.ps j rp p hj hp
      rw [nrp] at this; cases this
    generalize upd H rp (.lst []) = H1 at s1 r1 t1 d1 ⊢
    repeat walk_at "h"
    refine ⟨lt, _, rfl, .inl (SqL.of t1), ?_⟩
    rw [twl]
    repeat walk_at "h"
    refine ⟨(tv.length : Nat), rfl, by omega, by omega, ?_⟩
    refine for_range (lo := 0) (n := ((tv.length : Nat) : Int).toNat) (fun i σ H' => ∃ (y4 y5 : Option V) (acc tc : List V) (tcv : List Va), σ = [some (.ref fp), some (.ref lt), some (.ref dc), some (.ref rp), y4, y5] ∧ Stp [lt] H H' ∧ H' rp = some (.lst acc) ∧ NwsAt K (fun l => l ∈ as) H' acc (newsR paths tv (paths.map (leadV (gOf cl))) i) ∧ H' lt = some (.lst tc) ∧ DtsAt K H' tc (tcv.map vaD) ∧ ∀ j, tcv[j]? = if j < i then ((paths.map (leadV (gOf cl))).take tv.length)[j]? else tv[j]?)
      ⟨_, _, [], tw, tv, rfl, s1.mono (by simp), r1, .nil, t1, d1, fun j => by rw [if_neg (by omega)]⟩ ?_ ?_
    · clear r1 t1 d1 s1
      rintro i σ H2 hi ⟨y4, y5, acc, tc, tcv, rfl, s2, r2, a2, t2, d2, ht⟩
      have im : i < tv.length := by omega
      obtain ⟨qa, hqa⟩ : ∃ qa, as[i]? = some qa := ⟨_, List.getElem?_eq_getElem (by omega)⟩
      obtain ⟨p, hp⟩ : ∃ p, paths[i]? = some p := ⟨_, List.getElem?_eq_getElem (by omega)⟩
      obtain ⟨t, htv⟩ : ∃ t, tv[i]? = some t := ⟨_, List.getElem?_eq_getElem im⟩
      have hnv : (paths.map (leadV (gOf cl)))[i]? = some (leadV (gOf cl) p) := by rw [List.getElem?_map, hp]; rfl
      have tci : tcv[i]? = some t := by rw [ht, if_neg (by omega)]; exact htv
      have tcl : tc.length = tcv.length := by have := d2.length; rwa [List.length_map] at this
      have til := (List.getElem?_eq_some_iff.mp tci).1
      have P2 := hP.stp s2 (by simpa using fun z => n1 z.symm) (fun b hb => by simpa using fun z => n2 (by rw [← z]; exact hb))
      have hl := P2.ps i qa p hqa hp
      have pl100 := pll p (List.mem_of_getElem? hp)
      have dt := tdr t (List.mem_of_getElem? htv)
      have dl := lead_drawn okg p
      have accl : acc.length ≤ 100 := by
        rw [a2.len]
        exact Nat.le_trans (newsR_len ..) (by omega)
      repeat walk_at "h"
      refine i_IxL (SqL.of P2.at_) (at_of (j := i) (by omega) (v := .ref qa) (by rw [List.getElem?_map, hqa]; rfl)) ?_
      repeat walk_at "h"
      refine ⟨dc, qa, cl, p, rfl, hC.stp s2 (by simpa using fun z => n3 z.symm), hl, pl100, fun wp vp ap r3 H3 m1 m2 m3 wk s3 => ?_⟩
      have r3' := s3.keep _ _ r2 (by simp)
      have a3 := a2.stp s3 (by simp)
      have t3 := s3.keep _ _ t2 (by simp)
      have d3 := DtsAt.stp s3 _ _ (vas_flat _) d2
      have hl3 := s3.keep _ _ hl (by simp)
      have fp3 := s3.keep _ _ P2.at_ (by simp)
      have s23 : Stp [lt] H H3 := s2.trans (s3.mono (by simp))
      obtain ⟨u, hu, du⟩ : ∃ u, tc[i]? = some u ∧ DtAt K H3 u (vaD t) := by
        obtain ⟨u, hu⟩ : ∃ u, tc[i]? = some u := ⟨_, List.getElem?_eq_getElem (by omega)⟩
        obtain ⟨dd, hdd, du⟩ := d3.getV hu
        rw [List.getElem?_map, tci] at hdd
        cases hdd
        exact ⟨u, hu, du⟩
      clear s2 r2 a2 t2 d2 s3 P2 hl
      repeat walk_at "h"
      refine i_IxL (SqL.of wk.at_) (at_of (j := 2) rfl rfl) ?_
      have lv := wk.lv
      clear wk
      repeat walk_at "h"
      refine i_IxL (SqL.of t3) (at_of (j := i) (by omega) hu) ?_
      repeat walk_at "h"
      refine ⟨r3, u, vaD (leadV (gOf cl) p), vaD t, rfl, lv, du, va_shows dl, va_shows dt, ?_⟩
      rw [shown_dec dl dt, newsR_succ, newsAt_of hp htv hnv]
      by_cases e : leadV (gOf cl) p = t
      · rw [decide_eq_true e, if_pos e]
        repeat walk_at "h"
        refine iteF ?_
        repeat walk_at "h"
        refine ⟨_, _, acc, tc, tcv, rfl, s23, r3', by rw [show (none : Option News).toList = [] from rfl, List.append_nil]; exact a3, t3, d3, fun j => ?_⟩
        rw [ht]
        by_cases c : j < i
        · rw [if_pos c, if_pos (by omega)]
        · rw [if_neg c]
          by_cases c2 : j = i
          · rw [c2, if_pos (by omega), htv, List.getElem?_take, if_pos im, hnv, e]
          · rw [if_neg (by omega)]
      · rw [decide_eq_false e, if_neg e]
        repeat walk_at "h"
        refine iteT ?_
        repeat walk_at "h"
        refine ⟨.inl ⟨rfl, _, SqL.of r3'⟩, ?_⟩
        repeat walk_at "h"
        refine i_IxL (SqL.of fp3) (at_of (j := i) (by omega) (v := .ref qa) (by rw [List.getElem?_map, hqa]; rfl)) ?_
        repeat walk_at "h"
        refine i_IxL (SqL.of t3) (at_of (j := i) (by omega) hu) ?_
        repeat walk_at "h"
        refine ⟨(by decide : 3 ≤ sizeLine), fun nt nnt => ?_⟩
        have s4 : Stp [] H3 (upd H3 nt (.tup [.ref qa, u, r3])) := .new nnt
        have n4 : TupAt K (upd H3 nt (.tup [.ref qa, u, r3])) nt [.ref qa, u, r3] := .inl upd_same
        have r4 := s4.keep _ _ r3' (by simp)
        have a4 := a3.stp s4 (by simp)
        have t4 := s4.keep _ _ t3 (by simp)
        have d4 := DtsAt.stp s4 _ _ (vas_flat _) d3
        have hl4 := s4.keep _ _ hl3 (by simp)
        have du := DtAt.stp s4 _ _ (vaD_flat _) du
        have lv := DtAt.stp s4 _ _ (vaD_flat _) lv
        have s24 : Stp [lt] H _ := s23.trans (s4.mono (by simp))
        generalize upd H3 nt (.tup [.ref qa, u, r3]) = H4 at s4 n4 r4 a4 t4 d4 hl4 du lv s24 ⊢
        clear s23 r3' a3 t3 d3 hl3 fp3 s4 nnt
        refine ⟨rp, _, .ref nt, rfl, rfl, r4, Nat.lt_of_le_of_lt accl (by decide), ?_⟩
        have s5 : Stp [rp] H4 (upd H4 rp (.lst (acc ++ [.ref nt]))) := .wr (by simp) r4 fun _ z => nomatch z
        have ok5 : ∀ l, l ∈ as → l ∉ [rp] := fun l hl => by simpa using fun z => ra (by rw [← z]; exact hl)
        have a5 := (a4.stp s5 ok5).snoc (x := (p, t, leadV (gOf cl) p)) (n4.stp s5) (s5.keep _ _ hl4 (ok5 qa (List.mem_of_getElem? hqa))) (List.mem_of_getElem? hqa) (DtAt.stp s5 _ _ (vaD_flat _) du) (DtAt.stp s5 _ _ (vaD_flat _) lv)
        have r5 : upd H4 rp (.lst (acc ++ [.ref nt])) rp = some (.lst (acc ++ [.ref nt])) := upd_same
        have t5 := s5.keep _ _ t4 (by simpa using rl.symm)
        have d5 := DtsAt.stp s5 _ _ (vas_flat _) d4
        have lv5 := DtAt.stp s5 _ _ (vaD_flat _) lv
        have s25 : Stp [lt] H (upd H4 rp (.lst (acc ++ [.ref nt]))) := s24.mut nrp
        generalize upd H4 rp (.lst (acc ++ [.ref nt])) = H5 at s5 a5 r5 t5 d5 lv5 s25 ⊢
        repeat walk_at "h"
        refine ⟨.ref lt, rfl, .int (0 + (i : Int)), rfl, lt, _, _, i, rfl, rfl, t5, ix_ofN (by omega) (by omega), ?_⟩
        have s6 : Stp [lt] H5 (upd H5 lt (.lst (tc.set i r3))) := .wr (by simp) t5 fun _ z => nomatch z
        have ok6 : ∀ l, l ∈ as → l ∉ [lt] := fun l hl => by simpa using fun z => n2 (by rw [← z]; exact hl)
        refine ⟨_, _, acc ++ [.ref nt], tc.set i r3, tcv.set i (leadV (gOf cl) p), rfl, s25.trans s6, s6.keep _ _ r5 (by simpa using rl), a5.stp s6 ok6, upd_same, ?_, fun j => ?_⟩
        · refine dts_idx (by rw [List.length_set, List.length_set, tcl]) fun j v x hv hx => ?_
          rw [List.getElem?_set] at hv hx
          by_cases c : i = j
          · rw [if_pos c, if_pos (by omega)] at hv
            rw [if_pos c, if_pos til] at hx
            cases hv
            cases hx
            exact DtAt.stp s6 _ _ (vaD_flat _) lv5
          · rw [if_neg c] at hv hx
            obtain ⟨dd, hdd, dv⟩ := d5.getV hv
            rw [List.getElem?_map, hx] at hdd
            cases hdd
            exact DtAt.stp s6 _ _ (vaD_flat _) dv
        · rw [List.getElem?_set]
          by_cases c : i = j
          · subst c
            rw [if_pos rfl, if_pos til, if_pos (by omega), List.getElem?_take, if_pos im, hnv]
          · rw [if_neg c, ht]
            by_cases c2 : j < i
            · rw [if_pos c2, if_pos (by omega)]
            · rw [if_neg c2, if_neg (by omega)]
    · rintro σ H2 ⟨y4, y5, acc, tc, tcv, rfl, s2, r2, a2, t2, d2, ht⟩
      rw [show ((tv.length : Nat) : Int).toNat = tv.length by omega] at a2 ht
      have et : tcv = (paths.map (leadV (gOf cl))).take tv.length := List.ext_getElem? fun j => by
        rw [ht]
        by_cases c : j < tv.length
        · rw [if_pos c]
        · rw [if_neg c, List.getElem?_eq_none (by omega), List.getElem?_eq_none (by rw [List.length_take]; omega)]
      rw [et] at d2
      repeat walk_at "h"
      exact q rp acc tc H2 nrp r2 a2 t2 d2 s2
end

/-! ### the law -/
section
variable {P : Program} {w : World} {K : PySem.W.Frag} {mg : Str → Option Value} {base : Heap} {CS CW : Addr}
def spLaw (K : PySem.W.Frag) : Sp := fun vs H Q _ => ∃ (a : Addr) (ns : List Int), vs = [.ref a] ∧ SqL K H a (ns.map V.int) ∧ ∀ H', Q (.bl true) H'
theorem okg_of {cs : List Ch} (h : ∀ c ∈ cs, MoreCh c) : OkG (gOf (cellsOf cs)) := fun k => by
  have b := best_cells cs k
  unfold gOf
  cases e : getC (cellsOf cs) k with
  | none => exact trivial
  | some v =>
    rw [e] at b
    obtain ⟨⟨c, hc, _, hv⟩, _⟩ := b
    show drawnVaD names4 v.2
    rw [hv]
    exact (h c hc).va
abbrev gCs (cs : List Ch) : KV2 → Va := gOf (cellsOf cs)
def Dj2 (a b : List Addr) : Prop := ∀ x ∈ a, x ∉ b
theorem Dj2.symm {a b : List Addr} (h : Dj2 a b) : Dj2 b a := fun x hx z => h x z hx
theorem rest_there {H : Hp} {fp st sx sd dc cp : Addr} {as : List Addr} {paths : List (List Str)} {cl cl2 : List Cel} {cw : List V} (ps : PsAt H fp as paths) (sr : StA P w K CS H st sx sd cl) (hc : CelAt P w K H dc cl2) (hcp : H cp = some (.lst cw)) : ∀ y ∈ (fp :: st :: sd :: dc :: cp :: as), H y ≠ none := fun y z n => by
  simp only [List.mem_cons] at z
  have at_ : SAt CS H st sx sd := sr.at_
  unfold SAt at at_
  obtain ⟨kv1, ⟨xs1, e1, _⟩, _⟩ := sr.nd
  obtain ⟨kv2, ⟨xs2, e2, _⟩, _⟩ := hc
  rcases z with z | z | z | z | z | z
  · have := ps.at_; rw [← z, n] at this; cases this
  · rw [← z, n] at at_; cases at_
  · rw [← z, n] at e1; cases e1
  · rw [← z, n] at e2; cases e2
  · rw [← z, n] at hcp; cases hcp
  · obtain ⟨i, hi⟩ := List.getElem?_of_mem z
    have l := (List.getElem?_eq_some_iff.mp hi).1
    obtain ⟨p, hp⟩ : ∃ p, paths[i]? = some p := ⟨_, List.getElem?_eq_getElem (by rw [← ps.len]; exact l)⟩
    have := ps.ps i y p hi hp
    rw [n] at this; cases this
structure W5 (P : Program) (w : World) (K : PySem.W.Frag) (CS CW : Addr) (H : Hp) (b dg fp lt : Addr) (a : WA) (st sx sd dc : Addr) (as was : List Addr) (paths : List (List Str)) (nt nw : Nat) (tg cs : List Ch) (cp : Addr) (cw tw : List V) : Prop where
  bx : Box K b dg H
  ps : PsAt H fp as paths
  wt : WaAt K CW H a st was (paths.take nw) ((paths.take nw).map (leadV (gCs tg)))
  sr : StA P w K CS H st sx sd (cellsOf tg)
  hdc : CelAt P w K H dc (cellsOf tg)
  hcp : H cp = some (.lst cw)
  hcd : DtsAt K H cw (cs.map chD)
  hlt : H lt = some (.lst tw)
  hld : DtsAt K H tw (((paths.take nt).map (leadV (gCs tg))).map vaD)
  j1 : Dj2 [b, dg] [lt] ∧ Dj2 [b, dg] (fp :: st :: sd :: dc :: cp :: as) ∧ Dj2 [b, dg] (wfoot a was)
  j2 : Dj2 [lt] (fp :: st :: sd :: dc :: cp :: as) ∧ Dj2 [lt] (wfoot a was)
  j3 : Dj2 (fp :: st :: sd :: dc :: cp :: as) (wfoot a was)
section
variable {H H1 : Hp} {b dg fp lt : Addr} {a : WA} {st sx sd dc cp : Addr} {as was : List Addr} {paths : List (List Str)} {nt nw : Nat} {tg cs : List Ch} {cw tw : List V}
theorem W5.rest (h : W5 P w K CS CW H b dg fp lt a st sx sd dc as was paths nt nw tg cs cp cw tw) {M : List Addr} (s : Stp M H H1) (d : Dj2 (fp :: st :: sd :: dc :: cp :: as) M) : PsAt H1 fp as paths ∧ StA P w K CS H1 st sx sd (cellsOf tg) ∧ CelAt P w K H1 dc (cellsOf tg) ∧ H1 cp = some (.lst cw) ∧ DtsAt K H1 cw (cs.map chD) :=
  ⟨h.ps.stp s (d _ (by simp)) fun x hx => d x (by simp [hx]), h.sr.stp s (d _ (by simp)) (d _ (by simp)), h.hdc.stp s (d _ (by simp)), s.keep _ _ h.hcp (d _ (by simp)), chs_stp h.hcd s⟩
theorem W5.stp (h : W5 P w K CS CW H b dg fp lt a st sx sd dc as was paths nt nw tg cs cp cw tw) {M : List Addr} (s : Stp M H H1) (bx : Box K b dg H1) (d1 : Dj2 (fp :: st :: sd :: dc :: cp :: as) M) (d2 : Dj2 (wfoot a was) M) (d3 : lt ∉ M) : W5 P w K CS CW H1 b dg fp lt a st sx sd dc as was paths nt nw tg cs cp cw tw := by
  obtain ⟨r1, r2, r3, r4, r5⟩ := h.rest s d1
  exact ⟨bx, r1, h.wt.stp s d2, r2, r3, r4, r5, s.keep _ _ h.hlt d3, DtsAt.stp s _ _ (vas_flat _) h.hld, h.j1, h.j2, h.j3⟩
theorem W5.grow (h : W5 P w K CS CW H b dg fp lt a st sx sd dc as was paths nt nw tg cs cp cw tw) (s : Stp [] H H1) : W5 P w K CS CW H1 b dg fp lt a st sx sd dc as was paths nt nw tg cs cp cw tw :=
  h.stp s (h.bx.grow s) (fun x _ => by simp) (fun x _ => by simp) (by simp)
theorem W5.draw (h : W5 P w K CS CW H b dg fp lt a st sx sd dc as was paths nt nw tg cs cp cw tw) (s : Stp [b] H H1) (bx : Box K b dg H1) : W5 P w K CS CW H1 b dg fp lt a st sx sd dc as was paths nt nw tg cs cp cw tw :=
  h.stp s bx (fun x hx z => h.j1.2.1 b (by simp) (by rw [← List.mem_singleton.mp z]; exact hx)) (fun x hx z => h.j1.2.2 b (by simp) (by rw [← List.mem_singleton.mp z]; exact hx)) (fun z => h.j1.1 b (by simp) (by rw [List.mem_singleton.mp z]; simp))
/-- all of them stand -/
theorem W5.there (h : W5 P w K CS CW H b dg fp lt a st sx sd dc as was paths nt nw tg cs cp cw tw) {x : Addr} (n : H x = none) : x ∉ [b, dg] ∧ x ≠ lt ∧ x ∉ (fp :: st :: sd :: dc :: cp :: as) ∧ x ∉ wfoot a was := by
  refine ⟨fun z => ?_, fun z => ?_, fun z => rest_there h.ps h.sr h.hdc h.hcp x z n, fun z => h.wt.there z n⟩
  · simp only [List.mem_cons, List.not_mem_nil, or_false] at z
    rcases z with z | z
    · exact h.bx.nin n (by simp [z])
    · exact h.bx.dgn n z.symm
  · have := h.hlt; rw [← z, n] at this; cases this
theorem take_one {α : Type} {l : List α} {n : Nat} {x : α} (h : l[n]? = some x) : l.take (n + 1) = l.take n ++ [x] := by rw [List.take_add_one, h]; rfl
/-- told of one path more -/
theorem W5.tell (h : W5 P w K CS CW H b dg fp lt a st sx sd dc as was paths nt nw tg cs cp cw tw) {p : List Str} {r : V} (hp : paths[nt]? = some p) (dr : DtAt K H r (vaD (leadV (gCs tg) p))) : W5 P w K CS CW (upd H lt (.lst (tw ++ [r]))) b dg fp lt a st sx sd dc as was paths (nt + 1) nw tg cs cp cw (tw ++ [r]) := by
  have s : Stp [lt] H (upd H lt (.lst (tw ++ [r]))) := .wr (by simp) h.hlt fun _ z => nomatch z
  have d1 : Dj2 (fp :: st :: sd :: dc :: cp :: as) [lt] := h.j2.1.symm
  obtain ⟨r1, r2, r3, r4, r5⟩ := h.rest s d1
  refine ⟨h.bx.stp s (fun z => h.j1.1 b (by simp) z) (fun z => h.j1.1 dg (by simp) z), r1, h.wt.stp s h.j2.2.symm, r2, r3, r4, r5, upd_same, ?_, h.j1, h.j2, h.j3⟩
  rw [take_one hp, List.map_append, List.map_append]
  exact (DtsAt.stp s _ _ (vas_flat _) h.hld).append (.cons (DtAt.stp s _ _ (vaD_flat _) dr) .nil)
/-- one path more is watched -/
theorem W5.watch (h : W5 P w K CS CW H b dg fp lt a st sx sd dc as was paths nt nw tg cs cp cw tw) {p : List Str} {na : Addr} (hp : paths[nw]? = some p) (n0 : H na = none) (wt : WaAt K CW H1 a st (was ++ [na]) (paths.take nw ++ [p]) ((paths.take nw).map (leadV (gCs tg)) ++ [leadV (gCs tg) p])) (s : Stp [a.pp, a.tp] H H1) : W5 P w K CS CW H1 b dg fp lt a st sx sd dc as (was ++ [na]) paths nt (nw + 1) tg cs cp cw tw := by
  have sub : ∀ y ∈ [a.pp, a.tp], y ∈ wfoot a was := fun y hy => by
    simp only [List.mem_cons, List.not_mem_nil, or_false] at hy
    rcases hy with e | e <;> rw [e] <;> simp [wfoot]
  obtain ⟨t1, t2, t3, t4⟩ := h.there n0
  have nf : ∀ y ∈ wfoot a (was ++ [na]), y ∈ wfoot a was ∨ y = na := fun y hy => by
    simp only [wfoot, List.mem_cons, List.mem_append, List.not_mem_nil, or_false] at hy ⊢
    rcases hy with e | e | e | e | e
    · exact .inl (.inl e)
    · exact .inl (.inr (.inl e))
    · exact .inl (.inr (.inr (.inl e)))
    · exact .inl (.inr (.inr (.inr e)))
    · exact .inr e
  have d1 : Dj2 (fp :: st :: sd :: dc :: cp :: as) [a.pp, a.tp] := fun y hy z => h.j3 y hy (sub y z)
  obtain ⟨r1, r2, r3, r4, r5⟩ := h.rest s d1
  refine ⟨h.bx.stp s (fun z => h.j1.2.2 b (by simp) (sub _ z)) (fun z => h.j1.2.2 dg (by simp) (sub _ z)), r1, by rw [take_one hp, List.map_append]; exact wt, r2, r3, r4, r5, s.keep _ _ h.hlt (fun z => h.j2.2 lt (by simp) (sub _ z)), DtsAt.stp s _ _ (vas_flat _) h.hld, ⟨h.j1.1, h.j1.2.1, fun y hy z => ?_⟩, ⟨h.j2.1, fun y hy z => ?_⟩, fun y hy z => ?_⟩
  · rcases nf y z with e | e
    · exact h.j1.2.2 y hy e
    · exact t1 (by rw [← e]; exact hy)
  · rcases nf y z with e | e
    · exact h.j2.2 y hy e
    · exact t2 (by rw [← e]; exact List.mem_singleton.mp hy)
  · rcases nf y z with e | e
    · exact h.j3 y hy e
    · exact t3 (by rw [← e]; exact hy)
theorem cut_mid {xs : List V} {n m : Nat} (h : n ≤ m) (l : m ≤ xs.length) : cutV xs (some (n : Int)) (some (m : Int)) = (xs.drop n).take (m - n) := by
  unfold cutV
  simp only [HT.sIx_nat]
  rw [Nat.min_eq_left (Nat.le_trans h l), Nat.min_eq_left l]
theorem touL_take (g : KV2 → Va) (paths : List (List Str)) (keys : List KV2) {m : Nat} (h : m ≤ paths.length) : touL g (paths.take m) keys (paths.take m).length = touL g paths keys m := by
  rw [List.length_take, Nat.min_eq_left h]
  unfold touL
  congr 1
  refine List.filter_congr fun j hj => ?_
  have hj := List.mem_range.mp hj
  unfold touAt
  rw [List.getElem?_take, if_pos hj]
theorem fm_congr {α β : Type} {f g : α → Option β} : ∀ {l : List α}, (∀ x ∈ l, f x = g x) → l.filterMap f = l.filterMap g
  | [], _ => rfl
  | x :: l, h => by rw [List.filterMap_cons, List.filterMap_cons, h x (by simp), fm_congr fun y hy => h y (by simp [hy])]
theorem newsR_take (paths : List (List Str)) (ts : List Va) (f : List Str → Va) {m : Nat} (h : m ≤ paths.length) : newsR (paths.take m) ts ((paths.take m).map f) (paths.take m).length = newsR paths ts (paths.map f) m := by
  rw [List.length_take, Nat.min_eq_left h]
  unfold newsR
  refine fm_congr fun j hj => ?_
  have hj := List.mem_range.mp hj
  unfold newsAt
  rw [List.map_take, List.getElem?_take, if_pos hj, List.getElem?_take, if_pos hj]
theorem newsR_same (ps : List (List Str)) (ts : List Va) (n : Nat) : newsR ps ts ts n = [] := by
  unfold newsR
  rw [List.filterMap_eq_nil_iff]
  intro j _
  unfold newsAt
  cases h1 : ps[j]? with
  | none => rfl
  | some p =>
    cases h2 : ts[j]? with
    | none => rfl
    | some t => simp
theorem news_in {ps : List (List Str)} {ts ns : List Va} {n : Nat} (hp : ∀ p ∈ ps, okPath p) (ht : ∀ t ∈ ts, drawnVaD names4 t) (hn : ∀ t ∈ ns, drawnVaD names4 t) : ∀ x ∈ newsR ps ts ns n, okPath x.1 ∧ drawnVaD names4 x.2.1 ∧ drawnVaD names4 x.2.2 := fun x hx => by
  unfold newsR at hx
  obtain ⟨j, _, hj⟩ := List.mem_filterMap.mp hx
  unfold newsAt at hj
  cases h1 : ps[j]? with
  | none => rw [h1] at hj; cases hj
  | some p =>
    cases h2 : ts[j]? with
    | none => rw [h1, h2] at hj; cases hj
    | some t =>
      cases h3 : ns[j]? with
      | none => rw [h1, h2, h3] at hj; cases hj
      | some m =>
        rw [h1, h2, h3] at hj
        simp only [Option.bind_some] at hj
        split at hj
        · cases hj
        · cases hj
          exact ⟨hp _ (List.mem_of_getElem? h1), ht _ (List.mem_of_getElem? h2), hn _ (List.mem_of_getElem? h3)⟩
theorem ints_dtsW (H : Hp) : ∀ ns : List Int, DtsAt K H (ns.map V.int) (ns.map Dt.num)
  | [] => .nil
  | n :: ns => .cons (.num n) (ints_dtsW H ns)
theorem tou_shows (g : KV2 → Va) (paths : List (List Str)) (keys : List KV2) {n : Nat} (h : n ≤ 100) : (Dt.lst ((touL g paths keys n).map Dt.num)).Shows :=
  list_shows (n := 0) (d := 0) (Nat.le_trans (touL_len g paths keys n) h) (by decide) (by decide) fun x hx => by
    unfold touL at hx
    obtain ⟨j, hj, rfl⟩ := List.mem_map.mp hx
    have hj := List.mem_range.mp (List.mem_filter.mp hj).1
    refine ⟨⟨?_, Nat.zero_le _⟩, by simp [Dt.depth]⟩
    show decide ((j : Int).natAbs < 10 ^ 12) = true
    exact decide_eq_true (by omega)
end
theorem ok_law {f : Addr} {fd : FuncData} (F : FunD K d_law.name d_law.qual d_law.params d_law.body d_law.scope [] [] f fd) (B : Blt mg) (U : WaC K CW) (C_law_box : Cal P w K mg base lv_law_box "_law_box" ["script", "first", "last"] (spBox K)) (C_law_draw : Cal P w K mg base lv_law_draw "_law_draw" ["box", "many"] (spDraw K)) (C_law_paths : Cal P w K mg base lv_law_paths "_law_paths" ["box"] (spPaths K)) (C_law_more : Cal P w K mg base lv_law_more "_law_more" ["box", "clock"] (spMore K)) (C_law_cells : Cal P w K mg base lv_law_cells "_law_cells" ["changes"] (spCells P w K)) (C_law_state : Cal P w K mg base lv_law_state "_law_state" ["changes"] (spState P w K CS)) (I_Watcher : Mki P w K mg base lv_Watcher_init CW "Watcher" ["self", "state"] (spWInit K CW))
    (C_law_walk : Cal P w K mg base lv_law_walk "_law_walk" ["cells", "path"] (spWalk P w K)) (C_law_same : CalG P w K mg base lv_law_same "_law_same" ["one", "other"] (spSame2 K)) (M_Watcher_watch : Mth P w K mg base lv_Watcher_watch CW "watch" ["self", "path"] (spWatch P w K CW CS)) (C_law_right : CalG P w K mg base lv_law_right "_law_right" ["state", "cells", "paths"] (spRight P w K CS)) (M_Watcher_touched : Mth P w K mg base lv_Watcher_touched CW "touched" ["self", "changes"] (spTouched P w K CW CS)) (C_law_touched : Cal P w K mg base lv_law_touched "_law_touched" ["paths", "many", "cells", "changes"] (spTouched2 P w K)) (C_law_local : CalG P w K mg base lv_law_local "_law_local" ["state", "cells", "later", "after", "paths"] (spLocal P w K CS)) (M_Watcher_news : Mth P w K mg base lv_Watcher_news CW "news" ["self", "state"] (spNews P w K CW CS)) (C_law_news : CalG P w K mg base lv_law_news "_law_news" ["paths", "told", "cells"] (spNews2 P w K)) :
    GT.FnG P w K mg base CX0 lv_law f fd ["script"] (spLaw K) := by
  have CL_Watcher := U.cls
  refine GT.FunD.okG F sc_law (fun vs H Q E h => ?_) (fun cdv A outer s H vs Q E hr hG h => ⟨_, PSs.nox
    (pss_cons (ps_set (i := 1) sc_law.nd rfl (Or.inl rfl) (pc_call C_law_box (hr.mono (by decide)) (by rfl) (pa_cons (pv 0) (pa_cons pe_int (pa_cons pe_int pa_nil)))))
    (pss_cons (ps_set (i := 2) sc_law.nd rfl (Or.inl rfl) (pc_call C_law_paths (hr.mono (by decide)) (by rfl) (pa_cons (pv 1) pa_nil)))
    (pss_cons (ps_set (i := 3) sc_law.nd rfl (Or.inl rfl) (pe_op op_cat (pc_call C_law_more (hr.mono (by decide)) (by rfl) (pa_cons (pv 1) (pa_cons pe_int pa_nil))) (pc_call C_law_more (hr.mono (by decide)) (by rfl) (pa_cons (pv 1) (pa_cons pe_int pa_nil)))))
    (pss_cons (ps_set (i := 4) sc_law.nd rfl (Or.inl rfl) (pc_call C_law_cells (hr.mono (by decide)) (by rfl) (pa_cons (pv 3) pa_nil)))
    (pss_cons (ps_set (i := 5) sc_law.nd rfl (Or.inl rfl) (pc_call C_law_state (hr.mono (by decide)) (by rfl) (pa_cons (pv 3) pa_nil)))
    (pss_cons (ps_set (i := 6) sc_law.nd rfl (Or.inl rfl) (pc_make I_Watcher (hr.mono (by decide)) (by rfl) (pa_cons (pv 5) pa_nil)))
    (pss_cons (ps_set (i := 7) sc_law.nd rfl (Or.inl rfl) (pe_lst pa_nil))
    (pss_cons (ps_for PassesOwn.never rfl (pi_range1 rfl B.range (pa_cons pe_int pa_nil)) (pg_name (i := 8) sc_law.nd rfl (Or.inl rfl))
      (pss_cons (ps_set (i := 9) sc_law.nd rfl (Or.inl rfl) (pe_ifExp (pt_cmpR op_lt (pv 8) pe_int (nomark _)) (pe_op op_add (pe_callB call_len_seq (by rfl) B.len boot_len (pa_cons (pv 7) pa_nil)) (pc_call C_law_draw (hr.mono (by decide)) (by rfl) (pa_cons (pv 1) (pa_cons (pe_op op_add (pe_op op_sub (pe_callB call_len_seq (by rfl) B.len boot_len (pa_cons (pv 2) pa_nil)) (pe_callB call_len_seq (by rfl) B.len boot_len (pa_cons (pv 7) pa_nil))) pe_int) pa_nil)))) (pe_callB call_len_seq (by rfl) B.len boot_len (pa_cons (pv 2) pa_nil))))
        (pss_cons (ps_for PassesOwn.never rfl (pi_list (pe_slice sl_list (pv 2) (po_some (pe_callB call_len_seq (by rfl) B.len boot_len (pa_cons (pv 7) pa_nil))) (po_some (pv 9)))) (pg_name (i := 10) sc_law.nd rfl (Or.inl rfl))
          (pss_cons (ps_expr (pe_bm PySem.F.plainAttrs_list PySem.F.slot_list_append PySem.F.type_list_append mt_append (pv 7) (pa_cons (pe_ix (ix_listK (K := K) rfl) (pc_call C_law_walk (hr.mono (by decide)) (by rfl) (pa_cons (pv 4) (pa_cons (pv 10) pa_nil))) pe_int (fun _ _ => rfl)) pa_nil)))
            (pss_one (ps_if (pt_not (pt_val (pc_callG C_law_same hG (hr.mono (by decide)) (by rfl) (pa_cons (pc_meth (pv 6) CL_Watcher M_Watcher_watch (hr.mono (by decide)) (pa_cons (pe_callTy call_list_of (by rfl) B.list (by decide +kernel) (pa_cons (pv 10) pa_nil)) pa_nil)) (pa_cons (pe_ix (ix_listK (K := K) rfl) (pv 7) (pe_un un_neg pe_int) (fun _ _ => rfl)) pa_nil)))))
              (pss_one (ps_ret pe_bl))
              pss_nil))))
        (pss_cons (ps_if (pt_not (pt_val (pc_callG C_law_right hG (hr.mono (by decide)) (by rfl) (pa_cons (pv 5) (pa_cons (pv 4) (pa_cons (pv 2) pa_nil))))))
          (pss_one (ps_ret pe_bl))
          pss_nil)
        (pss_cons (ps_set (i := 11) sc_law.nd rfl (Or.inl rfl) (pc_call C_law_more (hr.mono (by decide)) (by rfl) (pa_cons (pv 1) (pa_cons (pe_op op_add pe_int (pe_op op_mul pe_int (pv 8))) pa_nil))))
        (pss_cons (ps_if (pt_not (pt_val (pc_callG C_law_same hG (hr.mono (by decide)) (by rfl) (pa_cons (pc_meth (pv 6) CL_Watcher M_Watcher_touched (hr.mono (by decide)) (pa_cons (pv 11) pa_nil)) (pa_cons (pc_call C_law_touched (hr.mono (by decide)) (by rfl) (pa_cons (pv 2) (pa_cons (pe_callB call_len_seq (by rfl) B.len boot_len (pa_cons (pv 7) pa_nil)) (pa_cons (pv 4) (pa_cons (pv 11) pa_nil))))) pa_nil)))))
          (pss_one (ps_ret pe_bl))
          pss_nil)
        (pss_cons (ps_set (i := 3) sc_law.nd rfl (Or.inl rfl) (pe_op op_cat (pv 3) (pv 11)))
        (pss_cons (ps_set (i := 12) sc_law.nd rfl (Or.inl rfl) (pc_call C_law_state (hr.mono (by decide)) (by rfl) (pa_cons (pv 3) pa_nil)))
        (pss_cons (ps_set (i := 13) sc_law.nd rfl (Or.inl rfl) (pc_call C_law_cells (hr.mono (by decide)) (by rfl) (pa_cons (pv 3) pa_nil)))
        (pss_cons (ps_if (pt_not (pt_val (pc_callG C_law_local hG (hr.mono (by decide)) (by rfl) (pa_cons (pv 5) (pa_cons (pv 4) (pa_cons (pv 12) (pa_cons (pv 13) (pa_cons (pv 2) pa_nil))))))))
          (pss_one (ps_ret pe_bl))
          pss_nil)
        (pss_cons (ps_if (PW.pt (pw_or (pt_not (pt_val (pc_callG C_law_same hG (hr.mono (by decide)) (by rfl) (pa_cons (pc_meth (pv 6) CL_Watcher M_Watcher_news (hr.mono (by decide)) (pa_cons (pv 12) pa_nil)) (pa_cons (pc_callG C_law_news hG (hr.mono (by decide)) (by rfl) (pa_cons (pv 2) (pa_cons (pv 7) (pa_cons (pv 13) pa_nil)))) pa_nil))))) (pw_or1 (pt_not (pt_val (pc_callG C_law_same hG (hr.mono (by decide)) (by rfl) (pa_cons (pc_meth (pv 6) CL_Watcher M_Watcher_news (hr.mono (by decide)) (pa_cons (pv 12) pa_nil)) (pa_cons (pe_lst pa_nil) pa_nil))))))))
          (pss_one (ps_ret pe_bl))
          pss_nil)
        (pss_cons (ps_set (i := 5) sc_law.nd rfl (Or.inl rfl) (pv 12))
        (pss_one (ps_set (i := 4) sc_law.nd rfl (Or.inl rfl) (pv 13)))))))))))))))
    (pss_one (ps_ret pe_bl)))))))))), ?_⟩)
  · obtain ⟨a, ns, rfl, _⟩ := h
    rfl
  · obtain ⟨a0, ns, rfl, hs, q⟩ := h
    repeat walk_at "h"
    refine ⟨a0, ns, 0, 40, rfl, by decide, by decide, by decide, hs, fun b dg H1 nb ndg b1 s1 => ?_⟩
    clear s1 hs nb ndg
    repeat walk_at "h"
    refine ⟨b, dg, rfl, b1, fun fp as paths H2 nfp nas ps2 okp s2 b2 => ?_⟩
    have fpb : fp ∉ [b] := b1.nin nfp
    have asb : ∀ x ∈ as, x ∉ [b] := fun x hx => b1.nin (nas x hx).1
    have fpd : fp ≠ dg := fun z => b1.dgn nfp z.symm
    have asd : ∀ x ∈ as, x ≠ dg := fun x hx z => b1.dgn (nas x hx).1 z.symm
    clear s2 b1 nfp
    repeat walk_at "h"
    refine ⟨b, dg, 0, rfl, b2, fun p1 w1 c1 H3 np1 e3 d3 l3 m3 s3 b3 => ?_⟩
    have ps3 := ps2.stp s3 fpb asb
    have p1b : p1 ∉ [b] := b2.nin np1
    repeat walk_at "h"
    refine ⟨b, dg, 10, rfl, b3, fun p2 w2 c2 H4 np2 e4 d4 l4 m4 s4 b4 => ?_⟩
    have ps4 := ps3.stp s4 fpb asb
    have e34 := s4.keep _ _ e3 p1b
    have d34 := chs_stp d3 s4
    have w1l : w1.length ≤ 5 := by have := d3.length; rw [List.length_map] at this; omega
    have w2l : w2.length ≤ 5 := by have := d4.length; rw [List.length_map] at this; omega
    refine ⟨_, _, _, _, rfl, rfl, e34, e4, Nat.le_trans (show w1.length + w2.length ≤ 100 by omega) (by decide), fun cp ncp => ?_⟩
    have s5 : Stp [] H4 (upd H4 cp (.lst (w1 ++ w2))) := .new ncp
    have c5 : upd H4 cp (.lst (w1 ++ w2)) cp = some (.lst (w1 ++ w2)) := upd_same
    have d5 : DtsAt K (upd H4 cp (.lst (w1 ++ w2))) (w1 ++ w2) ((c1 ++ c2).map chD) := by
      rw [List.map_append]
      exact (chs_stp d34 s5).append (chs_stp d4 s5)
    have mc : ∀ c ∈ c1 ++ c2, MoreCh c := fun c hc => (List.mem_append.mp hc).elim (m3 c) (m4 c)
    have cl5 : (c1 ++ c2).length ≤ 10 := by rw [List.length_append]; omega
    have ps5 := ps4.stp s5 (by simp) (by simp)
    have b5 := b4.grow s5
    have cpb : cp ∉ [b] := b4.nin ncp
    have cpd : cp ≠ dg := fun z => b4.dgn ncp z.symm
    generalize upd H4 cp (.lst (w1 ++ w2)) = H5 at s5 c5 d5 ps5 b5 ⊢
    generalize c1 ++ c2 = cs at d5 mc cl5
    generalize w1 ++ w2 = cw at c5 d5
    clear s5 s3 s4 e3 d3 e4 d4 e34 d34 ps2 ps3 ps4 b2 b3 b4 ncp np1 np2 p1b m3 m4 l3 l4 w1l w2l nas
    have cwl : cw.length ≤ 1000 := by have := d5.length; rw [List.length_map] at this; omega
    repeat walk_at "h"
    refine ⟨cp, cw, cs, rfl, SqL.of c5, d5, cwl, fun dc kvs H6 ndc hdc ddc s6 => ?_⟩
    have ps6 := ps5.stp s6 (by simp) (by simp)
    have c6 := s6.keep _ _ c5 (by simp)
    have d6 := chs_stp d5 s6
    have C6 : CelAt P w K H6 dc (cellsOf cs) := ⟨kvs, hdc, ddc⟩
    have b6 := b5.grow s6
    have dcb : dc ∉ [b] := b5.nin ndc
    have dcd : dc ≠ dg := fun z => b5.dgn ndc z.symm
    clear hdc ddc s6 b5 c5 d5 ps5
    repeat walk_at "h"
    refine ⟨cp, cw, cs, rfl, SqL.of c6, d6, cwl, fun st sx sd H7 nst nsd stsd S7 s7 => ?_⟩
    have ps7 := ps6.stp s7 (by simp) (by simp)
    have c7 := s7.keep _ _ c6 (by simp)
    have d7 := chs_stp d6 s7
    have C7 := C6.stp s7 (by simp)
    have b7 := b6.grow s7
    have stb : st ∉ [b] := b6.nin nst
    have std : st ≠ dg := fun z => b6.dgn nst z.symm
    have sdb : sd ∉ [b] := b6.nin nsd
    have sdd : sd ≠ dg := fun z => b6.dgn nsd z.symm
    clear s7 b6 c6 d6 C6 ps6
    repeat walk_at "h"
    refine fun x dx nx ndx dxx => ?_
    have s8 : Stp [] H7 (upd (upd H7 dx (.own x)) x (.ins CW dx [])) := (Stp.new ndx).trans (.new (by rw [upd_ne (fun e => dxx e.symm)]; exact nx))
    have x8 : upd (upd H7 dx (.own x)) x (.ins CW dx []) x = some (.ins CW dx []) := upd_same
    have ps8 := ps7.stp s8 (by simp) (by simp)
    have c8 := s8.keep _ _ c7 (by simp)
    have d8 := chs_stp d7 s8
    have C8 := C7.stp s8 (by simp)
    have S8 := S7.stp s8 (by simp) (by simp)
    have b8 := b7.grow s8
    have xb : x ∉ [b] := b7.nin nx
    have xd : x ≠ dg := fun z => b7.dgn nx z.symm
    have there := rest_there ps7 S7 C7 c7
    have xr : x ∉ (fp :: st :: sd :: dc :: cp :: as) := fun hx => there x hx nx
    generalize upd (upd H7 dx (.own x)) x (.ins CW dx []) = H8 at s8 x8 ps8 c8 d8 C8 S8 b8 ⊢
    refine ⟨x, dx, st, rfl, x8, fun pp tp H9 npp ntp wt s9 => ⟨rfl, ?_⟩⟩
    have rx : ∀ y ∈ (fp :: st :: sd :: dc :: cp :: as), y ∉ [x] := fun y hy z => xr (by rw [← List.mem_singleton.mp z]; exact hy)
    have ps9 := ps8.stp s9 (rx _ (by simp)) (fun y hy => rx y (by simp [hy]))
    have c9 := s9.keep _ _ c8 (rx _ (by simp))
    have d9 := chs_stp d8 s9
    have C9 := C8.stp s9 (rx _ (by simp))
    have S9 := S8.stp s9 (rx _ (by simp)) (rx _ (by simp))
    have b9 := b8.stp s9 (by simpa using fun z => xb (by simp [z])) (by simpa using xd.symm)
    have there9 := rest_there ps8 S8 C8 c8
    have wr : ∀ y ∈ wfoot ⟨x, dx, pp, tp⟩ [], (y ≠ b ∧ y ≠ dg) ∧ y ∉ (fp :: st :: sd :: dc :: cp :: as) := fun y hy => by
      simp only [wfoot, List.mem_cons, List.not_mem_nil, or_false] at hy
      rcases hy with rfl | rfl | rfl
      · exact ⟨⟨fun z => xb (by simp [z]), xd⟩, xr⟩
      · exact ⟨⟨fun z => b8.nin npp (by simp [z]), fun z => b8.dgn npp z.symm⟩, fun z => there9 _ z npp⟩
      · exact ⟨⟨fun z => b8.nin ntp (by simp [z]), fun z => b8.dgn ntp z.symm⟩, fun z => there9 _ z ntp⟩
    have rr : ∀ y ∈ (fp :: st :: sd :: dc :: cp :: as), y ≠ b ∧ y ≠ dg := fun y hy => by
      simp only [List.mem_cons] at hy
      rcases hy with rfl | rfl | rfl | rfl | rfl | hy
      · exact ⟨by simpa using fpb, fpd⟩
      · exact ⟨by simpa using stb, std⟩
      · exact ⟨by simpa using sdb, sdd⟩
      · exact ⟨by simpa using dcb, dcd⟩
      · exact ⟨by simpa using cpb, cpd⟩
      · exact ⟨by simpa using asb y hy, asd y hy⟩
    clear s8 x8 ps8 c8 d8 C8 S8 b8 s9 there there9 rx xr xb xd ps7 c7 d7 C7 S7 b7 nx ndx dxx fpb asb fpd asd cpb cpd dcb dcd stb std sdb sdd npp ntp nst nsd ndc
    repeat walk_at "h"
    refine ⟨Nat.zero_le _, fun lt nlt => ?_⟩
    have s10 : Stp [] H9 (upd H9 lt (.lst [])) := .new nlt
    have l10 : upd H9 lt (.lst []) lt = some (.lst []) := upd_same
    have W : W5 P w K CS CW (upd H9 lt (.lst [])) b dg fp lt ⟨x, dx, pp, tp⟩ st sx sd dc as [] paths 0 0 cs cs cp cw [] :=
      ⟨b9.grow s10, ps9.stp s10 (by simp) (by simp), wt.stp s10 (by simp), S9.stp s10 (by simp) (by simp), C9.stp s10 (by simp), s10.keep _ _ c9 (by simp), chs_stp d9 s10, l10, .nil,
        ⟨fun y hy z => by
          rw [List.mem_singleton.mp z] at hy
          simp only [List.mem_cons, List.not_mem_nil, or_false] at hy
          rcases hy with e | e
          · exact b9.nin nlt (by simp [e])
          · exact b9.dgn nlt e.symm, fun y hy z => by
          simp only [List.mem_cons, List.not_mem_nil, or_false] at hy
          rcases hy with e | e
          · exact (rr y z).1 e
          · exact (rr y z).2 e, fun y hy z => by
          simp only [List.mem_cons, List.not_mem_nil, or_false] at hy
          rcases hy with e | e
          · exact (wr y z).1.1 e
          · exact (wr y z).1.2 e⟩,
        ⟨fun y hy z => by
          rw [List.mem_singleton.mp hy] at z
          exact rest_there ps9 S9 C9 c9 _ z nlt, fun y hy z => by
          rw [List.mem_singleton.mp hy] at z
          exact wt.there z nlt⟩,
        fun y hy z => (wr y z).2 hy⟩
    generalize upd H9 lt (.lst []) = H10 at W ⊢
    clear s10 l10 nlt wr rr b9 ps9 wt S9 C9 c9 d9
    repeat walk_at "h"
    refine ⟨4, rfl, by decide, by decide, ?_⟩
    refine for_range (lo := 0) (n := (4 : Int).toNat) (fun i σ H' => ∃ (y8 y9 y10 y11 y12 y13 : Option V) (tp st sx sd dc cp : Addr) (was : List Addr) (n : Nat) (cs : List Ch) (cw tw : List V), σ = [some (.ref a0), some (.ref b), some (.ref fp), some (.ref cp), some (.ref dc), some (.ref st), some (.ref x), some (.ref lt), y8, y9, y10, y11, y12, y13] ∧
        W5 P w K CS CW H' b dg fp lt ⟨x, dx, pp, tp⟩ st sx sd dc as was paths n n cs cs cp cw tw ∧ n ≤ paths.length ∧ cs.length ≤ 10 + 5 * i ∧ (∀ c ∈ cs, MoreCh c))
      ⟨_, _, _, _, _, _, tp, st, sx, sd, dc, cp, [], 0, cs, cw, [], rfl, W, Nat.zero_le _, by omega, mc⟩ ?_ ?_
    · clear W mc cl5 cwl
      rintro i σ H11 hi ⟨y8, y9, y10, y11, y12, y13, tp, st, sx, sd, dc, cp, was, n, cs, cw, tw, rfl, W, np, cl, mc⟩
      have i4 : i < 4 := hi
      have okg := okg_of mc
      have al := W.ps.len
      have pn9 := okp.1.2
      have twl : tw.length = n := by
        have := W.hld.length
        rw [List.length_map, List.length_map, List.length_take] at this
        omega
      repeat walk_at "h"
      refine i_iteD (fun c => ?pos) (fun c => ?neg)
      case' pos =>
        repeat walk_at "h"
        refine ⟨lt, _, rfl, .inl (SqL.of W.hlt), ?_⟩
        rw [twl]
        repeat walk_at "h"
        refine ⟨fp, _, rfl, .inl (SqL.of W.ps.at_), ?_⟩
        rw [List.length_map, al]
        repeat walk_at "h"
        refine ⟨lt, _, rfl, .inl (SqL.of W.hlt), ?_⟩
        rw [twl]
        repeat walk_at "h"
        refine ⟨b, dg, (paths.length : Int) - (n : Int) + 1, rfl, by omega, W.bx, fun d H12 d0 d1 s12 b12 => ?_⟩
        have W := W.draw s12 b12
        obtain ⟨mo, hmo⟩ : ∃ mo : Nat, (n : Int) + d = (mo : Int) := ⟨((n : Int) + d).toNat, by omega⟩
        repeat walk_at "h"
        rw [hmo]
        have mo1 : n ≤ mo := by omega
        have mo2 : mo ≤ paths.length := by omega
        clear hmo d0 d1 s12 b12
      case' neg =>
        repeat walk_at "h"
        refine ⟨fp, _, rfl, .inl (SqL.of W.ps.at_), ?_⟩
        rw [List.length_map, al]
        generalize H11 = H12 at W ⊢
        have mo2 : paths.length ≤ paths.length := Nat.le_refl _
        have mo1 := np
        generalize hmo : paths.length = mo at mo1 ⊢
        have mo2 : mo ≤ paths.length := by omega
        clear hmo
      all_goals
        repeat walk_at "h"
        refine ⟨lt, _, rfl, .inl (SqL.of W.hlt), ?_⟩
        rw [twl]
        repeat walk_at "h"
        refine ⟨fp, as.map V.ref, rfl, SqL.of W.ps.at_, fun tl ntl => ?_⟩
        rw [cut_mid mo1 (by rw [List.length_map, al]; exact mo2)]
        have s13 : Stp [] H12 (upd H12 tl (.lst (((as.map V.ref).drop n).take (mo - n)))) := .new ntl
        have l13 : upd H12 tl (.lst (((as.map V.ref).drop n).take (mo - n))) tl = some (.lst (((as.map V.ref).drop n).take (mo - n))) := upd_same
        obtain ⟨q1, q2, q3, q4⟩ := W.there ntl
        have tlp : tl ≠ x ∧ tl ≠ pp ∧ tl ≠ tp := by
          simp only [wfoot, List.mem_cons, not_or] at q4
          exact ⟨q4.1, q4.2.1, q4.2.2.1⟩
        have W := W.grow s13
        generalize upd H12 tl (.lst (((as.map V.ref).drop n).take (mo - n))) = H13 at s13 l13 W ⊢
        clear s13 ntl q1 q3 q4
        refine ⟨tl, rfl, ⟨_, SqL.of l13⟩, ?_⟩
        refine for_list (xs := ((as.map V.ref).drop n).take (mo - n)) (fun k σ H' => ∃ (y10 : Option V) (was : List Addr) (tw : List V), σ = [some (.ref a0), some (.ref b), some (.ref fp), some (.ref cp), some (.ref dc), some (.ref st), some (.ref x), some (.ref lt), some (.int (0 + (i : Int))), some (.int (mo : Nat)), y10, y11, y12, y13] ∧
            W5 P w K CS CW H' b dg fp lt ⟨x, dx, pp, tp⟩ st sx sd dc as was paths (n + k) (n + k) cs cs cp cw tw ∧ H' tl = some (.lst (((as.map V.ref).drop n).take (mo - n))))
          ⟨_, was, tw, rfl, W, l13⟩ (fun k σ H' _ ⟨_, _, _, _, _, h⟩ => SqL.of h) ?_ ?_
        · clear W l13
          rintro k v σ H14 hv ⟨y10, was, tw, rfl, W, l14⟩
          have kl : k < mo - n := by
            have := (List.getElem?_eq_some_iff.mp hv).1
            rw [List.length_take] at this
            omega
          rw [List.getElem?_take, if_pos kl, List.getElem?_drop] at hv
          obtain ⟨qa, p, hqa, hp, rfl, hl⟩ := W.ps.get hv
          have okq := okp.2 p (List.mem_of_getElem? hp)
          have p4 := okq.1
          have twl : tw.length = n + k := by
            have := W.hld.length
            rw [List.length_map, List.length_map, List.length_take] at this
            omega
          repeat walk_at "h"
          refine ⟨.inl ⟨rfl, _, SqL.of W.hlt⟩, ?_⟩
          repeat walk_at "h"
          refine ⟨dc, qa, cellsOf cs, p, rfl, W.hdc, hl, by omega, fun wp vp ap r H15 m1 m2 m3 wk s15 => ?_⟩
          have W := W.grow s15
          have hl := s15.keep _ _ hl (by simp)
          have l15 := s15.keep _ _ l14 (by simp)
          repeat walk_at "h"
          refine i_IxL (SqL.of wk.at_) (at_of (j := 2) rfl rfl) ?_
          have lv := wk.lv
          clear wk s15 l14 m1 m2 m3
          repeat walk_at "h"
          refine ⟨lt, tw, r, rfl, rfl, W.hlt, Nat.lt_of_le_of_lt (show tw.length ≤ 100 by omega) (by decide), ?_⟩
          have s16 : Stp [lt] H15 (upd H15 lt (.lst (tw ++ [r]))) := .wr (by simp) W.hlt fun _ z => nomatch z
          have lne : lt ∉ as := fun z => W.j2.1 lt (by simp) (by simp [z])
          have hl := s16.keep _ _ hl (by simpa using fun z => lne (by rw [← z]; exact List.mem_of_getElem? hqa))
          have l16 := s16.keep _ _ l15 (by simpa using q2)
          have W := W.tell hp lv
          generalize upd H15 lt (.lst (tw ++ [r])) = H16 at hl l16 W ⊢
          clear s16 l15 lv
          repeat walk_at "h"
          refine ⟨x, dx, _, rfl, W.wt.at_, rfl, ?_⟩
          repeat walk_at "h"
          refine ⟨qa, _, rfl, .inl (SqL.of hl), fun l nl => ?_⟩
          have s17 : Stp [] H16 (upd H16 l (.lst (p.map V.str))) := .new nl
          have e17 : upd H16 l (.lst (p.map V.str)) l = some (.lst (p.map V.str)) := upd_same
          have W := W.grow s17
          have l17 := s17.keep _ _ l16 (by simp)
          generalize upd H16 l (.lst (p.map V.str)) = H17 at s17 e17 W l17 ⊢
          clear s17 l16 hl nl
          repeat walk_at "h"
          refine ⟨⟨x, dx, pp, tp⟩, st, sx, sd, l, cellsOf cs, was, paths.take (n + k), _, p, rfl, W.wt, W.sr.r, e17, by omega, by rw [List.length_take]; omega, fun u na H18 na0 du wt' s18 => ?_⟩
          have W := W.watch hp na0 wt' s18
          have l18 := s18.keep _ _ l17 (by simpa using tlp.2)
          clear s18 wt' e17 l17 na0
          repeat walk_at "h"
          have dl := W.hld
          rw [show n + k + 1 = (n + k) + 1 from rfl, take_one hp, List.map_append] at dl
          obtain ⟨lv, hlv, dlv⟩ := at_lastD dl (by simp)
          have el : lastV ((paths.take (n + k)).map (leadV (gCs cs)) ++ [p].map (leadV (gCs cs))) = leadV (gCs cs) p := lastV_snoc _ _
          rw [el] at dlv
          refine i_IxL (SqL.of W.hlt) hlv ?_
          repeat walk_at "h"
          refine same_of (d := vaD (leadV (gCs cs) p)) du dlv (va_shows (lead_drawn okg p)) ?_
          repeat walk_at "h"
          refine iteF ?_
          repeat walk_at "h"
          exact ⟨_, _, _, rfl, W, l18⟩
        · clear W l13
          rintro σ H14 ⟨y10, was, tw, rfl, W, l14⟩
          have el : n + (((as.map V.ref).drop n).take (mo - n)).length = mo := by
            rw [List.length_take, List.length_drop, List.length_map, al]
            omega
          rw [el] at W
          clear l14 el tlp q2 twl
          have twl : tw.length = mo := by
            have := W.hld.length
            rw [List.length_map, List.length_map, List.length_take] at this
            omega
          have pll : ∀ p ∈ paths, p.length ≤ 100 := fun p hp => by have := (okp.2 p hp).1; omega
          have tml : (paths.take mo).length = mo := by rw [List.length_take]; omega
          have pll2 : ∀ p ∈ paths.take mo, p.length ≤ 100 := fun p hp => pll p (List.mem_of_mem_take hp)
          repeat walk_at "h"
          refine ⟨st, sx, sd, dc, fp, cellsOf cs, as, paths, rfl, W.sr.r, W.hdc, W.ps, okp, okg, fun H15 s15 => ?_⟩
          have W := W.grow s15
          clear s15
          repeat walk_at "h"
          refine iteF ?_
          repeat walk_at "h"
          refine ⟨b, dg, _, rfl, W.bx, fun rp rw_ rc H16 nrp e16 d16 l16 m16 s16 b16 => ?_⟩
          have W := W.draw s16 b16
          clear s16 b16
          have rwl : rw_.length ≤ 5 := by have := d16.length; rw [List.length_map] at this; omega
          repeat walk_at "h"
          refine ⟨x, dx, _, rfl, W.wt.at_, rfl, ?_⟩
          repeat walk_at "h"
          refine ⟨⟨x, dx, pp, tp⟩, st, sx, sd, rp, cellsOf cs, was, paths.take mo, _, rw_, rc, rfl, W.wt, W.sr.r, by omega, pll2, e16, d16, by omega, fun p1 H17 np1 e17 s17 => ?_⟩
          have W := W.grow s17
          have r17 := s17.keep _ _ e16 (by simp)
          have d17 := chs_stp d16 s17
          clear s17 e16 d16
          rw [touL_take _ _ _ mo2] at e17
          repeat walk_at "h"
          refine ⟨lt, tw, rfl, .inl (SqL.of W.hlt), ?_⟩
          rw [twl]
          repeat walk_at "h"
          refine ⟨fp, dc, rp, cellsOf cs, as, paths, mo, rw_, rc, rfl, W.ps, W.hdc, mo2, by omega, pll, r17, d17, by omega, fun p2 H18 np2 e18 s18 => ?_⟩
          have W := W.grow s18
          have r18 := s18.keep _ _ r17 (by simp)
          have d18 := chs_stp d17 s18
          have e17 := s18.keep _ _ e17 (by simp)
          clear s18 r17 d17
          repeat walk_at "h"
          refine same_of (d := .lst ((touL (gCs cs) paths (keysCh rc) mo).map Dt.num)) (.lst (SqL.of e17) (ints_dtsW _ _)) (.lst (SqL.of e18) (ints_dtsW _ _)) (tou_shows _ _ _ (by omega)) ?_
          clear e17 e18
          repeat walk_at "h"
          refine iteF ?_
          repeat walk_at "h"
          have cwl : cw.length ≤ 50 := by have := W.hcd.length; rw [List.length_map] at this; omega
          refine ⟨_, _, _, _, rfl, rfl, W.hcp, r18, Nat.le_trans (show cw.length + rw_.length ≤ 100 by omega) (by decide), fun cp2 ncp2 => ?_⟩
          have s19 : Stp [] H18 (upd H18 cp2 (.lst (cw ++ rw_))) := .new ncp2
          have c19 : upd H18 cp2 (.lst (cw ++ rw_)) cp2 = some (.lst (cw ++ rw_)) := upd_same
          have d19 : DtsAt K (upd H18 cp2 (.lst (cw ++ rw_))) (cw ++ rw_) ((cs ++ rc).map chD) := by
            rw [List.map_append]
            exact (chs_stp W.hcd s19).append (chs_stp d18 s19)
          have mc2 : ∀ c ∈ cs ++ rc, MoreCh c := fun c hc => (List.mem_append.mp hc).elim (mc c) (m16 c)
          have cl2 : (cs ++ rc).length ≤ 10 + 5 * (i + 1) := by rw [List.length_append]; omega
          have tcp := W.there ncp2
          have W := W.grow s19
          have okg2 := okg_of mc2
          generalize upd H18 cp2 (.lst (cw ++ rw_)) = H19 at s19 c19 d19 W ⊢
          generalize cs ++ rc = cs2 at d19 mc2 cl2 okg2 ⊢
          have cwl2 : (cw ++ rw_).length ≤ 1000 := by rw [List.length_append]; omega
          generalize cw ++ rw_ = cw2 at c19 d19 cwl2 ⊢
          clear s19 ncp2 r18 d18 l16 m16 rwl cwl
          repeat walk_at "h"
          refine ⟨cp2, cw2, cs2, rfl, SqL.of c19, d19, cwl2, fun st2 sx2 sd2 H20 nst2 nsd2 stsd2 S20 s20 => ?_⟩
          have tst := W.there nst2
          have tsd := W.there nsd2
          have W := W.grow s20
          have c20 := s20.keep _ _ c19 (by simp)
          have d20 := chs_stp d19 s20
          clear s20 c19 d19 nst2 nsd2
          repeat walk_at "h"
          refine ⟨cp2, cw2, cs2, rfl, SqL.of c20, d20, cwl2, fun dc2 kvs H21 ndc2 hdc2 ddc2 s21 => ?_⟩
          have tdc := W.there ndc2
          have W := W.grow s21
          have c21 := s21.keep _ _ c20 (by simp)
          have d21 := chs_stp d20 s21
          have S21 := S20.stp s21 (by simp) (by simp)
          have C21 : CelAt P w K H21 dc2 (cellsOf cs2) := ⟨kvs, hdc2, ddc2⟩
          clear s21 c20 d20 S20 ndc2 hdc2 ddc2
          -- the new ones, apart from the others
          have nj : ∀ y ∈ (fp :: st2 :: sd2 :: dc2 :: cp2 :: as), y ∉ [b, dg] ∧ y ≠ lt ∧ y ∉ wfoot ⟨x, dx, pp, tp⟩ was := fun y hy => by
            simp only [List.mem_cons] at hy
            rcases hy with e | e | e | e | e | e
            · rw [e]; exact ⟨fun z => W.j1.2.1 fp z (by simp), fun z => W.j2.1 lt (by simp) (by simp [← z]), W.j3 fp (by simp)⟩
            · rw [e]; exact ⟨tst.1, tst.2.1, tst.2.2.2⟩
            · rw [e]; exact ⟨tsd.1, tsd.2.1, tsd.2.2.2⟩
            · rw [e]; exact ⟨tdc.1, tdc.2.1, tdc.2.2.2⟩
            · rw [e]; exact ⟨tcp.1, tcp.2.1, tcp.2.2.2⟩
            · exact ⟨fun z => W.j1.2.1 y z (by simp [e]), fun z => W.j2.1 lt (by simp) (by simp [← z, e]), W.j3 y (by simp [e])⟩
          clear tst tsd tdc tcp
          repeat walk_at "h"
          refine ⟨st, sx, sd, st2, sx2, sd2, dc, dc2, fp, cellsOf cs, cellsOf cs2, as, paths, rfl, W.sr.r, S21.r, W.hdc, W.ps, okp, okg, okg2, fun H22 s22 => ?_⟩
          have W := W.grow s22
          have c22 := s22.keep _ _ c21 (by simp)
          have d22 := chs_stp d21 s22
          have S22 := S21.stp s22 (by simp) (by simp)
          have C22 := C21.stp s22 (by simp)
          clear s22 c21 d21 S21 C21
          repeat walk_at "h"
          refine iteF ?_
          repeat walk_at "h"
          refine ⟨x, dx, _, rfl, W.wt.at_, rfl, ?_⟩
          repeat walk_at "h"
          refine ⟨⟨x, dx, pp, tp⟩, st, st2, sx2, sd2, cellsOf cs2, was, paths.take mo, _, rfl, W.wt, S22.r, by omega, pll2, fun r1 vp acc H23 nr1 nvp e23 nws wt23 s23 => ?_⟩
          rw [newsR_take _ _ _ mo2] at nws
          have xw : x ∈ wfoot ⟨x, dx, pp, tp⟩ was := by simp [wfoot]
          have rx : ∀ y ∈ (fp :: st2 :: sd2 :: dc2 :: cp2 :: as), y ∉ [x] := fun y hy z => (nj y hy).2.2 (by rw [List.mem_singleton.mp z]; exact xw)
          have tr1 := W.there nr1
          have tvp := W.there nvp
          have ps23 := W.ps.stp s23 (rx _ (by simp)) (fun y hy => rx y (by simp [hy]))
          have S23 := S22.stp s23 (rx _ (by simp)) (rx _ (by simp))
          have C23 := C22.stp s23 (rx _ (by simp))
          have c23 := s23.keep _ _ c22 (rx _ (by simp))
          have d23 := chs_stp d22 s23
          have jw := W.j1.2.2
          have jl := W.j2.2
          have jb := W.j1.1
          have b23 := W.bx.stp s23 (fun z => jw b (by simp) (by rw [List.mem_singleton.mp z]; exact xw)) (fun z => jw dg (by simp) (by rw [List.mem_singleton.mp z]; exact xw))
          have l23 := s23.keep _ _ W.hlt (fun z => jl lt (by simp) (by rw [List.mem_singleton.mp z]; exact xw))
          have ld23 := DtsAt.stp s23 _ _ (vas_flat _) W.hld
          have lt22 : H22 lt ≠ none := by rw [W.hlt]; simp
          have tdr : ∀ t ∈ (paths.take mo).map (leadV (gCs cs)), drawnVaD names4 t := fun t ht => by
            obtain ⟨p, _, rfl⟩ := List.mem_map.mp ht
            exact lead_drawn okg p
          clear W S22 C22 c22 d22 s23 rx
          repeat walk_at "h"
          refine ⟨fp, lt, dc2, cellsOf cs2, as, paths, tw, _, rfl, ps23, C23, l23, ld23, by rw [List.length_map, tml]; exact mo2, by omega, pll, okg2, tdr, fun z => (nj fp (by simp)).2.1 z.symm, fun z => (nj lt (by simp [z])).2.1 rfl, fun z => (nj dc2 (by simp)).2.1 z.symm, fun r2 acc2 tw2 H24 nr2 e24 nws2 lt24 ld24 s24 => ?_⟩
          rw [List.length_map, tml] at nws2 ld24
          rw [← List.map_take] at ld24
          have rl : ∀ y ∈ (fp :: st2 :: sd2 :: dc2 :: cp2 :: as), y ∉ [lt] := fun y hy z => (nj y hy).2.1 (List.mem_singleton.mp z)
          have ps24 := ps23.stp s24 (rl _ (by simp)) (fun y hy => rl y (by simp [hy]))
          have S24 := S23.stp s24 (rl _ (by simp)) (rl _ (by simp))
          have C24 := C23.stp s24 (rl _ (by simp))
          have c24 := s24.keep _ _ c23 (rl _ (by simp))
          have d24 := chs_stp d23 s24
          have b24 := b23.stp s24 (fun z => jb b (by simp) z) (fun z => jb dg (by simp) z)
          have wf24 : ∀ y ∈ wfoot ⟨x, dx, pp, vp⟩ was, y ≠ lt := fun y hy z => by
            simp only [wfoot, List.mem_cons] at hy
            rcases hy with e | e | e | e
            · exact jl lt (by simp) (by rw [← z, e]; exact xw)
            · exact jl lt (by simp) (by rw [← z, e]; simp [wfoot])
            · exact tvp.2.1 (by rw [← e]; exact z)
            · exact jl lt (by simp) (by rw [← z]; simp [wfoot, e])
          have wt24 := wt23.stp s24 (fun y hy => by simpa using wf24 y hy)
          have e23 := s24.keep _ _ e23 (by simpa using tr1.2.1)
          have nws := nws.stp s24 (fun l o => by
            simp only [List.mem_singleton]
            rintro rfl
            exact lt22 o)
          clear s24 ps23 S23 C23 c23 d23 b23 l23 ld23 wt23 nr1 nvp tr1 rl nr2
          repeat walk_at "h"
          have nvd : ∀ t ∈ paths.map (leadV (gCs cs2)), drawnVaD names4 t := fun t ht => by
            obtain ⟨p, _, rfl⟩ := List.mem_map.mp ht
            exact lead_drawn okg2 p
          refine same_of (d := .lst ((newsR paths ((paths.take mo).map (leadV (gCs cs))) (paths.map (leadV (gCs cs2))) mo).map newsD)) (.lst (SqL.of e23) nws.dts) (.lst (SqL.of e24) nws2.dts) (news_shows (news_in okp.2 tdr nvd) (Nat.le_trans (newsR_len ..) (by omega))) ?_
          clear nws nws2 e23 e24
          repeat walk_at "h"
          refine iteF ?_
          repeat walk_at "h"
          refine ⟨x, dx, _, rfl, wt24.at_, rfl, ?_⟩
          repeat walk_at "h"
          refine ⟨⟨x, dx, pp, vp⟩, st2, st2, sx2, sd2, cellsOf cs2, was, paths.take mo, _, rfl, wt24, S24.r, by omega, pll2, fun r3 vp3 acc3 H25 nr3 nvp3 e25 nws3 wt25 s25 => ?_⟩
          rw [newsR_same] at nws3
          have ea : acc3 = [] := List.eq_nil_of_length_eq_zero nws3.len
          subst ea
          have rx : ∀ y ∈ (fp :: st2 :: sd2 :: dc2 :: cp2 :: as), y ∉ [x] := fun y hy z => (nj y hy).2.2 (by rw [List.mem_singleton.mp z]; exact xw)
          have vpr := rest_there ps24 S24 C24 c24
          have vpl : vp3 ≠ lt := fun z => by rw [z, lt24] at nvp3; cases nvp3
          have ps25 := ps24.stp s25 (rx _ (by simp)) (fun y hy => rx y (by simp [hy]))
          have S25 := S24.stp s25 (rx _ (by simp)) (rx _ (by simp))
          have C25 := C24.stp s25 (rx _ (by simp))
          have c25 := s25.keep _ _ c24 (rx _ (by simp))
          have d25 := chs_stp d24 s25
          have b25 := b24.stp s25 (fun z => jw b (by simp) (by rw [List.mem_singleton.mp z]; exact xw)) (fun z => jw dg (by simp) (by rw [List.mem_singleton.mp z]; exact xw))
          have lt25 := s25.keep _ _ lt24 (fun z => jl lt (by simp) (by rw [List.mem_singleton.mp z]; exact xw))
          have ld25 := DtsAt.stp s25 _ _ (vas_flat _) ld24
          repeat walk_at "h"
          refine ⟨Nat.zero_le _, fun el nel => ?_⟩
          have s26 : Stp [] H25 (upd H25 el (.lst [])) := .new nel
          have l26 : upd H25 el (.lst []) el = some (.lst []) := upd_same
          have e26 := s26.keep _ _ e25 (by simp)
          repeat walk_at "h"
          refine same_of (d := .lst ([] : List Dt)) (.lst (SqL.of e26) .nil) (.lst (SqL.of l26) .nil) (Dt.shows_of (by decide) (by decide) (by decide)) ?_
          repeat walk_at "h"
          refine iteF ?_
          repeat walk_at "h"
          refine ⟨_, _, _, _, _, _, vp3, st2, sx2, sd2, dc2, cp2, was, mo, cs2, cw2, tw2, rfl, ⟨b25.grow s26, ps25.stp s26 (by simp) (by simp), wt25.stp s26 (by simp), S25.stp s26 (by simp) (by simp), C25.stp s26 (by simp), s26.keep _ _ c25 (by simp), chs_stp d25 s26, s26.keep _ _ lt25 (by simp), DtsAt.stp s26 _ _ (vas_flat _) ld25, ⟨jb, fun y hy z => (nj y z).1 hy, fun y hy z => ?_⟩, ⟨fun y hy z => (nj y z).2.1 (List.mem_singleton.mp hy), fun y hy z => ?_⟩, fun y hy z => ?_⟩, by first | exact mo2 | exact Nat.le_refl _, cl2, mc2⟩
          · simp only [wfoot, List.mem_cons] at z
            rcases z with e | e | e | e
            · exact jw y hy (by rw [e]; exact xw)
            · exact jw y hy (by rw [e]; simp [wfoot])
            · simp only [List.mem_cons, List.not_mem_nil, or_false] at hy
              rcases hy with e2 | e2
              · exact b24.nin nvp3 (by rw [← e, e2]; simp)
              · exact b24.dgn nvp3 (by rw [← e, e2])
            · exact jw y hy (by simp [wfoot, e])
          · have hy := List.mem_singleton.mp hy
            simp only [wfoot, List.mem_cons] at z
            rcases z with e | e | e | e
            · exact jl lt (by simp) (by rw [← hy, e]; exact xw)
            · exact jl lt (by simp) (by rw [← hy, e]; simp [wfoot])
            · exact vpl (by rw [← e]; exact hy)
            · exact jl lt (by simp) (by rw [← hy]; simp [wfoot, e])
          · simp only [wfoot, List.mem_cons] at z
            rcases z with e | e | e | e
            · exact (nj y hy).2.2 (by rw [e]; exact xw)
            · exact (nj y hy).2.2 (by rw [e]; simp [wfoot])
            · exact vpr y hy (by rw [e]; exact nvp3)
            · exact (nj y hy).2.2 (by simp [wfoot, e])
    · rintro σ H11 ⟨y8, y9, y10, y11, y12, y13, tp, st, sx, sd, dc, cp, was, n, cs, cw, tw, rfl, W, np, cl, mc⟩
      repeat walk_at "h"
      exact q _
end

theorem facts {P : Program} {w : World} {K : PySem.W.Frag} {h : Heap} {mg : Str → Option Value} {f : Addr} (X : K.In h) (G : h.Ns mainGlobals mg) (hfa : mg ("law" : Str) = some (.ref f)) (c : He.SaysX fa fn [] tf exB w h K) :
    ∃ fd : FuncData, (∀ (s : Shared) (v : Value), BindsTo s fd ⟨[v], []⟩ [("script", v)]) ∧ ∀ base : Heap, K.In base → base.Ns mainGlobals mg → GT.FnG P w K mg base CX0 lv_law f fd ["script"] (spLaw K) := by
  have D_reference : Df K mg d_reference := by obtain ⟨fd, F⟩ := c.t.d.def_ 0 (d := d_reference) rfl; exact ⟨_, fd, F, He.glo_ok X G (c.t.d.fact 0 (f := .glo "reference") rfl)⟩
  have D_linked_name : Df K mg d_linked_name := by obtain ⟨fd, F⟩ := c.t.d.def_ 1 (d := d_linked_name) rfl; exact ⟨_, fd, F, He.glo_ok X G (c.t.d.fact 1 (f := .glo "linked_name") rfl)⟩
  obtain ⟨fd_Watcher_init, F_Watcher_init⟩ := c.t.d.def_ 2 (d := d_Watcher_init) rfl
  obtain ⟨fd_Watcher_watch, F_Watcher_watch⟩ := c.t.d.def_ 3 (d := d_Watcher_watch) rfl
  obtain ⟨fd_Watcher_news, F_Watcher_news⟩ := c.t.d.def_ 4 (d := d_Watcher_news) rfl
  obtain ⟨fd_Watcher_touched, F_Watcher_touched⟩ := c.t.d.def_ 5 (d := d_Watcher_touched) rfl
  have D_follow : Df K mg d_follow := by obtain ⟨fd, F⟩ := c.t.d.def_ 6 (d := d_follow) rfl; exact ⟨_, fd, F, He.glo_ok X G (c.t.d.fact 2 (f := .glo "follow") rfl)⟩
  have D_value_at : Df K mg d_value_at := by obtain ⟨fd, F⟩ := c.t.d.def_ 7 (d := d_value_at) rfl; exact ⟨_, fd, F, He.glo_ok X G (c.t.d.fact 3 (f := .glo "value_at") rfl)⟩
  have D_cells_of : Df K mg d_cells_of := by obtain ⟨fd, F⟩ := c.t.d.def_ 8 (d := d_cells_of) rfl; exact ⟨_, fd, F, He.glo_ok X G (c.t.d.fact 4 (f := .glo "cells_of") rfl)⟩
  have D_is_later : Df K mg d_is_later := by obtain ⟨fd, F⟩ := c.t.d.def_ 9 (d := d_is_later) rfl; exact ⟨_, fd, F, He.glo_ok X G (c.t.d.fact 5 (f := .glo "is_later") rfl)⟩
  have D_sorted_changes : Df K mg d_sorted_changes := by obtain ⟨fd, F⟩ := c.t.d.def_ 10 (d := d_sorted_changes) rfl; exact ⟨_, fd, F, He.glo_ok X G (c.t.d.fact 6 (f := .glo "sorted_changes") rfl)⟩
  obtain ⟨fd_State_init, F_State_init⟩ := c.t.d.def_ 11 (d := d_State_init) rfl
  obtain ⟨fd_State_take, F_State_take⟩ := c.t.d.def_ 12 (d := d_State_take) rfl
  obtain ⟨fd_State_value, F_State_value⟩ := c.t.d.def_ 13 (d := d_State_value) rfl
  obtain ⟨fd_State_stamp, F_State_stamp⟩ := c.t.d.def_ 14 (d := d_State_stamp) rfl
  obtain ⟨fd_State_fields, F_State_fields⟩ := c.t.d.def_ 15 (d := d_State_fields) rfl
  obtain ⟨fd_State_names, F_State_names⟩ := c.t.d.def_ 16 (d := d_State_names) rfl
  obtain ⟨fd_State_changes, F_State_changes⟩ := c.t.d.def_ 17 (d := d_State_changes) rfl
  have D_law_cell : Df K mg d_law_cell := by obtain ⟨fd, F⟩ := c.t.d.def_ 18 (d := d_law_cell) rfl; exact ⟨_, fd, F, He.glo_ok X G (c.t.d.fact 7 (f := .glo "_law_cell") rfl)⟩
  have D_law_row : Df K mg d_law_row := by obtain ⟨fd, F⟩ := c.t.d.def_ 19 (d := d_law_row) rfl; exact ⟨_, fd, F, He.glo_ok X G (c.t.d.fact 8 (f := .glo "_law_row") rfl)⟩
  have D_law_box : Df K mg d_law_box := by obtain ⟨fd, F⟩ := c.t.d.def_ 20 (d := d_law_box) rfl; exact ⟨_, fd, F, He.glo_ok X G (c.t.d.fact 9 (f := .glo "_law_box") rfl)⟩
  have D_law_draw : Df K mg d_law_draw := by obtain ⟨fd, F⟩ := c.t.d.def_ 21 (d := d_law_draw) rfl; exact ⟨_, fd, F, He.glo_ok X G (c.t.d.fact 10 (f := .glo "_law_draw") rfl)⟩
  have D_law_same : Df K mg d_law_same := by obtain ⟨fd, F⟩ := c.t.d.def_ 22 (d := d_law_same) rfl; exact ⟨_, fd, F, He.glo_ok X G (c.t.d.fact 11 (f := .glo "_law_same") rfl)⟩
  have D_law_pick : Df K mg d_law_pick := by obtain ⟨fd, F⟩ := c.t.d.def_ 23 (d := d_law_pick) rfl; exact ⟨_, fd, F, He.glo_ok X G (c.t.d.fact 12 (f := .glo "_law_pick") rfl)⟩
  have D_law_target : Df K mg d_law_target := by obtain ⟨fd, F⟩ := c.t.d.def_ 24 (d := d_law_target) rfl; exact ⟨_, fd, F, He.glo_ok X G (c.t.d.fact 13 (f := .glo "_law_target") rfl)⟩
  have D_law_worth : Df K mg d_law_worth := by obtain ⟨fd, F⟩ := c.t.d.def_ 25 (d := d_law_worth) rfl; exact ⟨_, fd, F, He.glo_ok X G (c.t.d.fact 14 (f := .glo "_law_worth") rfl)⟩
  have D_law_cells : Df K mg d_law_cells := by obtain ⟨fd, F⟩ := c.t.d.def_ 26 (d := d_law_cells) rfl; exact ⟨_, fd, F, He.glo_ok X G (c.t.d.fact 15 (f := .glo "_law_cells") rfl)⟩
  have D_law_state : Df K mg d_law_state := by obtain ⟨fd, F⟩ := c.t.d.def_ 27 (d := d_law_state) rfl; exact ⟨_, fd, F, He.glo_ok X G (c.t.d.fact 16 (f := .glo "_law_state") rfl)⟩
  have D_law_walk : Df K mg d_law_walk := by obtain ⟨fd, F⟩ := c.t.d.def_ 28 (d := d_law_walk) rfl; exact ⟨_, fd, F, He.glo_ok X G (c.t.d.fact 17 (f := .glo "_law_walk") rfl)⟩
  have D_law_once : Df K mg d_law_once := by obtain ⟨fd, F⟩ := c.t.d.def_ 29 (d := d_law_once) rfl; exact ⟨_, fd, F, He.glo_ok X G (c.t.d.fact 18 (f := .glo "_law_once") rfl)⟩
  have D_law_paths : Df K mg d_law_paths := by obtain ⟨fd, F⟩ := c.t.d.def_ 30 (d := d_law_paths) rfl; exact ⟨_, fd, F, He.glo_ok X G (c.t.d.fact 19 (f := .glo "_law_paths") rfl)⟩
  have D_law_right : Df K mg d_law_right := by obtain ⟨fd, F⟩ := c.t.d.def_ 31 (d := d_law_right) rfl; exact ⟨_, fd, F, He.glo_ok X G (c.t.d.fact 20 (f := .glo "_law_right") rfl)⟩
  have D_law_local : Df K mg d_law_local := by obtain ⟨fd, F⟩ := c.t.d.def_ 32 (d := d_law_local) rfl; exact ⟨_, fd, F, He.glo_ok X G (c.t.d.fact 21 (f := .glo "_law_local") rfl)⟩
  have D_law_more : Df K mg d_law_more := by obtain ⟨fd, F⟩ := c.t.d.def_ 33 (d := d_law_more) rfl; exact ⟨_, fd, F, He.glo_ok X G (c.t.d.fact 22 (f := .glo "_law_more") rfl)⟩
  have D_law_news : Df K mg d_law_news := by obtain ⟨fd, F⟩ := c.t.d.def_ 34 (d := d_law_news) rfl; exact ⟨_, fd, F, He.glo_ok X G (c.t.d.fact 23 (f := .glo "_law_news") rfl)⟩
  have D_law_touched : Df K mg d_law_touched := by obtain ⟨fd, F⟩ := c.t.d.def_ 35 (d := d_law_touched) rfl; exact ⟨_, fd, F, He.glo_ok X G (c.t.d.fact 24 (f := .glo "_law_touched") rfl)⟩
  have D_law : Df K mg d_law := by obtain ⟨fd, F⟩ := c.t.d.def_ 36 (d := d_law) rfl; exact ⟨_, fd, F, He.glo_ok X G (c.t.d.fact 25 (f := .glo "law") rfl)⟩
  have B : Blt mg := ⟨He.free_ok X G (c.t.d.fact 26 (f := .free "len") rfl), He.free_ok X G (c.t.d.fact 27 (f := .free "int") rfl), He.free_ok X G (c.t.d.fact 28 (f := .free "range") rfl), He.free_ok X G (c.t.d.fact 29 (f := .free "isinstance") rfl), He.free_ok X G (c.t.d.fact 30 (f := .free "sorted") rfl), He.free_ok X G (c.t.d.fact 31 (f := .free "list") rfl), He.free_ok X G (c.t.d.fact 32 (f := .free "tuple") rfl), He.free_ok X G (c.t.d.fact 33 (f := .free "dict") rfl), He.free_ok X G (c.t.d.fact 34 (f := .free "str") rfl), He.free_ok X G (c.t.d.fact 35 (f := .free "bool") rfl), He.free_ok X G (c.t.d.fact 36 (f := .free "max") rfl), He.free_ok X G (c.t.d.fact 37 (f := .free "min") rfl), He.free_ok X G (c.t.d.fact 38 (f := .free "all") rfl), He.free_ok X G (c.t.d.fact 39 (f := .free "any") rfl), He.free_ok X G (c.t.d.fact 40 (f := .free "sum") rfl), He.free_ok X G (c.t.d.fact 41 (f := .free "ord") rfl), He.free_ok X G (c.t.d.fact 42 (f := .free "enumerate") rfl)⟩
  have B_repr := He.free_ok X G (c.t.d.fact 43 (f := .free "repr") rfl)
  have B_zip := He.free_ok X G (c.t.d.fact 44 (f := .free "zip") rfl)
  have G_Watcher := He.glo_ok X G (c.t.d.fact 45 (f := .glo "Watcher") rfl)
  have CLS_Watcher := He.cls_ok (c.t.d.fact 46 (f := .cls "Watcher") rfl)
  have NOAT_Watcher_state := He.noat_ok (c.t.d.fact 47 (f := .noat "Watcher" "state") rfl)
  have NOAT_Watcher_paths := He.noat_ok (c.t.d.fact 48 (f := .noat "Watcher" "paths") rfl)
  have NOAT_Watcher_told := He.noat_ok (c.t.d.fact 49 (f := .noat "Watcher" "told") rfl)
  have MKR_Watcher := He.mkr_ok (c.t.d.fact 50 (f := .mkr "Watcher") rfl)
  have METH_Watcher_watch := He.meth_ok (c.t.d.fact 51 (f := .meth "Watcher" "watch") rfl)
  have METH_Watcher_news := He.meth_ok (c.t.d.fact 52 (f := .meth "Watcher" "news") rfl)
  have METH_Watcher_touched := He.meth_ok (c.t.d.fact 53 (f := .meth "Watcher" "touched") rfl)
  have G_State := He.glo_ok X G (c.t.d.fact 54 (f := .glo "State") rfl)
  have CLS_State := He.cls_ok (c.t.d.fact 55 (f := .cls "State") rfl)
  have NOAT_State_cells := He.noat_ok (c.t.d.fact 56 (f := .noat "State" "cells") rfl)
  have MKR_State := He.mkr_ok (c.t.d.fact 57 (f := .mkr "State") rfl)
  have METH_State_take := He.meth_ok (c.t.d.fact 58 (f := .meth "State" "take") rfl)
  have METH_State_value := He.meth_ok (c.t.d.fact 59 (f := .meth "State" "value") rfl)
  have METH_State_stamp := He.meth_ok (c.t.d.fact 60 (f := .meth "State" "stamp") rfl)
  have METH_State_fields := He.meth_ok (c.t.d.fact 61 (f := .meth "State" "fields") rfl)
  have METH_State_names := He.meth_ok (c.t.d.fact 62 (f := .meth "State" "names") rfl)
  have METH_State_changes := He.meth_ok (c.t.d.fact 63 (f := .meth "State" "changes") rfl)
  have G_ROOT := He.glo_ok X G (c.t.d.fact 64 (f := .glo "ROOT") rfl)
  have EX := c.more
  obtain ⟨fd, F⟩ := c.t.d.def_ 36 (d := d_law) rfl
  obtain ⟨_, _, _, gl⟩ := D_law
  have e : f = He.ga K "law" := by
    have h1 := hfa.symm.trans (He.glo_ok X G (c.t.d.fact 25 (f := .glo "law") rfl))
    injection h1 with h1
    injection h1
  subst e
  have ex : exK K = true := EX
  unfold exK at ex
  have tro : ∀ H, TupAt K H (He.ga K "ROOT") [.int 0, .int 0] := fun H => by
    rcases He.tupB_ok ex (fun _ => none) with (h | ⟨o, h⟩) | h
    · cases h
    · cases h
    · exact .inr h
  have U : WaC K (He.ga K "Watcher") := ⟨CLS_Watcher, NOAT_Watcher_state, NOAT_Watcher_paths, NOAT_Watcher_told⟩
  have DW1 : Dfm K (He.ga K "Watcher") d_Watcher_watch := ⟨_, fd_Watcher_watch, F_Watcher_watch, METH_Watcher_watch⟩
  have DW2 : Dfm K (He.ga K "Watcher") d_Watcher_news := ⟨_, fd_Watcher_news, F_Watcher_news, METH_Watcher_news⟩
  have DW3 : Dfm K (He.ga K "Watcher") d_Watcher_touched := ⟨_, fd_Watcher_touched, F_Watcher_touched, METH_Watcher_touched⟩
  have DWI : Dfi K mg (He.ga K "Watcher") "Watcher" d_Watcher_init := ⟨_, fd_Watcher_init, F_Watcher_init, MKR_Watcher, G_Watcher⟩
  have DS1 : Dfm K (He.ga K "State") d_State_take := ⟨_, fd_State_take, F_State_take, METH_State_take⟩
  have DS2 : Dfm K (He.ga K "State") d_State_value := ⟨_, fd_State_value, F_State_value, METH_State_value⟩
  have DS3 : Dfm K (He.ga K "State") d_State_stamp := ⟨_, fd_State_stamp, F_State_stamp, METH_State_stamp⟩
  have DSI : Dfi K mg (He.ga K "State") "State" d_State_init := ⟨_, fd_State_init, F_State_init, MKR_State, G_State⟩
  refine ⟨fd, fun s v => F.bindsA (ps := ["script"]) (fun _ _ _ _ _ _ us hl => match us, hl with | [_], _ => rfl) s [v] rfl, fun base _ _ => ?_⟩
  have C1 := cal_cell (P := P) (w := w) (base := base) D_law_cell B
  have C2 := cal_row (P := P) (w := w) (base := base) D_law_row B
  have C3 := cal_box D_law_box B C1 C2
  have C4 := cal_draw (P := P) (w := w) (base := base) D_law_draw B
  have C5 := cal_law_pick D_law_pick B C4
  have C7 := cal_worthD D_law_worth C4 C5
  have C8 := cal_law_cells (P := P) (w := w) (base := base) D_law_cells
  have C9 := cal_reference (P := P) (w := w) (base := base) D_reference
  have C15 := cal_is_later (P := P) (w := w) (base := base) D_is_later
  have C16 := cal_linked_name (P := P) (w := w) (base := base) D_linked_name B
  have C17 := cal_law_target (P := P) (w := w) (base := base) D_law_target B
  have C18 := cal_law_same2 (P := P) (w := w) (base := base) D_law_same B B_repr
  have I1 := mki_State_init (P := P) (w := w) (base := base) DSI CLS_State NOAT_State_cells
  have S1 := mth_State_value (P := P) (w := w) (mg := mg) (base := base) DS2 CLS_State NOAT_State_cells
  have S2 := mth_State_stamp (P := P) (w := w) (mg := mg) (base := base) DS3 CLS_State NOAT_State_cells
  have S4 := mth_State_take DS1 CLS_State NOAT_State_cells S2 C15
  have C19 := cal_law_state D_law_state CLS_State NOAT_State_cells I1 S4
  have W1 := cal_follow D_follow B G_ROOT tro CLS_State C9 C16 S1
  have W2 := cal_value_at D_value_at B W1
  have W3 := cal_cells_of D_cells_of B B_zip W1 C16
  have W4 := cal_law_walk (P := P) (w := w) (base := base) D_law_walk C17
  have W5 := cal_law_once (P := P) (w := w) (base := base) D_law_once
  have W6 := cal_law_paths D_law_paths B C4
  have W7 := cal_law_more D_law_more B C4 C5 C7
  have X0 := mki_Watcher_init (P := P) (w := w) (base := base) DWI U
  have X1 := mth_Watcher_watch DW1 B U W2
  have X2 := mth_Watcher_news DW2 B B_zip U W2
  have X3 := mth_Watcher_touched DW3 B U W3
  have Y1 := cal_law_right D_law_right B W4 C18 W1 W2 W5 W3
  have Y2 := cal_law_local D_law_local B W4 C18 W2 CLS_State S1
  have Y3 := cal_law_touched D_law_touched B W4
  have Y4 := cal_law_news D_law_news B W4 C18
  exact ok_law F B U C3 C4 W6 W7 C8 C19 X0 W4 C18 X1 Y1 X3 Y3 Y2 X2 Y4
end GT
open PySem PySem.W PySem.Calls PyProof.Rows
set_option maxRecDepth 100000 in
set_option maxHeartbeats 0 in
theorem PySem.Challenge.cw_graphtwins_k50_watches_holds : PySem.Challenge.rw_graphtwins_k50_watches.Holds := by
  w_on; o_law
  refine HandSHeadRun.head_any (r := OpenLaw.row PySem.Challenge.rw_graphtwins_k50_watches) (q := view (OpenLaw.row PySem.Challenge.rw_graphtwins_k50_watches).prog [34]) (H := GT.hk) (ob := GT.ob) (M := 6000) (loose := GT.looseN) (d := HandSHeadRun.topDef (OpenLaw.row PySem.Challenge.rw_graphtwins_k50_watches).prog 34) (kwd := []) GT.ob_eq
    (by kernel_rfl) (fun s => by kernel_rfl) GT.run (by kernel_rfl) (by kernel_rfl) (by kernel_rfl) (by rfl) (by first | assumption | decide +kernel) (by decide +kernel) ⟨rfl, rfl, rfl, rfl, rfl, by decide +kernel⟩ ?hw ?hc
  case hw => w_witness2
  case hc =>
    refine GT.walk_ofG (l := PySem.Challenge.rw_graphtwins_k50_watches) (n := 63) (k := GT.lv_law) (x := "script") rfl (by decide) (by kernel_rfl) ⟨rfl, by decide, by decide⟩ ?F
    intro w mg fa h Y G hmg0
    obtain ⟨K, KX, c⟩ := Y
    have hmg : mg ("law" : PySem.Str) = some (.ref fa) := by
      have e : (HandSHeadRun.topDef (OpenLaw.row PySem.Challenge.rw_graphtwins_k50_watches).prog 34).name = ("law" : PySem.Str) := by kernel_rfl
      rw [← e]
      exact hmg0
    obtain ⟨fd, hb, hF⟩ := GT.facts (P := (PySem.Challenge.rw_graphtwins_k50_watches).prog) (w := w) KX G hmg c
    exact ⟨K, fd, GT.spLaw K, KX, hb, fun H a ns hl _ hS => ⟨a, ns, rfl, hS, fun _ => rfl⟩, hF⟩


