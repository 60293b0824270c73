import PyProof.Rows.All
import Wide.All
import OpenK.AllK
import Wide.FinOn
import HandS.ForMost
import HandS.IsInst
import HandS.AnyAll
import HandS.Nested
import HandS.GenList
import HandS.GenOver
import HandS.EndTab
import KE.KNestM
import HandS.Star
import HandS.Walk
import HandS.Deep
import HandS.Style
import KE.KeyNested
import KE.KDictKeyed
import HandS.SortKw
import KE.DataMinMax
import PyProof.DictValues
import PyProof.DictWalks
import HandS.Conv
import HandS.DictComp
import HandS.More
import HandS.SortRule
import HandS.TupLe
import HandS.TupAny
import HandS.SetFor
import PyProof.WalksMore
import HandS.SortInts
import HandS.AnyAll
import HandS.Nested
import HandS.GenList
import HandS.GenOver
import HandS.TupMul
import HandS.Strs
import HandS.Rev
import HandS.Zip
import KE.KIndexOf
import PySem.Challenge.RW_oneair_k15_whole_without_idle_asks
set_option Elab.async false
set_option linter.all false
set_option maxRecDepth 100000
set_option maxHeartbeats 4000000
set_option synthInstance.maxSize 100000
set_option synthInstance.maxHeartbeats 4000000

namespace OA
open PySem L2
def top (i : Nat) : Stmt := PySem.Challenge.pw_oneair_k15_whole_without_idle_asks.main.body.getD i (.Pass ⟨0, 0, 0, 0⟩)
abbrev s_is_whole : Stmt := top 6
abbrev s_check_many : Stmt := top 7
abbrev s_check_numbers : Stmt := top 8
abbrev s_has_shape : Stmt := top 9
abbrev s_sets_of : Stmt := top 10
abbrev s_judged : Stmt := top 14
abbrev s_trimmed : Stmt := top 15
abbrev s_check_plan : Stmt := top 16
abbrev s_fault_of_plan : Stmt := top 17
abbrev s_are_numbers : Stmt := top 18
abbrev s_plans_behind : Stmt := top 19
abbrev s_behind_ask : Stmt := top 20
abbrev s_followed : Stmt := top 21
abbrev s_trimmed_for : Stmt := top 22
abbrev s__law_dice : Stmt := top 24
abbrev s__law_off : Stmt := top 25
abbrev s__law_alike : Stmt := top 26
abbrev s__law_mixed : Stmt := top 27
abbrev s__law_many : Stmt := top 28
abbrev s__law_sets : Stmt := top 29
abbrev s__law_plan : Stmt := top 30
abbrev s__law_each : Stmt := top 31
abbrev s__law_groups : Stmt := top 32
abbrev s__law_some_plan : Stmt := top 33
abbrev s__law_followed : Stmt := top 34
abbrev s__law_parts : Stmt := top 35
abbrev s__law_trim : Stmt := top 36
abbrev s__law_idle : Stmt := top 37
abbrev s_law : Stmt := top 38
/-- where the defs and classes stand -/
structure Ad where
  is_whole : Addr
  d_is_whole : FuncData
  check_many : Addr
  d_check_many : FuncData
  check_numbers : Addr
  d_check_numbers : FuncData
  has_shape : Addr
  d_has_shape : FuncData
  sets_of : Addr
  d_sets_of : FuncData
  judged : Addr
  d_judged : FuncData
  trimmed : Addr
  d_trimmed : FuncData
  check_plan : Addr
  d_check_plan : FuncData
  fault_of_plan : Addr
  d_fault_of_plan : FuncData
  are_numbers : Addr
  d_are_numbers : FuncData
  plans_behind : Addr
  d_plans_behind : FuncData
  behind_ask : Addr
  d_behind_ask : FuncData
  followed : Addr
  d_followed : FuncData
  trimmed_for : Addr
  d_trimmed_for : FuncData
  _law_dice : Addr
  d__law_dice : FuncData
  _law_off : Addr
  d__law_off : FuncData
  _law_alike : Addr
  d__law_alike : FuncData
  _law_mixed : Addr
  d__law_mixed : FuncData
  _law_many : Addr
  d__law_many : FuncData
  _law_sets : Addr
  d__law_sets : FuncData
  _law_plan : Addr
  d__law_plan : FuncData
  _law_each : Addr
  d__law_each : FuncData
  _law_groups : Addr
  d__law_groups : FuncData
  _law_some_plan : Addr
  d__law_some_plan : FuncData
  _law_followed : Addr
  d__law_followed : FuncData
  _law_parts : Addr
  d__law_parts : FuncData
  _law_trim : Addr
  d__law_trim : FuncData
  _law_idle : Addr
  d__law_idle : FuncData
  law : Addr
  d_law : FuncData
  t_are_numbers : Addr
  p_are_numbers : Addr
  v_PLAN_SHAPES : Addr
/-- what the top has written -/
structure Txt (K : PySem.W.Frag) (mg : Str → Option Value) (base : Heap) (A : Ad) : Prop where
  h_are_numbers : A.d_are_numbers.code = .ref A.t_are_numbers
  q_are_numbers : GxR.TabB base mg A.t_are_numbers A.p_are_numbers
  F_is_whole : Fun K "is_whole" "is_whole" s_is_whole A.is_whole A.d_is_whole
  b_is_whole : Binds K A.d_is_whole ["number", "least", "most"] []
  g_is_whole : mg "is_whole" = some (.ref A.is_whole)
  k_is_whole : PySem.W.keepIn K (.ref A.is_whole) = true
  F_check_many : Fun K "check_many" "check_many" s_check_many A.check_many A.d_check_many
  b_check_many : Binds K A.d_check_many ["many"] []
  g_check_many : mg "check_many" = some (.ref A.check_many)
  k_check_many : PySem.W.keepIn K (.ref A.check_many) = true
  F_check_numbers : Fun K "check_numbers" "check_numbers" s_check_numbers A.check_numbers A.d_check_numbers
  b_check_numbers : Binds K A.d_check_numbers ["many", "most"] []
  g_check_numbers : mg "check_numbers" = some (.ref A.check_numbers)
  k_check_numbers : PySem.W.keepIn K (.ref A.check_numbers) = true
  F_has_shape : Fun K "has_shape" "has_shape" s_has_shape A.has_shape A.d_has_shape
  b_has_shape : Binds K A.d_has_shape ["parts", "shapes"] []
  g_has_shape : mg "has_shape" = some (.ref A.has_shape)
  k_has_shape : PySem.W.keepIn K (.ref A.has_shape) = true
  F_sets_of : Fun K "sets_of" "sets_of" s_sets_of A.sets_of A.d_sets_of
  b_sets_of : Binds K A.d_sets_of ["many", "least", "most"] []
  g_sets_of : mg "sets_of" = some (.ref A.sets_of)
  k_sets_of : PySem.W.keepIn K (.ref A.sets_of) = true
  F_judged : Fun K "judged" "judged" s_judged A.judged A.d_judged
  b_judged : Binds K A.d_judged ["plan", "many", "most"] []
  g_judged : mg "judged" = some (.ref A.judged)
  k_judged : PySem.W.keepIn K (.ref A.judged) = true
  F_trimmed : Fun K "trimmed" "trimmed" s_trimmed A.trimmed A.d_trimmed
  b_trimmed : Binds K A.d_trimmed ["plan", "many", "most"] []
  g_trimmed : mg "trimmed" = some (.ref A.trimmed)
  k_trimmed : PySem.W.keepIn K (.ref A.trimmed) = true
  F_check_plan : Fun K "check_plan" "check_plan" s_check_plan A.check_plan A.d_check_plan
  b_check_plan : Binds K A.d_check_plan ["plan", "many"] []
  g_check_plan : mg "check_plan" = some (.ref A.check_plan)
  k_check_plan : PySem.W.keepIn K (.ref A.check_plan) = true
  F_fault_of_plan : Fun K "fault_of_plan" "fault_of_plan" s_fault_of_plan A.fault_of_plan A.d_fault_of_plan
  b_fault_of_plan : Binds K A.d_fault_of_plan ["plan", "many"] []
  g_fault_of_plan : mg "fault_of_plan" = some (.ref A.fault_of_plan)
  k_fault_of_plan : PySem.W.keepIn K (.ref A.fault_of_plan) = true
  F_are_numbers : Fun K "are_numbers" "are_numbers" s_are_numbers A.are_numbers A.d_are_numbers
  b_are_numbers : Binds K A.d_are_numbers ["numbers", "many"] []
  g_are_numbers : mg "are_numbers" = some (.ref A.are_numbers)
  k_are_numbers : PySem.W.keepIn K (.ref A.are_numbers) = true
  F_plans_behind : Fun K "plans_behind" "plans_behind" s_plans_behind A.plans_behind A.d_plans_behind
  b_plans_behind : Binds K A.d_plans_behind ["plan"] []
  g_plans_behind : mg "plans_behind" = some (.ref A.plans_behind)
  k_plans_behind : PySem.W.keepIn K (.ref A.plans_behind) = true
  F_behind_ask : Fun K "behind_ask" "behind_ask" s_behind_ask A.behind_ask A.d_behind_ask
  b_behind_ask : Binds K A.d_behind_ask ["numbers", "left"] []
  g_behind_ask : mg "behind_ask" = some (.ref A.behind_ask)
  k_behind_ask : PySem.W.keepIn K (.ref A.behind_ask) = true
  F_followed : Fun K "followed" "followed" s_followed A.followed A.d_followed
  b_followed : Binds K A.d_followed ["plan", "group"] []
  g_followed : mg "followed" = some (.ref A.followed)
  k_followed : PySem.W.keepIn K (.ref A.followed) = true
  F_trimmed_for : Fun K "trimmed_for" "trimmed_for" s_trimmed_for A.trimmed_for A.d_trimmed_for
  b_trimmed_for : Binds K A.d_trimmed_for ["plan", "lefts"] []
  g_trimmed_for : mg "trimmed_for" = some (.ref A.trimmed_for)
  k_trimmed_for : PySem.W.keepIn K (.ref A.trimmed_for) = true
  F__law_dice : Fun K "_law_dice" "_law_dice" s__law_dice A._law_dice A.d__law_dice
  b__law_dice : Binds K A.d__law_dice ["_law_script", "_law_k"] []
  g__law_dice : mg "_law_dice" = some (.ref A._law_dice)
  k__law_dice : PySem.W.keepIn K (.ref A._law_dice) = true
  F__law_off : Fun K "_law_off" "_law_off" s__law_off A._law_off A.d__law_off
  b__law_off : Binds K A.d__law_off ["_law_d", "_law_most"] []
  g__law_off : mg "_law_off" = some (.ref A._law_off)
  k__law_off : PySem.W.keepIn K (.ref A._law_off) = true
  F__law_alike : Fun K "_law_alike" "_law_alike" s__law_alike A._law_alike A.d__law_alike
  b__law_alike : Binds K A.d__law_alike ["_law_found", "_law_due"] []
  g__law_alike : mg "_law_alike" = some (.ref A._law_alike)
  k__law_alike : PySem.W.keepIn K (.ref A._law_alike) = true
  F__law_mixed : Fun K "_law_mixed" "_law_mixed" s__law_mixed A._law_mixed A.d__law_mixed
  b__law_mixed : Binds K A.d__law_mixed ["_law_d", "_law_row"] []
  g__law_mixed : mg "_law_mixed" = some (.ref A._law_mixed)
  k__law_mixed : PySem.W.keepIn K (.ref A._law_mixed) = true
  F__law_many : Fun K "_law_many" "_law_many" s__law_many A._law_many A.d__law_many
  b__law_many : Binds K A.d__law_many ["_law_d"] []
  g__law_many : mg "_law_many" = some (.ref A._law_many)
  k__law_many : PySem.W.keepIn K (.ref A._law_many) = true
  F__law_sets : Fun K "_law_sets" "_law_sets" s__law_sets A._law_sets A.d__law_sets
  b__law_sets : Binds K A.d__law_sets ["_law_many_here", "_law_most"] []
  g__law_sets : mg "_law_sets" = some (.ref A._law_sets)
  k__law_sets : PySem.W.keepIn K (.ref A._law_sets) = true
  F__law_plan : Fun K "_law_plan" "_law_plan" s__law_plan A._law_plan A.d__law_plan
  b__law_plan : Binds K A.d__law_plan ["_law_d", "_law_many_here", "_law_deep"] []
  g__law_plan : mg "_law_plan" = some (.ref A._law_plan)
  k__law_plan : PySem.W.keepIn K (.ref A._law_plan) = true
  F__law_each : Fun K "_law_each" "_law_each" s__law_each A._law_each A.d__law_each
  b__law_each : Binds K A.d__law_each ["_law_d", "_law_numbers"] []
  g__law_each : mg "_law_each" = some (.ref A._law_each)
  k__law_each : PySem.W.keepIn K (.ref A._law_each) = true
  F__law_groups : Fun K "_law_groups" "_law_groups" s__law_groups A._law_groups A.d__law_groups
  b__law_groups : Binds K A.d__law_groups ["_law_groups_here"] []
  g__law_groups : mg "_law_groups" = some (.ref A._law_groups)
  k__law_groups : PySem.W.keepIn K (.ref A._law_groups) = true
  F__law_some_plan : Fun K "_law_some_plan" "_law_some_plan" s__law_some_plan A._law_some_plan A.d__law_some_plan
  b__law_some_plan : Binds K A.d__law_some_plan ["_law_d", "_law_many_here"] []
  g__law_some_plan : mg "_law_some_plan" = some (.ref A._law_some_plan)
  k__law_some_plan : PySem.W.keepIn K (.ref A._law_some_plan) = true
  F__law_followed : Fun K "_law_followed" "_law_followed" s__law_followed A._law_followed A.d__law_followed
  b__law_followed : Binds K A.d__law_followed ["_law_plan_here", "_law_some"] []
  g__law_followed : mg "_law_followed" = some (.ref A._law_followed)
  k__law_followed : PySem.W.keepIn K (.ref A._law_followed) = true
  F__law_parts : Fun K "_law_parts" "_law_parts" s__law_parts A._law_parts A.d__law_parts
  b__law_parts : Binds K A.d__law_parts ["_law_plan_here"] []
  g__law_parts : mg "_law_parts" = some (.ref A._law_parts)
  k__law_parts : PySem.W.keepIn K (.ref A._law_parts) = true
  F__law_trim : Fun K "_law_trim" "_law_trim" s__law_trim A._law_trim A.d__law_trim
  b__law_trim : Binds K A.d__law_trim ["_law_plan_here", "_law_lefts"] []
  g__law_trim : mg "_law_trim" = some (.ref A._law_trim)
  k__law_trim : PySem.W.keepIn K (.ref A._law_trim) = true
  F__law_idle : Fun K "_law_idle" "_law_idle" s__law_idle A._law_idle A.d__law_idle
  b__law_idle : Binds K A.d__law_idle ["_law_plan_here", "_law_lefts"] []
  g__law_idle : mg "_law_idle" = some (.ref A._law_idle)
  k__law_idle : PySem.W.keepIn K (.ref A._law_idle) = true
  F_law : Fun K "law" "law" s_law A.law A.d_law
  b_law : Binds K A.d_law ["_law_script"] []
  g_law : mg "law" = some (.ref A.law)
  k_law : PySem.W.keepIn K (.ref A.law) = true
  m_abs : mg "abs" = none
  m_all : mg "all" = none
  m_bool : mg "bool" = none
  m_dict : mg "dict" = none
  m_int : mg "int" = none
  m_isinstance : mg "isinstance" = none
  m_len : mg "len" = none
  m_list : mg "list" = none
  m_max : mg "max" = none
  m_min : mg "min" = none
  m_range : mg "range" = none
  m_reversed : mg "reversed" = none
  m_set : mg "set" = none
  m_sorted : mg "sorted" = none
  m_str : mg "str" = none
  m_sum : mg "sum" = none
  m_tuple : mg "tuple" = none
  m_zip : mg "zip" = none
  c_MOST_STATIONS : ∃ t, mg "MOST_STATIONS" = some (.int 8 t)
  c_MOST_ASKS : ∃ t, mg "MOST_ASKS" = some (.int 20 t)
  c_PLAN_SHAPES : mg "PLAN_SHAPES" = some (.ref A.v_PLAN_SHAPES)
  x_PLAN_SHAPES : ∀ H : Hp, Dp K H (.ref A.v_PLAN_SHAPES) (.tuple [.tuple [.str "end", .int 1], .tuple [.str "ask", .int 5]])
end OA

namespace OA
open PySem PySem.Spec PyProof.Rows L2
/-! own forms of the layer's readings: evaluated, not sought -/
def refR (x : V) (k : Addr → Prop) : Prop := match x with | .ref a => k a | _ => False
def intR (x : V) (k : Int → Prop) : Prop := match x with | .int a => k a | _ => False
def blR (x : V) (k : Bool → Prop) : Prop := match x with | .bl a => k a | _ => False
def strR (x : V) (k : Str → Prop) : Prop := match x with | .str a => k a | _ => False
def optR {α : Type} (o : Option α) (k : α → Prop) : Prop := match o with | some v => k v | none => False
def keyR (x : V) (k : Key → Prop) : Prop := match x with | .int a => k (.inl a) | .str a => k (.inr a) | _ => False
def insO (o : Option HO) (k : Addr → Addr → List (Str × V) → Prop) : Prop := match o with | some (.ins C dx fs) => k C dx fs | _ => False
def lstO (o : Option HO) (k : List V → Prop) : Prop := match o with | some (.lst xs) => k xs | _ => False
def tupO (o : Option HO) (k : List V → Prop) : Prop := match o with | some (.tup xs) => k xs | some (.frz _ (.tup xs)) => k xs | _ => False
def dkO (o : Option HO) (k : List (Key × V) → Prop) : Prop := match o with | some (.dK xs) => k xs | _ => False
def dkR (o : Option HO) (k : List (Key × V) → Prop) : Prop := match o with | some (.dK xs) => k xs | some (.frz _ (.dK xs)) => k xs | _ => False
def one1 {α : Type} (l : List α) (k : α → Prop) : Prop := match l with | [x] => k x | _ => False
def two2 {α : Type} (l : List α) (k : α → α → Prop) : Prop := match l with | [x, y] => k x y | _ => False
theorem refR_el {x : V} {k : Addr → Prop} (h : refR x k) : ∃ a, x = .ref a ∧ k a := by cases x <;> first | exact ⟨_, rfl, h⟩ | exact h.elim
theorem intR_el {x : V} {k : Int → Prop} (h : intR x k) : ∃ a, x = .int a ∧ k a := by cases x <;> first | exact ⟨_, rfl, h⟩ | exact h.elim
theorem blR_el {x : V} {k : Bool → Prop} (h : blR x k) : ∃ a, x = .bl a ∧ k a := by cases x <;> first | exact ⟨_, rfl, h⟩ | exact h.elim
theorem strR_el {x : V} {k : Str → Prop} (h : strR x k) : ∃ a, x = .str a ∧ k a := by cases x <;> first | exact ⟨_, rfl, h⟩ | exact h.elim
theorem optR_el {α : Type} {o : Option α} {k : α → Prop} (h : optR o k) : ∃ a, o = some a ∧ k a := by cases o <;> first | exact ⟨_, rfl, h⟩ | exact h.elim
theorem keyR_el {x : V} {k : Key → Prop} (h : keyR x k) : ∃ a, x = kV a ∧ k a := by
  cases x with
  | int a => exact ⟨.inl a, rfl, h⟩
  | str a => exact ⟨.inr a, rfl, h⟩
  | _ => exact (show False from h).elim
theorem insO_el {o : Option HO} {k : Addr → Addr → List (Str × V) → Prop} (h : insO o k) : ∃ C dx fs, o = some (.ins C dx fs) ∧ k C dx fs := by
  unfold insO at h
  split at h
  · exact ⟨_, _, _, rfl, h⟩
  · exact h.elim
theorem lstO_el {o : Option HO} {k : List V → Prop} (h : lstO o k) : ∃ xs, o = some (.lst xs) ∧ k xs := by
  unfold lstO at h
  split at h
  · exact ⟨_, rfl, h⟩
  · exact h.elim
theorem tupO_el {H : Hp} {a : Addr} {k : List V → Prop} (h : tupO (H a) k) : ∃ xs, Rd H a (.tup xs) ∧ k xs := by
  unfold tupO at h
  split at h
  · exact ⟨_, .inl ‹_›, h⟩
  · exact ⟨_, .inr ⟨_, ‹_›⟩, h⟩
  · exact h.elim
theorem rd_tupO {H : Hp} {a : Addr} {xs : List V} {k : List V → Prop} (r : Rd H a (.tup xs)) (h : k xs) : tupO (H a) k := by
  rcases r with e | ⟨o, e⟩
  · rw [e]; exact h
  · rw [e]; exact h
theorem dkO_el {o : Option HO} {k : List (Key × V) → Prop} (h : dkO o k) : ∃ xs, o = some (.dK xs) ∧ k xs := by
  unfold dkO at h
  split at h
  · exact ⟨_, rfl, h⟩
  · exact h.elim
theorem dkR_el {H : Hp} {a : Addr} {k : List (Key × V) → Prop} (h : dkR (H a) k) : ∃ xs, Rd H a (.dK xs) ∧ k xs := by
  unfold dkR at h
  split at h
  · rename_i xs e
    exact ⟨xs, .inl e, h⟩
  · rename_i ob xs e
    exact ⟨xs, .inr ⟨ob, e⟩, h⟩
  · exact h.elim
theorem dkR_e {xs : List (Key × V)} {k : List (Key × V) → Prop} : dkR (some (.dK xs)) k = k xs := rfl
theorem dkR_f {o : Obj} {xs : List (Key × V)} {k : List (Key × V) → Prop} : dkR (some (.frz o (.dK xs))) k = k xs := rfl
theorem one1_el {α : Type} {l : List α} {k : α → Prop} (h : one1 l k) : ∃ x, l = [x] ∧ k x := by
  unfold one1 at h
  split at h
  · exact ⟨_, rfl, h⟩
  · exact h.elim
theorem two2_el {α : Type} {l : List α} {k : α → α → Prop} (h : two2 l k) : ∃ x y, l = [x, y] ∧ k x y := by
  unfold two2 at h
  split at h
  · exact ⟨_, _, rfl, h⟩
  · exact h.elim
theorem refR_e {a : Addr} {k : Addr → Prop} : refR (.ref a) k = k a := rfl
theorem intR_e {a : Int} {k : Int → Prop} : intR (.int a) k = k a := rfl
theorem blR_e {a : Bool} {k : Bool → Prop} : blR (.bl a) k = k a := rfl
theorem strR_e {a : Str} {k : Str → Prop} : strR (.str a) k = k a := rfl
theorem optR_e {α : Type} {a : α} {k : α → Prop} : optR (some a) k = k a := rfl
theorem keyR_i {a : Int} {k : Key → Prop} : keyR (.int a) k = k (.inl a) := rfl
theorem keyR_s {a : Str} {k : Key → Prop} : keyR (.str a) k = k (.inr a) := rfl
theorem insO_e {C dx : Addr} {fs : List (Str × V)} {k : Addr → Addr → List (Str × V) → Prop} : insO (some (.ins C dx fs)) k = k C dx fs := rfl
theorem lstO_e {xs : List V} {k : List V → Prop} : lstO (some (.lst xs)) k = k xs := rfl
theorem tupO_f {ob : Obj} {xs : List V} {k : List V → Prop} : tupO (some (.frz ob (.tup xs))) k = k xs := rfl
theorem tupO_e {xs : List V} {k : List V → Prop} : tupO (some (.tup xs)) k = k xs := rfl
theorem dkO_e {xs : List (Key × V)} {k : List (Key × V) → Prop} : dkO (some (.dK xs)) k = k xs := rfl
theorem one1_e {α : Type} {x : α} {k : α → Prop} : one1 [x] k = k x := rfl
theorem two2_e {α : Type} {x y : α} {k : α → α → Prop} : two2 [x, y] k = k x y := rfl
/-- what comes later is not looked into -/
def Later (p : L2.St → Hp → Prop) (σ : L2.St) (H : Hp) : Prop := p σ H
theorem Later.mk {p : L2.St → Hp → Prop} {σ : L2.St} {H : Hp} (h : p σ H) : Later p σ H := h
/-- the monotone closure of a reading -/
def upE (t : TE) : TE := fun σ H Q => ∃ Q' : VK, t σ H Q' ∧ ∀ v H', Q' v H' → Q v H'
def upT (t : TT) : TT := fun σ H Q => ∃ Q' : Bool → Hp → Prop, t σ H Q' ∧ ∀ v H', Q' v H' → Q v H'
def upA (t : TA) : TA := fun σ H Q => ∃ Q' : List V → Hp → Prop, t σ H Q' ∧ ∀ v H', Q' v H' → Q v H'
def upR (r : R2) : R2 := fun x y H Q => ∃ Q' : VK, r x y H Q' ∧ ∀ v H', Q' v H' → Q v H'
section
variable {X : Cx} {e a b c o : Expr} {es : List Expr} {t t' ta tb tc te to : TE} {pos apos cpos : Pos}
theorem up_pe (h : PE X e t) : PE X e (upE t) := ⟨fun pins s σ H Q I ⟨Q', z, m⟩ => thn (h.run pins s σ H Q' I z) fun _ _ ⟨v, H', I', r, q⟩ => ⟨v, H', I', r, m v H' q⟩⟩
theorem up_pt {t : TT} (h : PT X e t) : PT X e (upT t) := ⟨fun pins s σ H Q I ⟨Q', z, m⟩ => thn (h.run pins s σ H Q' I z) fun _ _ ⟨H', I', q⟩ => ⟨H', I', m _ H' q⟩⟩
theorem up_pa {t : TA} (h : PA X es t) : PA X es (upA t) := ⟨fun pos pins s σ H Q I ⟨Q', z, m⟩ => thn (h.run pos pins s σ H Q' I z) fun _ _ ⟨v, H', I', r, q⟩ => ⟨v, H', I', r, m v H' q⟩⟩
theorem up_op {f : Value → Value → Sem Value} {r : R2} (h : OpR X f r) : OpR X f (upR r) := fun pins s σ H x y v u Q I rx ry ⟨Q', z, m⟩ => thn (h pins s σ H x y v u Q' I rx ry z) fun _ _ ⟨v, H', I', r, q⟩ => ⟨v, H', I', r, m v H' q⟩
theorem im_pe (h : PE X e t) (i : ∀ σ H Q, t' σ H Q → t σ H Q) : PE X e t' := ⟨fun pins s σ H Q I z => h.run pins s σ H Q I (i σ H Q z)⟩
theorem im_pt {t t' : TT} (h : PT X e t) (i : ∀ σ H Q, t' σ H Q → t σ H Q) : PT X e t' := ⟨fun pins s σ H Q I z => h.run pins s σ H Q I (i σ H Q z)⟩
theorem im_ps {st : Stmt} {t t' : TS} (h : PS X st t) (i : ∀ D σ H, t' D σ H → t D σ H) : PS X st t' := ⟨fun pins s σ H D I z => h.run pins s σ H D I (i D σ H z)⟩
theorem im_op {f : Value → Value → Sem Value} {r r' : R2} (h : OpR X f r) (i : ∀ x y H Q, r' x y H Q → r x y H Q) : OpR X f r' := fun pins s σ H x y v u Q I rx ry z => h pins s σ H x y v u Q I rx ry (i x y H Q z)
theorem im_ix {r r' : R2} (h : IxR X r) (i : ∀ x y H Q, r' x y H Q → r x y H Q) : IxR X r' := fun va sl pins s σ H x y v u Q I rx ry z hs => h va sl pins s σ H x y v u Q I rx ry (i x y H Q z) hs
theorem im_call {f : Value} {r r' : List V → Hp → VK → Prop} (h : CallR X f r) (i : ∀ x H Q, r' x H Q → r x H Q) : CallR X f r' := fun pins s σ H xs us Q I r z => h pins s σ H xs us Q I r (i xs H Q z)
theorem im_mt {id : String} {r r' : V → List V → Hp → VK → Prop} (h : MtR X id r) (i : ∀ x y H Q, r' x y H Q → r x y H Q) : MtR X id r' := fun pins s σ H x xs v us Q I rx r z => h pins s σ H x xs v us Q I rx r (i x xs H Q z)
/-! names, attributes -/
def vVar (i : Nat) : TE := fun σ H Q => optR (σ[i]?) fun o => optR o fun v => Q v H
theorem qv (i : Nat) {x : Str} {pos : Pos} (hN : X.N[i]? = some x := by rfl) (hv : Vis X.env.scope x := by first | exact Or.inl rfl | exact Or.inr (Or.inl rfl) | exact Or.inr (Or.inr rfl)) (hd : (x == ("__debug__" : Str)) = false := by decide)
    (hcd : (x == ("__classdict__" : Str)) = false := by decide) : PE X (.Name x pos) (vVar i) := im_pe (pe_var hN hv hd hcd) fun σ H Q h => by
  obtain ⟨o, e, h⟩ := optR_el h
  obtain ⟨v, rfl, zz⟩ := optR_el h
  clear h
  have h := zz
  clear zz
  exact ⟨v, e, h⟩
def vFld (K : PySem.W.Frag) (ta : TE) (f : Str) : TE := fun σ H Q => ta σ H fun x H1 => refR x fun a => insO (H1 a) fun C _ fs => (Cls K C ∧ NoAttr K C f) ∧ optR (fs.lookup f) fun v => Q v H1
theorem q_fld {f : Str} (he : PE X e ta) (hb : attributeBase e f X.env (eval e X.env) = eval e X.env) : PE X (.Attribute e f pos) (vFld X.K ta f) := im_pe (pe_fld (up_pe he) hb) fun σ H Q h => ⟨_, h, fun x H1 z => by
  obtain ⟨a, rfl, zz⟩ := refR_el z
  clear z
  have z := zz
  clear zz
  obtain ⟨C, dx, fs, e1, ⟨c, n⟩, z⟩ := insO_el z
  obtain ⟨v, e2, z⟩ := optR_el z
  exact ⟨a, C, dx, fs, v, rfl, e1, c, n, e2, z⟩⟩
def vsFld (K : PySem.W.Frag) (ta tv : TE) (f : Str) : TS := fun D σ H => tv σ H fun y H1 => ta σ H1 fun x H2 => refR x fun a => insO (H2 a) fun C dx fs => (Cls K C ∧ NoAttr K C f ∧ fs.length < 1000) ∧ D.nx σ (upd H2 a (.ins C dx (putF f y fs)))
theorem q_sfld {f : Str} {pos' : Pos} (ha : PE X o ta) (hv : PE X e tb) (hs : swapsWith e (some (.Attribute o f pos')) pos.line X.env = pure false) : PS X (.Assign [.Attribute o f pos'] e pos) (vsFld X.K ta tb f) := im_ps (ps_fld (up_pe ha) (up_pe hv) hs) fun D σ H h => ⟨_, h, fun y H1 h1 => ⟨_, h1, fun x H2 z => by
  obtain ⟨a, rfl, zz⟩ := refR_el z
  clear z
  have z := zz
  clear zz
  obtain ⟨C, dx, fs, e1, ⟨c, n, l⟩, z⟩ := insO_el z
  exact ⟨a, C, dx, fs, rfl, e1, c, n, l, z⟩⟩⟩
/-- e.f += value, the value of ints -/
def vAugI (K : PySem.W.Frag) (ta tv : TE) (g : Int → Int → Int) (f : Str) : TS := fun D σ H => ta σ H fun x H1 => refR x fun a => insO (H1 a) fun C _ fs => (Cls K C ∧ NoAttr K C f) ∧ optR (fs.lookup f) fun v =>
  tv σ H1 fun y H2 => intR v fun i => intR y fun j => insO (H2 a) fun C' dx' fs' => (C' = C ∧ fs'.length < 1000) ∧ D.nx σ (upd H2 a (.ins C dx' (putF f (.int (g i j)) fs')))
theorem q_augI {f : Str} {op : Operator} {g : Int → Int → Int} {tpos : Pos} (ha : PE X o ta) (hv : PE X e tb) (hop : InOp X op (fun x y H Q => ∃ i j, x = .int i ∧ y = .int j ∧ Q (.int (g i j)) H)) : PS X (.AugAssign (.Attribute o f tpos) op e pos) (vAugI X.K ta tb g f) :=
  im_ps (ps_fldaug (up_pe ha) (up_pe hv) hop) fun D σ H h => ⟨_, h, fun x H1 z => by
    obtain ⟨a, rfl, zz⟩ := refR_el z
    clear z
    have z := zz
    clear zz
    obtain ⟨C, dx, fs, e1, ⟨c, n⟩, z⟩ := insO_el z
    obtain ⟨v, e2, z⟩ := optR_el z
    refine ⟨a, C, dx, fs, v, rfl, e1, c, n, e2, _, z, fun y H2 z => ?_⟩
    obtain ⟨i, rfl, zz⟩ := intR_el z
    clear z
    have z := zz
    clear zz
    obtain ⟨j, rfl, zz⟩ := intR_el z
    clear z
    have z := zz
    clear zz
    obtain ⟨C', dx', fs', e3, ⟨rfl, l⟩, z⟩ := insO_el z
    exact ⟨i, j, rfl, rfl, dx', fs', e3, l, z⟩⟩
/-! operators by values -/
def wI0 (g : Int → Int → V) : R2 := fun x y H Q => intR x fun i => intR y fun j => Q (g i j) H
def wIC (C : Int → Int → Prop) (g : Int → Int → V) : R2 := fun x y H Q => intR x fun i => intR y fun j => C i j ∧ Q (g i j) H
theorem w_I0 {f : Value → Value → Sem Value} {g : Int → Int → V} (h : OpR X f (rI0 g)) : OpR X f (wI0 g) := im_op h fun x y H Q z => by
  obtain ⟨i, rfl, zz⟩ := intR_el z
  clear z
  have z := zz
  clear zz
  obtain ⟨j, rfl, zz⟩ := intR_el z
  clear z
  have z := zz
  clear zz
  exact ⟨i, j, rfl, rfl, z⟩
theorem w_IC {f : Value → Value → Sem Value} {C : Int → Int → Prop} {g : Int → Int → V} (h : OpR X f (rI C g)) : OpR X f (wIC C g) := im_op h fun x y H Q z => by
  obtain ⟨i, rfl, zz⟩ := intR_el z
  clear z
  have z := zz
  clear zz
  obtain ⟨j, rfl, zz⟩ := intR_el z
  clear z
  have z := zz
  clear zz
  exact ⟨i, j, rfl, rfl, z.1, z.2⟩
theorem o_add : OpR X (binaryOp .Add) (wI0 fun i j => .int (i + j)) := w_I0 op_add
theorem o_sub : OpR X (binaryOp .Sub) (wI0 fun i j => .int (i - j)) := w_I0 op_sub
theorem o_mul : OpR X (binaryOp .Mult) (wIC CMul fun i j => .int (i * j)) := w_IC op_mul
theorem o_fdiv : OpR X (binaryOp .FloorDiv) (wIC CDiv fun i j => .int (i / j)) := w_IC op_fdiv
theorem o_mod : OpR X (binaryOp .Mod) (wIC (fun _ j => 0 < j) fun i j => .int (i % j)) := w_IC op_mod
theorem o_lt : OpR X (compareOp .Lt) (wI0 fun i j => .bl (decide (i < j))) := w_I0 op_lt
theorem o_le : OpR X (compareOp .LtE) (wI0 fun i j => .bl (decide (i ≤ j))) := w_I0 op_le
theorem o_gt : OpR X (compareOp .Gt) (wI0 fun i j => .bl (decide (j < i))) := w_I0 op_gt
theorem o_ge : OpR X (compareOp .GtE) (wI0 fun i j => .bl (decide (j ≤ i))) := w_I0 op_ge
def wAddS : R2 := fun x y H Q => strR x fun i => strR y fun j => i.length + j.length ≤ sizeLine ∧ Q (.str (i ++ j)) H
theorem o_addS : OpR X (binaryOp .Add) wAddS := im_op op_add_str fun x y H Q z => by
  obtain ⟨i, rfl, zz⟩ := strR_el z
  clear z
  have z := zz
  clear zz
  obtain ⟨j, rfl, zz⟩ := strR_el z
  clear z
  have z := zz
  clear zz
  exact ⟨i, j, rfl, rfl, z.1, z.2⟩
def wCat : R2 := fun x y H Q => refR x fun l => refR y fun b => lstO (H l) fun xs => lstO (H b) fun zs => xs.length + zs.length ≤ sizeLine ∧ ∀ p, H p = none → Q (.ref p) (upd H p (.lst (xs ++ zs)))
theorem o_cat : OpR X (binaryOp .Add) wCat := im_op op_cat fun x y H Q z => by
  obtain ⟨l, rfl, zz⟩ := refR_el z
  clear z
  have z := zz
  clear zz
  obtain ⟨b, rfl, zz⟩ := refR_el z
  clear z
  have z := zz
  clear zz
  obtain ⟨xs, e1, z⟩ := lstO_el z
  obtain ⟨zs, e2, z⟩ := lstO_el z
  exact ⟨l, b, xs, zs, rfl, rfl, e1, e2, z.1, z.2⟩
def wNeg : V → Hp → VK → Prop := fun x H Q => intR x fun i => Q (.int (-i)) H
theorem o_neg : UnR X (unaryOp .USub) wNeg := fun pins s σ H x v Q I rx z => un_neg pins s σ H x v Q I rx (intR_el z)
/-! subscripts -/
def wIxL : R2 := fun x y H Q => refR x fun p => lstO (H p) fun xs => intR y fun i => optR (atI xs i) fun v => Q v H
def wIxT : R2 := fun x y H Q => refR x fun p => tupO (H p) fun xs => intR y fun i => optR (atI xs i) fun v => Q v H
def wIxS : R2 := fun x y H Q => strR x fun z => intR y fun i => z.length ≤ sizeLine ∧ optR (atI z.cps.toList i) fun c => Q (.str ⟨#[c]⟩) H
theorem ix_L : IxR X wIxL := im_ix ix_list fun x y H Q z => by
  obtain ⟨p, rfl, zz⟩ := refR_el z
  clear z
  have z := zz
  clear zz
  obtain ⟨xs, e1, z⟩ := lstO_el z
  obtain ⟨i, rfl, zz⟩ := intR_el z
  clear z
  have z := zz
  clear zz
  obtain ⟨v, e2, z⟩ := optR_el z
  exact ⟨p, xs, i, v, rfl, rfl, SqL.of e1, e2, z⟩
theorem ix_T : IxR X wIxT := im_ix ix_tup fun x y H Q z => by
  obtain ⟨p, rfl, zz⟩ := refR_el z
  clear z
  have z := zz
  clear zz
  obtain ⟨xs, e1, z⟩ := tupO_el z
  obtain ⟨i, rfl, zz⟩ := intR_el z
  clear z
  have z := zz
  clear zz
  obtain ⟨v, e2, z⟩ := optR_el z
  exact ⟨p, xs, i, v, rfl, rfl, .inl e1, e2, z⟩
theorem ix_S : IxR X wIxS := im_ix ix_str fun x y H Q z => by
  obtain ⟨p, rfl, zz⟩ := strR_el z
  clear z
  have z := zz
  clear zz
  obtain ⟨i, rfl, l, zz⟩ := intR_el z
  clear z
  have z := zz
  obtain ⟨v, e2, z⟩ := optR_el z
  exact ⟨p, i, v, rfl, rfl, l, e2, z⟩
def vPart (t : TE) : TO := fun σ H Q => t σ H fun x H1 => intR x fun i => Q (some i) H1
theorem q_some (h : PE X e te) : PO X (some e) (vPart te) := ⟨fun pins s σ H Q I z => (po_some (up_pe h)).run pins s σ H Q I ⟨_, z, fun x H1 q => intR_el q⟩⟩
def wSlL : V → Option Int → Option Int → Hp → VK → Prop := fun x lo hi H Q => refR x fun a => lstO (H a) fun xs => ∀ p, H p = none → Q (.ref p) (upd H p (.lst (cutV xs lo hi)))
theorem sl_L : SlR X wSlL := by
  intro pins s σ H x v vl vu lo hi sl Q I rx hs pl pu h
  obtain ⟨a, e, h⟩ := refR_el h
  obtain ⟨xs, e1, h⟩ := lstO_el h
  exact sl_list pins s σ H x v vl vu lo hi sl Q I rx hs pl pu ⟨a, xs, e, SqL.of e1, h⟩
/-! calls of built-ins -/
def lenO (o : Option HO) (k : Nat → Prop) : Prop := match o with
  | some (.lst xs) => k xs.length
  | some (.tup xs) => k xs.length
  | some (.frz _ (.tup xs)) => k xs.length
  | some (.dK kvs) => k kvs.length
  | _ => False
theorem lenO_l {xs : List V} {k : Nat → Prop} : lenO (some (.lst xs)) k = k xs.length := rfl
theorem lenO_t {xs : List V} {k : Nat → Prop} : lenO (some (.tup xs)) k = k xs.length := rfl
theorem lenO_f {ob : Obj} {xs : List V} {k : Nat → Prop} : lenO (some (.frz ob (.tup xs))) k = k xs.length := rfl
theorem lenO_d {xs : List (Key × V)} {k : Nat → Prop} : lenO (some (.dK xs)) k = k xs.length := rfl
def lenR (vs : List V) (H : Hp) (Q : VK) : Prop := one1 vs fun x => match x with
  | .str z => z.length ≤ sizeLine ∧ Q (.int z.length) H
  | .ref a => lenO (H a) fun n => Q (.int n) H
  | _ => False
theorem c_len : CallR X (.builtin "len") lenR := by
  intro pins s σ H xs us Q I r h
  obtain ⟨x, rfl, h⟩ := one1_el h
  cases x with
  | str z => exact call_len_str pins s σ H _ us Q I r ⟨z, rfl, h.1, h.2⟩
  | ref a =>
    have h : lenO (H a) (fun n => Q (.int n) H) := h
    unfold lenO at h
    split at h
    · rename_i xs e
      exact call_len_seq pins s σ H _ us Q I r ⟨a, xs, rfl, .inl (SqL.of e), h⟩
    · rename_i xs e
      exact call_len_seq pins s σ H _ us Q I r ⟨a, xs, rfl, .inr (SqT.of e), h⟩
    · rename_i ob xs e
      exact call_len_seq pins s σ H _ us Q I r ⟨a, xs, rfl, .inr (.inl (.inr ⟨ob, e⟩)), h⟩
    · rename_i kvs e
      exact call_lenD pins s σ H _ us Q I r ⟨a, kvs, rfl, e, h⟩
    · exact h.elim
  | _ => exact (show False from h).elim
theorem len_r {H : Hp} {a : Addr} {Q : VK} : lenR [.ref a] H Q = lenO (H a) fun n => Q (.int n) H := rfl
theorem len_s {H : Hp} {z : Str} {Q : VK} : lenR [.str z] H Q = (z.length ≤ sizeLine ∧ Q (.int z.length) H) := rfl
def wTupL (vs : List V) (H : Hp) (Q : VK) : Prop := one1 vs fun x => refR x fun p => lstO (H p) fun xs => ∀ l, H l = none → Q (.ref l) (upd H l (.tup xs))
def wLstL (vs : List V) (H : Hp) (Q : VK) : Prop := one1 vs fun x => refR x fun p => lstO (H p) fun xs => ∀ l, H l = none → Q (.ref l) (upd H l (.lst xs))
theorem c_tupL : CallR X (.type "tuple") wTupL := im_call call_tuple_of fun x H Q z => by
  obtain ⟨x, rfl, zz⟩ := one1_el z
  clear z
  have z := zz
  clear zz
  obtain ⟨p, rfl, zz⟩ := refR_el z
  clear z
  have z := zz
  clear zz
  obtain ⟨xs, e, z⟩ := lstO_el z
  exact ⟨p, xs, rfl, .inl ⟨SqL.of e, z⟩⟩
theorem c_lstL : CallR X (.type "list") wLstL := im_call call_list_of fun x H Q z => by
  obtain ⟨x, rfl, zz⟩ := one1_el z
  clear z
  have z := zz
  clear zz
  obtain ⟨p, rfl, zz⟩ := refR_el z
  clear z
  have z := zz
  clear zz
  obtain ⟨xs, e, z⟩ := lstO_el z
  exact ⟨p, xs, rfl, .inl (SqL.of e), z⟩
def wAbs (vs : List V) (H : Hp) (Q : VK) : Prop := one1 vs fun x => intR x fun i => Q (.int (if i < 0 then -i else i)) H
theorem c_abs : CallR X (.builtin "abs") wAbs := im_call call_abs fun x H Q z => by
  obtain ⟨x, rfl, zz⟩ := one1_el z
  clear z
  have z := zz
  clear zz
  obtain ⟨i, rfl, zz⟩ := intR_el z
  clear z
  have z := zz
  clear zz
  exact ⟨i, rfl, z⟩
def wIntB (vs : List V) (H : Hp) (Q : VK) : Prop := one1 vs fun x => blR x fun b => Q (.int (if b then 1 else 0)) H
theorem c_intB : CallR X (.type "int") wIntB := im_call call_int1 fun x H Q z => by
  obtain ⟨x, rfl, zz⟩ := one1_el z
  clear z
  have z := zz
  clear zz
  obtain ⟨i, rfl, zz⟩ := blR_el z
  clear z
  have z := zz
  clear zz
  exact .inr ⟨i, rfl, z⟩
def wMin2 (vs : List V) (H : Hp) (Q : VK) : Prop := two2 vs fun x y => intR x fun i => intR y fun j => Q (.int (if j < i then j else i)) H
def wMax2 (vs : List V) (H : Hp) (Q : VK) : Prop := two2 vs fun x y => intR x fun i => intR y fun j => Q (.int (if j > i then j else i)) H
theorem c_min2 (hc : X.calm = true) : CallR X (.builtin "min") wMin2 := im_call (call_min2 hc) fun x H Q z => by
  obtain ⟨x, y, rfl, zz⟩ := two2_el z
  clear z
  have z := zz
  clear zz
  obtain ⟨i, rfl, zz⟩ := intR_el z
  clear z
  have z := zz
  clear zz
  obtain ⟨j, rfl, zz⟩ := intR_el z
  clear z
  have z := zz
  clear zz
  exact ⟨i, j, rfl, z⟩
theorem c_max2 (hc : X.calm = true) : CallR X (.builtin "max") wMax2 := im_call (call_max2 hc) fun x H Q z => by
  obtain ⟨x, y, rfl, zz⟩ := two2_el z
  clear z
  have z := zz
  clear zz
  obtain ⟨i, rfl, zz⟩ := intR_el z
  clear z
  have z := zz
  clear zz
  obtain ⟨j, rfl, zz⟩ := intR_el z
  clear z
  have z := zz
  clear zz
  exact ⟨i, j, rfl, z⟩
end
end OA

namespace OA
open PySem PySem.Spec PyProof.Rows L2
section
variable {X : Cx} {e a b c o : Expr} {es rest : List Expr} {t t' ta tb tc te to : TE} {pos apos cpos : Pos}
/-! truth values -/
/-- what is not reached -/
def vNever : TE := fun _ _ _ => False
theorem q_never {e : Expr} : PE X e vNever := ⟨fun _ _ _ _ _ _ h => h.elim⟩
def vAnd (ta tb : TE) : TE := fun σ H Q => ta σ H fun x H1 => blR x fun c => if c = true then tb σ H1 Q else Q (.bl false) H1
def vOr (ta tb : TE) : TE := fun σ H Q => ta σ H fun x H1 => blR x fun c => if c = true then Q (.bl true) H1 else tb σ H1 Q
def vNot (ta : TE) : TE := fun σ H Q => ta σ H fun x H1 => blR x fun c => Q (.bl (!c)) H1
theorem q_and (ha : PE X a ta) (hb : PE X (.BoolOp .And (b :: rest) pos) tb) : PE X (.BoolOp .And (a :: b :: rest) pos) (vAnd ta tb) := im_pe (pe_and (up_pe ha) hb) fun _ _ _ h => ⟨_, h, fun _ _ z => blR_el z⟩
theorem q_or (ha : PE X a ta) (hb : PE X (.BoolOp .Or (b :: rest) pos) tb) : PE X (.BoolOp .Or (a :: b :: rest) pos) (vOr ta tb) := im_pe (pe_or (up_pe ha) hb) fun _ _ _ h => ⟨_, h, fun _ _ z => blR_el z⟩
theorem q_not (ha : PE X a ta) : PE X (.UnaryOp .Not a pos) (vNot ta) := im_pe (pe_not (up_pe ha)) fun _ _ _ h => ⟨_, h, fun _ _ z => blR_el z⟩
/-! tests -/
def vTest (t : TE) : TT := fun σ H Q => t σ H fun x H' => blR x fun k => Q k H'
theorem q_val {e : Expr} (h : PE X e t) (he : ∀ whole, isTrue e X.env whole = (do let v ← whole; standAt e.pos; holding [v] (truthy v)) := by intro _; rfl) : PT X e (vTest t) := im_pt (pt_val (up_pe h) he) fun _ _ _ h => ⟨_, h, fun _ _ z => blR_el z⟩
theorem q_cmp {op : CmpOp} {r : R2} (ho : OpR X (compareOp op) r) (ha : PE X a ta) (hb : PE X b tb) (hm : behindInMarks op b = false) : PT X (.Compare a [op] [b] pos) (vTest (tOp r ta tb)) :=
  im_pt (pt_cmpR (up_op ho) (up_pe ha) (up_pe hb) hm) fun _ _ _ h => ⟨_, h, fun _ _ h1 => ⟨_, h1, fun _ _ h2 => ⟨_, h2, fun _ _ z => blR_el z⟩⟩⟩
def vChain (r r' : R2) (ta tb tc : TE) : TE := fun σ H Q => ta σ H fun x H1 => tb σ H1 fun y H2 => r x y H2 fun z H3 => blR z fun k => if k = true then tc σ H3 fun w' H4 => r' y w' H4 Q else Q (.bl false) H3
theorem q_chain {op op' : CmpOp} {r r' : R2} (ho : OpR X (compareOp op) r) (ho' : OpR X (compareOp op') r') (ha : PE X a ta) (hb : PE X b tb) (hc : PE X c tc)
    (hm : lastMarks [op, op'] [b, c] = false := by with_unfolding_all rfl) : PE X (.Compare a [op, op'] [b, c] pos) (vChain r r' ta tb tc) :=
  im_pe (pe_chain (up_op ho) ho' (up_pe ha) (up_pe hb) hc hm) fun _ _ _ h => ⟨_, h, fun _ _ h1 => ⟨_, h1, fun _ _ h2 => ⟨_, h2, fun _ _ z => blR_el z⟩⟩⟩
theorem q_tchain {op op' : CmpOp} {r r' : R2} (ho : OpR X (compareOp op) r) (ho' : OpR X (compareOp op') r') (ha : PE X a ta) (hb : PE X b tb) (hc : PE X c tc)
    (hm : lastMarks [op, op'] [b, c] = false := by with_unfolding_all rfl) : PT X (.Compare a [op, op'] [b, c] pos) (vTest (vChain r r' ta tb tc)) :=
  im_pt (pt_chain (up_op ho) (up_op ho') (up_pe ha) (up_pe hb) (up_pe hc) hm) fun _ _ _ h => ⟨_, h, fun _ _ h1 => ⟨_, h1, fun _ _ h2 => ⟨_, h2, fun _ _ z => by
    obtain ⟨k, e, z⟩ := blR_el z
    refine ⟨k, e, ?_⟩
    cases k with
    | true => exact ⟨_, z, fun _ _ z2 => ⟨_, z2, fun _ _ z3 => blR_el z3⟩⟩
    | false => exact blR_el z⟩⟩⟩
/-! statements -/
def vSeq (t u : TS) : TS := fun D σ H => t ⟨Later (u D), D.rt, D.bk, D.ct⟩ σ H
theorem qs_cons {st : Stmt} {sts : List Stmt} {t u : TS} (h1 : PS X st t) (h2 : PSs X sts u) : PSs X (st :: sts) (vSeq t u) := pss_cons h1 h2
theorem e_seq (t u : TS) (n : L2.St → Hp → Prop) (r : VK) (k l : L2.St → Hp → Prop) (σ : L2.St) (H : Hp) : vSeq t u ⟨n, r, k, l⟩ σ H = t ⟨Later (u ⟨n, r, k, l⟩), r, k, l⟩ σ H := rfl
/-- what holds behind a statement is said once -/
def vCut (t : TS) : TS := fun D σ H => ∃ N : L2.St → Hp → Prop, (∀ σ' H', N σ' H' → D.nx σ' H') ∧ t ⟨N, D.rt, D.bk, D.ct⟩ σ H
theorem q_cut {st : Stmt} {t : TS} (h : PS X st t) : PS X st (vCut t) := ⟨fun pins s σ H D I ⟨N, m, z⟩ => thn (h.run pins s σ H _ I z) fun f s' r => by
  cases f with
  | next =>
    obtain ⟨σ', H', I', q⟩ := r
    exact ⟨σ', H', I', m _ _ q⟩
  | brk => exact r
  | cont => exact r
  | ret u => exact r⟩
theorem e_cut (t : TS) (n : L2.St → Hp → Prop) (r : VK) (k l : L2.St → Hp → Prop) (σ : L2.St) (H : Hp) : vCut t ⟨n, r, k, l⟩ σ H = ∃ N : L2.St → Hp → Prop, (∀ σ' H', N σ' H' → n σ' H') ∧ t ⟨N, r, k, l⟩ σ H := rfl
def vIf (c : TT) (t u : TS) : TS := fun D σ H => c σ H fun k H1 => if k = true then Later (t D) σ H1 else Later (u D) σ H1
theorem q_if {c : Expr} {a b : List Stmt} {tc : TT} {t u : TS} (hc : PT X c tc) (ha : PSs X a t) (hb : PSs X b u) : PS X (.If c a b pos) (vIf tc t u) := ps_if hc ha hb
theorem e_next (n : L2.St → Hp → Prop) (r : VK) (k l : L2.St → Hp → Prop) (σ : L2.St) (H : Hp) : tNext ⟨n, r, k, l⟩ σ H = n σ H := rfl
theorem e_asg (te : TE) (i : Nat) (n : L2.St → Hp → Prop) (r : VK) (k l : L2.St → Hp → Prop) (σ : L2.St) (H : Hp) : tAsg te (gName i) ⟨n, r, k, l⟩ σ H = te σ H fun x H1 => n (σ.set i (some x)) H1 := rfl
theorem e_drop (te : TE) (n : L2.St → Hp → Prop) (r : VK) (k l : L2.St → Hp → Prop) (σ : L2.St) (H : Hp) : tDrop te ⟨n, r, k, l⟩ σ H = te σ H fun _ H1 => n σ H1 := rfl
theorem e_ret (te : TE) (n : L2.St → Hp → Prop) (r : VK) (k l : L2.St → Hp → Prop) (σ : L2.St) (H : Hp) : tRet te ⟨n, r, k, l⟩ σ H = te σ H r := rfl
theorem e_retN (n : L2.St → Hp → Prop) (r : VK) (k l : L2.St → Hp → Prop) (σ : L2.St) (H : Hp) : tRetN ⟨n, r, k, l⟩ σ H = r .non H := rfl
theorem e_sfld {K : PySem.W.Frag} {ta tv : TE} {f : Str} (n : L2.St → Hp → Prop) (r : VK) (k l : L2.St → Hp → Prop) (σ : L2.St) (H : Hp) : vsFld K ta tv f ⟨n, r, k, l⟩ σ H =
    tv σ H fun y H1 => ta σ H1 fun x H2 => refR x fun a => insO (H2 a) fun C dx fs => (Cls K C ∧ NoAttr K C f ∧ fs.length < 1000) ∧ n σ (upd H2 a (.ins C dx (putF f y fs))) := rfl
theorem e_augI {K : PySem.W.Frag} {ta tv : TE} {g : Int → Int → Int} {f : Str} (n : L2.St → Hp → Prop) (r : VK) (k l : L2.St → Hp → Prop) (σ : L2.St) (H : Hp) : vAugI K ta tv g f ⟨n, r, k, l⟩ σ H =
    ta σ H fun x H1 => refR x fun a => insO (H1 a) fun C _ fs => (Cls K C ∧ NoAttr K C f) ∧ optR (fs.lookup f) fun v =>
      tv σ H1 fun y H2 => intR v fun i => intR y fun j => insO (H2 a) fun C' dx' fs' => (C' = C ∧ fs'.length < 1000) ∧ n σ (upd H2 a (.ins C dx' (putF f (.int (g i j)) fs'))) := rfl
/-- a name's own int: i += e -/
def vAug (i : Nat) (te : TE) (g : Int → Int → Int) : TS := fun D σ H => optR (σ[i]?) fun o => optR o fun x => te σ H fun y H1 => intR x fun m => intR y fun n => D.nx (σ.set i (some (.int (g m n)))) H1
theorem q_aug {i : Nat} {x : Str} {op : Operator} {g : Int → Int → Int} {pos' : Pos} (hN : X.N.Nodup) (hi : X.N[i]? = some x) (hx : Loc X.env.scope x) (he : PE X e te) (ho : PIp X op (ipI g)) (hf : X.fn x = true ∨ X.env.scope.names.lookup x = some .local := by first | exact .inl rfl | exact .inr rfl | assumption) :
    PS X (.AugAssign (.Name x pos') op e pos) (vAug i te g) := im_ps (ps_aug hN hi hx (up_pe he) ho hf) fun D σ H h => by
  obtain ⟨o, e1, h1⟩ := optR_el h
  obtain ⟨v, e2, h2⟩ := optR_el h1
  refine ⟨v, by rw [e1, e2], _, h2, fun y H1 z => ?_⟩
  obtain ⟨m, e3, z1⟩ := intR_el z
  obtain ⟨k, e4, z2⟩ := intR_el z1
  exact ⟨m, k, e3, e4, z2⟩
theorem e_aug (i : Nat) (te : TE) (g : Int → Int → Int) (n : L2.St → Hp → Prop) (r : VK) (k l : L2.St → Hp → Prop) (σ : L2.St) (H : Hp) : vAug i te g ⟨n, r, k, l⟩ σ H =
    optR (σ[i]?) fun o => optR o fun x => te σ H fun y H1 => intR x fun m => intR y fun z => n (σ.set i (some (.int (g m z)))) H1 := rfl
/-! a call of an own method -/
def vMeth (C : Addr) (m : Str) (sp : Sp) (E : XK) (ta : TE) (t : TA) : TE := fun σ H Q => ta σ H fun x H1 => refR x fun a => insO (H1 a) fun C' _ fs => (C' = C ∧ fs.lookup m = none) ∧ t σ H1 fun vs H2 => sp (x :: vs) H2 Q E
section
variable {CX : CXT} {k : Nat} {f C : Addr} {fd : FuncData} {ps : List Str} {sp : Sp} {E : XK} {x m : Str} {p : Pos} {t : TA}
theorem q_meth {pl : Sem Bool} (he : PE X o ta) (c : Cls X.K C) (hm : Meth X.K C m f) (F : FnOk X.prog X.w X.K X.mg X.base CX k f fd ps sp) (hr : Room k X.A) (hb : Binds X.K fd ps []) (hx : Passes CX X E) (ha : PA X (e :: es) t)
    (hst : starEach (e :: es) X.env = (false, eval e X.env) :: starEach es X.env := by rfl) (hpl : (backTo pos (starEach es X.env)).any (·.1) = false := by rfl)
    (ht : eval (.Call (.Attribute o m apos) (e :: es) [] pos) X.env = (do
      let ov ← eval o X.env; standAt apos.atName
      let (f, first) ← holding [ov] (getMethod ov m pl); callWith pos f first (backTo pos (starEach (e :: es) X.env)) (backToKw pos (keywordEach [] X.env))) := by rfl) :
    PE X (.Call (.Attribute o m apos) (e :: es) [] pos) (vMeth C m sp E ta t) := im_pe (pe_meth (up_pe he) c hm F hr hb .nil hx (up_pa ha) hst hpl ht) fun σ H Q h => ⟨_, h, fun x H1 z => by
  obtain ⟨a, e1, z1⟩ := refR_el z
  obtain ⟨C', dx, fs, e2, ⟨e3, e4⟩, z2⟩ := insO_el z1
  subst e3
  exact ⟨a, dx, fs, e1, e2, e4, _, z2, fun vs H2 q => by simpa only [List.append_nil] using q⟩⟩
theorem q_meth0 {pl : Sem Bool} (he : PE X o ta) (c : Cls X.K C) (hm : Meth X.K C m f) (F : FnOk X.prog X.w X.K X.mg X.base CX k f fd ps sp) (hr : Room k X.A) (hb : Binds X.K fd ps []) (hx : Passes CX X E)
    (ht : eval (.Call (.Attribute o m apos) [] [] pos) X.env = (do
      let ov ← eval o X.env; standAt apos.atName
      let (f, first) ← holding [ov] (getMethod ov m pl); callWith pos f first (backTo pos (starEach [] X.env)) (backToKw pos (keywordEach [] X.env))) := by rfl) :
    PE X (.Call (.Attribute o m apos) [] [] pos) (vMeth C m sp E ta tNil) := im_pe (pe_meth0 (up_pe he) c hm F hr hb .nil hx ht) fun σ H Q h => ⟨_, h, fun x H1 z => by
  obtain ⟨a, e1, z1⟩ := refR_el z
  obtain ⟨C', dx, fs, e2, ⟨e3, e4⟩, z2⟩ := insO_el z1
  subst e3
  exact ⟨a, dx, fs, e1, e2, e4, z2⟩⟩
def vCall (sp : Sp) (E : XK) (t : TA) : TE := fun σ H Q => t σ H fun vs H1 => sp vs H1 Q E
theorem q_call (F : FnOk X.prog X.w X.K X.mg X.base CX k f fd ps sp) (hr : Room k X.A) (hg : Gl X x) (hm : X.mg x = some (.ref f)) (hk : PySem.W.keepIn X.K (.ref f) = true) (hb : Binds X.K fd ps []) (hx : Passes CX X E)
    (ha : PA X (e :: es) t) (hdb : (x == ("__debug__" : Str)) = false := by decide) (he : starEach (e :: es) X.env = (false, eval e X.env) :: starEach es X.env := by rfl) (hpl : (backTo pos (starEach es X.env)).any (·.1) = false := by rfl) :
    PE X (.Call (.Name x p) (e :: es) [] pos) (vCall sp E t) := im_pe (pe_call F hr hg hm hk hb .nil hx (up_pa ha) hdb he hpl) fun σ H Q h => ⟨_, h, fun vs H1 z => by simpa only [List.append_nil] using z⟩
/-- C(..): a new instance -/
def vMake (C : Addr) (sp : Sp) (E : XK) (t : TA) : TE := fun σ H Q => t σ H fun vs H1 => ∀ x dx, H1 x = none → H1 dx = none → dx ≠ x →
  sp (.ref x :: vs) (upd (upd H1 dx (.own x)) x (.ins C dx [])) (fun v H2 => v = .non ∧ Q (.ref x) H2) E
theorem q_make (M : Mk X.K C f) (F : FnOk X.prog X.w X.K X.mg X.base CX k f fd ps sp) (hr : Room (k + 1) X.A) (hg : Gl X x) (hm : X.mg x = some (.ref C)) (hb : Binds X.K fd ps []) (hx : Passes CX X E)
    (ha : PA X (e :: es) t) (hdb : (x == ("__debug__" : Str)) = false := by decide) (he : starEach (e :: es) X.env = (false, eval e X.env) :: starEach es X.env := by rfl) (hpl : (backTo pos (starEach es X.env)).any (·.1) = false := by rfl) :
    PE X (.Call (.Name x p) (e :: es) [] pos) (vMake C sp E t) := im_pe (pe_make M F hr hg hm hb .nil hx (up_pa ha) hdb he hpl) fun σ H Q h => ⟨_, h, fun vs H1 z => by simpa only [List.append_nil] using z⟩
end
/-! methods of a tracked list -/
def isLst (H : Hp) (x : V) : Prop := refR x fun p => lstO (H p) fun _ => True
theorem tyL {K : PySem.W.Frag} {x : V} {H : Hp} (h : isLst H x) : tyV K "list" x H := by
  obtain ⟨p, rfl, h1⟩ := refR_el h
  obtain ⟨xs, e, _⟩ := lstO_el h1
  exact Or.inl ⟨rfl, xs, SqL.of e⟩
section
variable {t : TA} {name : Str} {id : String} {r : V → List V → Hp → VK → Prop}
def vLM0 (r : V → List V → Hp → VK → Prop) (to : TE) : TE := fun σ H Q => to σ H fun x H1 => isLst H1 x ∧ r x [] H1 Q
def vLM (r : V → List V → Hp → VK → Prop) (to : TE) (t : TA) : TE := fun σ H Q => to σ H fun x H1 => isLst H1 x ∧ t σ H1 fun xs H2 => r x xs H2 Q
theorem lm0 (slot : Slot "list" name id) (hty : typeOf (.builtin id) = pure (.type "method_descriptor")) (hm : MtR X id r) (ho : PE X o to)
    (hb : attributeBase o name X.env (eval o X.env) = eval o X.env := by rfl) (hl : (apos.endLine == cpos.line) = true := by rfl) : PE X (.Call (.Attribute o name apos) [] [] cpos) (vLM0 r to) :=
  im_pe (pe_bm0 PySem.F.plainAttrs_list slot hty hm (up_pe ho) hb hl) fun _ _ _ h => ⟨_, h, fun _ _ z => ⟨tyL z.1, z.2⟩⟩
theorem lm1 (slot : Slot "list" name id) (hty : typeOf (.builtin id) = pure (.type "method_descriptor")) (hm : MtR X id r) (ho : PE X o to) (ha : PA X (e :: es) t)
    (hb : attributeBase o name X.env (eval o X.env) = eval o X.env := by rfl)
    (hf : ((backTo cpos (starEach (e :: es) X.env)).all (fun x => !x.1) && (backToKw cpos (keywordEach [] X.env)).all (fun x => x.1.isSome) && decide ((e :: es).length + ([] : List Keyword).length + (if ([] : List Keyword).isEmpty then 0 else 1) < 30)) = true := by rfl)
    (hl : (apos.endLine == cpos.line) = true := by rfl) (hs : starEach (e :: es) X.env = (false, eval e X.env) :: starEach es X.env := by rfl) (hp : (backTo cpos (starEach es X.env)).any (·.1) = false := by rfl) :
    PE X (.Call (.Attribute o name apos) (e :: es) [] cpos) (vLM r to t) :=
  im_pe (pe_bm PySem.F.plainAttrs_list slot hty hm (up_pe ho) ha hb hf hl hs hp) fun _ _ _ h => ⟨_, h, fun _ _ z => ⟨tyL z.1, z.2⟩⟩
end
def wAppend : V → List V → Hp → VK → Prop := fun x vs H Q => refR x fun l => lstO (H l) fun xs => one1 vs fun y => xs.length < sizeLine ∧ Q .non (upd H l (.lst (xs ++ [y])))
theorem m_append : MtR X "list.append" wAppend := im_mt (r := rAppend) mt_append fun x vs H Q z => by
  obtain ⟨l, e1, z1⟩ := refR_el z
  obtain ⟨xs, e2, z2⟩ := lstO_el z1
  obtain ⟨y, e3, z3⟩ := one1_el z2
  exact ⟨l, xs, y, e1, e3, e2, z3.1, z3.2⟩
def wPopAt : V → List V → Hp → VK → Prop := fun x vs H Q => refR x fun l => lstO (H l) fun xs => one1 vs fun y => intR y fun i => (0 ≤ i ∧ i < 2 ^ 63) ∧ optR (xs[i.toNat]?) fun v => Q v (upd H l (.lst (xs.eraseIdx i.toNat)))
theorem m_popAt : MtR X "list.pop" wPopAt := im_mt (r := rPopAt) mt_popAt fun x vs H Q z => by
  obtain ⟨l, e1, z1⟩ := refR_el z
  obtain ⟨xs, e2, z2⟩ := lstO_el z1
  obtain ⟨y, e3, z3⟩ := one1_el z2
  obtain ⟨i, e4, ⟨h0, h1⟩, z4⟩ := intR_el z3
  obtain ⟨v, e5, z5⟩ := optR_el z4
  subst e4
  have hl : i.toNat < xs.length := (List.getElem?_eq_some_iff.mp e5).1
  exact ⟨l, xs, i, i.toNat, v, e1, e3, e2, by omega, h1, PySem.StrLaws.seqIndex_nonneg h0 (by omega), e5, z5⟩
def wInsert0 : V → List V → Hp → VK → Prop := fun x vs H Q => refR x fun l => lstO (H l) fun xs => two2 vs fun i y => (i = .int 0 ∧ xs.length < sizeLine) ∧ Q .non (upd H l (.lst (y :: xs)))
theorem m_insert0 : MtR X "list.insert" wInsert0 := im_mt mt_insert fun x vs H Q z => by
  obtain ⟨l, e1, z1⟩ := refR_el z
  obtain ⟨xs, e2, z2⟩ := lstO_el z1
  obtain ⟨i, y, e3, ⟨h0, h1⟩, z3⟩ := two2_el z2
  subst h0
  exact ⟨l, xs, 0, y, e1, e3, e2, h1, by decide, by decide, z3⟩
def vStar (te : TE) (t : TA) : TA := fun σ H Q => te σ H fun y H1 => refR y fun a => lstO (H1 a) fun xs => t σ H1 fun vs H2 => Q (xs ++ vs) H2
theorem q_star {te : TE} {t : TA} {p : Pos} (he : PE X e te) (hr : PA X es t) (hs : starEach (.Starred e p :: es) X.env = (true, eval e X.env) :: starEach es X.env := by rfl) : PA X (.Starred e p :: es) (vStar te t) := by
  refine ⟨fun pos pins s σ H Q I h => PySem.W.items_star (thn (he.run pins s σ H _ I h) fun v s1 z => ?_) hs⟩
  obtain ⟨y, H1, I1, ry, z1⟩ := z
  obtain ⟨a, ey, z2⟩ := refR_el z1
  obtain ⟨xs, hx, q⟩ := lstO_el z2
  subst ey
  obtain rfl : v = Value.ref a := ry
  refine StX.star_any I1 (.inr (SqL.of hx)) fun us s2 I2 rv => thn (hr.run pos pins s2 σ H1 _ I2 q) fun ws s3 z => ?_
  obtain ⟨vs, H3, I3, r3, q3⟩ := z
  exact ⟨xs ++ vs, H3, I3, rv.append r3, q3⟩
def wSetL : TSet := fun x y v H Q => refR x fun l => lstO (H l) fun xs => intR y fun i => optR (ixN xs.length i) fun j => Q (upd H l (.lst (xs.set j v)))
theorem s_setL : PSet X wSetL := by
  intro pins s σ H o i v ov iv u Q I ro ri rv h
  obtain ⟨p, e1, h1⟩ := refR_el h
  obtain ⟨xs, e2, h2⟩ := lstO_el h1
  obtain ⟨k, e3, h3⟩ := intR_el h2
  obtain ⟨j, e4, h4⟩ := optR_el h3
  exact set_list pins s σ H o i v ov iv u Q I ro ri rv ⟨p, xs, k, j, e1, e3, e2, e4, h4⟩
theorem ixN_nat {n j : Nat} (h : j < n) : ixN n (j : Int) = some j := by
  unfold ixN
  rw [if_pos (by omega), if_pos (by omega)]
  simp
theorem ixN_zero {n : Nat} : ixN (n + 1) 0 = some 0 := ixN_nat (j := 0) (by omega)
theorem ixN_one {n : Nat} : ixN (n + 1 + 1) 1 = some 1 := ixN_nat (j := 1) (by omega)
/-! dicts with ints and texts as keys -/
def vDGet (td ty : TE) : TE := fun σ H Q => td σ H fun x H1 => ty σ H1 fun y H2 => refR x fun a => dkR (H2 a) fun kvs => keyR y fun k => optR (valV kvs k) fun v => Q v H2
def vDIn (ty td : TE) : TE := fun σ H Q => ty σ H fun y H1 => td σ H1 fun x H2 => refR x fun a => dkR (H2 a) fun kvs => keyR y fun k => Q (.bl (valV kvs k).isSome) H2
def vDNotIn (ty td : TE) : TE := fun σ H Q => ty σ H fun y H1 => td σ H1 fun x H2 => refR x fun a => dkR (H2 a) fun kvs => keyR y fun k => Q (.bl (!(valV kvs k).isSome)) H2
def vsDPut (td ty tv : TE) : TS := fun D σ H => tv σ H fun v H1 => td σ H1 fun x H2 => ty σ H2 fun y H3 => refR x fun a => dkO (H3 a) fun kvs => keyR y fun k => kvs.length < sizeLine ∧ D.nx σ (upd H3 a (.dK (putK kvs k v)))
def vDGet2 (td ty tx : TE) : TE := fun σ H Q => td σ H fun x H1 => ty σ H1 fun y H2 => tx σ H2 fun z H3 => refR x fun a => dkR (H1 a) fun _ => dkR (H3 a) fun kvs => keyR y fun k => Q ((valV kvs k).getD z) H3
theorem dget_of {H : Hp} {a : Addr} {kvs : List (Key × V)} {k : Key} {o : Option V} (e : Rd H a (.dK kvs)) (ho : valV kvs k = o) : DGet H a (kV k) o := by
  rw [← ho]
  exact .inl ⟨kvs, k, e, rfl, rfl⟩
variable {td ty tx tv : TE} {i : Expr}
theorem q_dget (hu : X.A.units + 1 < cLine) (ho : PE X o td) (hi : PE X i ty) (hs : NoSl i) : PE X (.Subscript o i pos) (vDGet td ty) := im_pe (pe_dget hu (up_pe ho) (up_pe hi) hs) fun _ _ _ h => ⟨_, h, fun _ _ h1 => ⟨_, h1, fun _ _ z => by
  obtain ⟨a, e1, z1⟩ := refR_el z
  obtain ⟨kvs, e2, z2⟩ := dkR_el z1
  obtain ⟨k, e3, z3⟩ := keyR_el z2
  obtain ⟨v, e4, z4⟩ := optR_el z3
  exact ⟨a, v, e1, by rw [e3]; exact dget_of e2 e4, z4⟩⟩⟩
theorem q_din (hu : X.A.units + 1 < cLine) (hi : PE X i ty) (ho : PE X o td) (h1 : behindInMarks .In o = false := by rfl) : PE X (.Compare i [.In] [o] pos) (vDIn ty td) := im_pe (pe_cmp (pc_din hu (up_pe hi) (up_pe ho)) h1) fun _ _ _ h => ⟨_, h, fun _ _ h1 => ⟨_, h1, fun _ _ z => by
  obtain ⟨a, e1, z1⟩ := refR_el z
  obtain ⟨kvs, e2, z2⟩ := dkR_el z1
  obtain ⟨k, e3, z3⟩ := keyR_el z2
  exact ⟨a, _, e1, by rw [e3]; exact dget_of e2 rfl, z3⟩⟩⟩
theorem q_dnotin (hu : X.A.units + 1 < cLine) (hi : PE X i ty) (ho : PE X o td) (h1 : behindInMarks .NotIn o = false := by rfl) : PE X (.Compare i [.NotIn] [o] pos) (vDNotIn ty td) := im_pe (pe_cmp (pc_dnotin hu (up_pe hi) (up_pe ho)) h1) fun _ _ _ h => ⟨_, h, fun _ _ h1 => ⟨_, h1, fun _ _ z => by
  obtain ⟨a, e1, z1⟩ := refR_el z
  obtain ⟨kvs, e2, z2⟩ := dkR_el z1
  obtain ⟨k, e3, z3⟩ := keyR_el z2
  exact ⟨a, _, e1, by rw [e3]; exact dget_of e2 rfl, z3⟩⟩⟩
theorem q_tin (hu : X.A.units + 1 < cLine) (hi : PE X i ty) (ho : PE X o td) (h1 : behindInMarks .In o = false := by rfl) : PT X (.Compare i [.In] [o] pos) (vTest (vDIn ty td)) := im_pt (pt_cmp (pc_din hu (up_pe hi) (up_pe ho)) h1) fun _ _ _ h => ⟨_, h, fun _ _ h1 => ⟨_, h1, fun _ _ z => by
  obtain ⟨a, e1, z1⟩ := refR_el z
  obtain ⟨kvs, e2, z2⟩ := dkR_el z1
  obtain ⟨k, e3, z3⟩ := keyR_el z2
  exact ⟨a, _, e1, by rw [e3]; exact dget_of e2 rfl, _, rfl, z3⟩⟩⟩
theorem q_tnotin (hu : X.A.units + 1 < cLine) (hi : PE X i ty) (ho : PE X o td) (h1 : behindInMarks .NotIn o = false := by rfl) : PT X (.Compare i [.NotIn] [o] pos) (vTest (vDNotIn ty td)) := im_pt (pt_cmp (pc_dnotin hu (up_pe hi) (up_pe ho)) h1) fun _ _ _ h => ⟨_, h, fun _ _ h1 => ⟨_, h1, fun _ _ z => by
  obtain ⟨a, e1, z1⟩ := refR_el z
  obtain ⟨kvs, e2, z2⟩ := dkR_el z1
  obtain ⟨k, e3, z3⟩ := keyR_el z2
  exact ⟨a, _, e1, by rw [e3]; exact dget_of e2 rfl, _, rfl, z3⟩⟩⟩
theorem q_dput {pos' : Pos} (hu : X.A.units + 1 < cLine) (ho : PE X o td) (hi : PE X i ty) (hv : PE X e tv) (hs : swapsWith e (some (.Subscript o i pos')) pos.line X.env = pure false) : PS X (.Assign [.Subscript o i pos'] e pos) (vsDPut td ty tv) :=
  im_ps (ps_dput hu (up_pe ho) (up_pe hi) (up_pe hv) hs) fun _ _ _ h => ⟨_, h, fun _ _ h1 => ⟨_, h1, fun _ _ h2 => ⟨_, h2, fun _ _ z => by
    obtain ⟨a, e1, z1⟩ := refR_el z
    obtain ⟨kvs, e2, z2⟩ := dkO_el z1
    obtain ⟨k, e3, hz, z3⟩ := keyR_el z2
    exact ⟨a, _, e1, by rw [e3]; exact DPut.k e2 hz, z3⟩⟩⟩⟩
theorem e_dput {td ty tv : TE} (n : L2.St → Hp → Prop) (r : VK) (k l : L2.St → Hp → Prop) (σ : L2.St) (H : Hp) : vsDPut td ty tv ⟨n, r, k, l⟩ σ H =
    tv σ H fun v H1 => td σ H1 fun x H2 => ty σ H2 fun y H3 => refR x fun a => dkO (H3 a) fun kvs => keyR y fun k => kvs.length < sizeLine ∧ n σ (upd H3 a (.dK (putK kvs k v))) := rfl
theorem i_add : InOp X .Add (fun x y H Q => ∃ i j, x = .int i ∧ y = .int j ∧ Q (.int ((fun i j => i + j) i j)) H) := in_add
theorem i_sub : InOp X .Sub (fun x y H Q => ∃ i j, x = .int i ∧ y = .int j ∧ Q (.int ((fun i j => i - j) i j)) H) := in_sub
end
theorem putF_hit (f : Str) (v x : V) (r : List (Str × V)) : putF f v ((f, x) :: r) = (f, v) :: r := by
  show (if f = f then _ else _) = _
  rw [if_pos rfl]
theorem putF_miss {f g : Str} (v x : V) (r : List (Str × V)) (h : ¬ g = f) : putF f v ((g, x) :: r) = (g, x) :: putF f v r := by
  show (if g = f then _ else _) = _
  rw [if_neg h]
theorem putF_nil (f : Str) (v : V) : putF f v [] = [(f, v)] := rfl
theorem lk_hit (f : Str) (x : V) (r : List (Str × V)) : List.lookup f ((f, x) :: r) = some x := by simp [List.lookup]
theorem lk_miss {f g : Str} (x : V) (r : List (Str × V)) (h : ¬ f = g) : List.lookup f ((g, x) :: r) = List.lookup f r := by
  have hb : (f == g) = false := beq_eq_false_iff_ne.mpr h
  simp [List.lookup, hb]
theorem lk_nil (f : Str) : List.lookup f ([] : List (Str × V)) = none := rfl
theorem cx_K {CX : CXT} {P : Program} {w : World} {K : PySem.W.Frag} {mg : Str → Option Value} {base : Heap} {N : List Str} {qual : Str} {scope : Scope} {f : Addr} {cd : Value} {A' : Around} {outer : List Env} {s : Shared} {H : Hp} {E : XK} : (cxOf CX P w K mg base N qual scope f cd A' outer s H E).K = K := rfl
theorem cx_prog {CX : CXT} {P : Program} {w : World} {K : PySem.W.Frag} {mg : Str → Option Value} {base : Heap} {N : List Str} {qual : Str} {scope : Scope} {f : Addr} {cd : Value} {A' : Around} {outer : List Env} {s : Shared} {H : Hp} {E : XK} : (cxOf CX P w K mg base N qual scope f cd A' outer s H E).prog = P := rfl
theorem cx_w {CX : CXT} {P : Program} {w : World} {K : PySem.W.Frag} {mg : Str → Option Value} {base : Heap} {N : List Str} {qual : Str} {scope : Scope} {f : Addr} {cd : Value} {A' : Around} {outer : List Env} {s : Shared} {H : Hp} {E : XK} : (cxOf CX P w K mg base N qual scope f cd A' outer s H E).w = w := rfl
theorem blkK {X : Cx} {s : Shared} {H : Hp} {scope : Scope} {ce : Env} {fp : List Addr} : (X.blk s H scope ce fp).K = X.K := rfl
end OA

namespace OA
open PySem PySem.Spec PyProof.Rows L2
theorem kit_NoneType_bool : kitB "NoneType" "bool" = some false := by decide +kernel
theorem kit_NoneType_int : kitB "NoneType" "int" = some false := by decide +kernel
theorem kit_NoneType_str : kitB "NoneType" "str" = some false := by decide +kernel
theorem kit_NoneType_list : kitB "NoneType" "list" = some false := by decide +kernel
theorem kit_NoneType_tuple : kitB "NoneType" "tuple" = some false := by decide +kernel
theorem kit_NoneType_dict : kitB "NoneType" "dict" = some false := by decide +kernel
theorem kit_bool_bool : kitB "bool" "bool" = some true := by decide +kernel
theorem kit_bool_int : kitB "bool" "int" = some true := by decide +kernel
theorem kit_bool_str : kitB "bool" "str" = some false := by decide +kernel
theorem kit_bool_list : kitB "bool" "list" = some false := by decide +kernel
theorem kit_bool_tuple : kitB "bool" "tuple" = some false := by decide +kernel
theorem kit_bool_dict : kitB "bool" "dict" = some false := by decide +kernel
theorem kit_int_bool : kitB "int" "bool" = some false := by decide +kernel
theorem kit_int_int : kitB "int" "int" = some true := by decide +kernel
theorem kit_int_str : kitB "int" "str" = some false := by decide +kernel
theorem kit_int_list : kitB "int" "list" = some false := by decide +kernel
theorem kit_int_tuple : kitB "int" "tuple" = some false := by decide +kernel
theorem kit_int_dict : kitB "int" "dict" = some false := by decide +kernel
theorem kit_str_bool : kitB "str" "bool" = some false := by decide +kernel
theorem kit_str_int : kitB "str" "int" = some false := by decide +kernel
theorem kit_str_str : kitB "str" "str" = some true := by decide +kernel
theorem kit_str_list : kitB "str" "list" = some false := by decide +kernel
theorem kit_str_tuple : kitB "str" "tuple" = some false := by decide +kernel
theorem kit_str_dict : kitB "str" "dict" = some false := by decide +kernel
theorem kit_list_bool : kitB "list" "bool" = some false := by decide +kernel
theorem kit_list_int : kitB "list" "int" = some false := by decide +kernel
theorem kit_list_str : kitB "list" "str" = some false := by decide +kernel
theorem kit_list_list : kitB "list" "list" = some true := by decide +kernel
theorem kit_list_tuple : kitB "list" "tuple" = some false := by decide +kernel
theorem kit_list_dict : kitB "list" "dict" = some false := by decide +kernel
theorem kit_tuple_bool : kitB "tuple" "bool" = some false := by decide +kernel
theorem kit_tuple_int : kitB "tuple" "int" = some false := by decide +kernel
theorem kit_tuple_str : kitB "tuple" "str" = some false := by decide +kernel
theorem kit_tuple_list : kitB "tuple" "list" = some false := by decide +kernel
theorem kit_tuple_tuple : kitB "tuple" "tuple" = some true := by decide +kernel
theorem kit_tuple_dict : kitB "tuple" "dict" = some false := by decide +kernel
theorem kit_dict_bool : kitB "dict" "bool" = some false := by decide +kernel
theorem kit_dict_int : kitB "dict" "int" = some false := by decide +kernel
theorem kit_dict_str : kitB "dict" "str" = some false := by decide +kernel
theorem kit_dict_list : kitB "dict" "list" = some false := by decide +kernel
theorem kit_dict_tuple : kitB "dict" "tuple" = some false := by decide +kernel
theorem kit_dict_dict : kitB "dict" "dict" = some true := by decide +kernel
section
variable {X : Cx}
def tyO (o : Option HO) : Option String := match o with
  | some (.lst _) => some "list"
  | some (.tup _) => some "tuple"
  | some (.frz _ (.tup _)) => some "tuple"
  | some (.dK _) => some "dict"
  | _ => none
def tyN (x : V) (H : Hp) : Option String := match x with
  | .non => some "NoneType"
  | .bl _ => some "bool"
  | .int _ => some "int"
  | .str _ => some "str"
  | .ref a => tyO (H a)
  | _ => none
theorem tyO_l {xs : List V} : tyO (some (.lst xs)) = some "list" := rfl
theorem tyO_t {xs : List V} : tyO (some (.tup xs)) = some "tuple" := rfl
theorem tyO_f {ob : Obj} {xs : List V} : tyO (some (.frz ob (.tup xs))) = some "tuple" := rfl
theorem tyO_d {xs : List (Key × V)} : tyO (some (.dK xs)) = some "dict" := rfl
theorem tyN_n {H : Hp} : tyN .non H = some "NoneType" := rfl
theorem tyN_b {H : Hp} {b : Bool} : tyN (.bl b) H = some "bool" := rfl
theorem tyN_i {H : Hp} {b : Int} : tyN (.int b) H = some "int" := rfl
theorem tyN_s {H : Hp} {b : Str} : tyN (.str b) H = some "str" := rfl
theorem tyN_r {H : Hp} {a : Addr} : tyN (.ref a) H = tyO (H a) := rfl
theorem tyN_is {K : PySem.W.Frag} {x : V} {H : Hp} {n : String} (h : tyN x H = some n) : TyX K H x (.type n) := by
  cases x with
  | non => cases h; exact .base .non
  | bl b => cases h; exact .base (.bl b)
  | int b => cases h; exact .base (.int b)
  | str b => cases h; exact .base (.str b)
  | ref a =>
    have h : tyO (H a) = some n := h
    unfold tyO at h
    split at h
    · rename_i xs e; cases h; exact .base (.lst e)
    · rename_i xs e; cases h; exact .base (.tup e)
    · rename_i ob xs e; cases h; exact .fTuple e
    · rename_i xs e; cases h; exact .base (.dK e)
    · cases h
  | _ => cases h
def tyR (x : V) (k : String → Prop) : Prop := match x with | .ty n => k n | _ => False
theorem tyR_e {n : String} {k : String → Prop} : tyR (.ty n) k = k n := rfl
theorem tyR_el {x : V} {k : String → Prop} (h : tyR x k) : ∃ a, x = .ty a ∧ k a := by cases x <;> first | exact ⟨_, rfl, h⟩ | exact h.elim
def wIsi (vs : List V) (H : Hp) (Q : VK) : Prop := two2 vs fun x c => tyR c fun n => optR (tyN x H) fun t => optR (kitB t n) fun r => Q (.bl r) H
theorem c_isi : CallR X (.builtin "isinstance") wIsi := im_call call_isi fun vs H Q z => by
  obtain ⟨x, c, e1, z1⟩ := two2_el z
  obtain ⟨n, e2, z2⟩ := tyR_el z1
  obtain ⟨t, e3, z3⟩ := optR_el z2
  obtain ⟨r, e4, z4⟩ := optR_el z3
  subst e2
  exact ⟨x, _, .type t, .type n, r, e1, .ty n, tyN_is e3, kit_ty e4, z4⟩
/-! loops -/
def vWhile (c : TT) (tb : TS) : TS := fun D σ H => ∃ (Pv : Nat → L2.St → Hp → Prop) (m0 : Nat), Pv m0 σ H ∧ ∀ m σ H, Pv m σ H → c σ H fun b H1 => if b = true then Later (tb ⟨fun σ' H' => ∃ m', m' < m ∧ Pv m' σ' H', D.rt, D.nx, fun σ' H' => ∃ m', m' < m ∧ Pv m' σ' H'⟩) σ H1 else Later D.nx σ H1
theorem q_while {c : Expr} {body : List Stmt} {tc : TT} {tb : TS} {pos : Pos} (hp : PassesOwn (model X.prog X.w) X.A X.env X.xe) (hc : PT X c tc) (hb : PSs X body tb) : PS X (.While c body [] pos) (vWhile tc tb) :=
  im_ps (ps_while hp (up_pt hc) hb) fun D σ H h => by
    obtain ⟨Pv, m0, h0, hs⟩ := h
    refine ⟨Pv, ⟨m0, h0⟩, fun m σ H p => ⟨_, hs m σ H p, fun b H1 q => ?_⟩⟩
    cases b with
    | true => exact ⟨_, fun _ _ z => z, q⟩
    | false => exact q
theorem e_while {c : TT} {tb : TS} (n : L2.St → Hp → Prop) (r : VK) (k l : L2.St → Hp → Prop) (σ : L2.St) (H : Hp) : vWhile c tb ⟨n, r, k, l⟩ σ H =
    ∃ (Pv : Nat → L2.St → Hp → Prop) (m0 : Nat), Pv m0 σ H ∧ ∀ m σ H, Pv m σ H → c σ H fun b H1 => if b = true then Later (tb ⟨fun σ' H' => ∃ m', m' < m ∧ Pv m' σ' H', r, n, fun σ' H' => ∃ m', m' < m ∧ Pv m' σ' H'⟩) σ H1 else Later n σ H1 := rfl
/-! targets -/
def upG (g : TG) : TG := fun v σ H Q => ∃ Q' : L2.St → Hp → Prop, g v σ H Q' ∧ ∀ σ' H', Q' σ' H' → Q σ' H'
theorem up_pg {tg : Expr} {g : TG} (h : PG X tg g) : PG X tg (upG g) := ⟨fun pins s σ H v u Q I r ⟨Q', z, m⟩ => thn (h.run pins s σ H v u Q' I r z) fun _ _ ⟨σ', H', I', q⟩ => ⟨σ', H', I', m σ' H' q⟩⟩
theorem im_pg {tg : Expr} {g g' : TG} (h : PG X tg g) (i : ∀ v σ H Q, g' v σ H Q → g v σ H Q) : PG X tg g' := ⟨fun pins s σ H v u Q I r z => h.run pins s σ H v u Q I r (i v σ H Q z)⟩
theorem im_pgs {ts : List Expr} {g g' : TGs} (h : PGs X ts g) (i : ∀ v σ H Q, g' v σ H Q → g v σ H Q) : PGs X ts g' := ⟨fun pins s σ H v u Q I r z => h.run pins s σ H v u Q I r (i v σ H Q z)⟩
def vgTup (n : Nat) (t : TGs) : TG := fun v σ H Q => refR v fun a => tupO (H a) fun xs => xs.length = n ∧ t xs σ H Q
def vgCons (t : TG) (u : TGs) : TGs := fun vs σ H Q => match vs with | v :: r => t v σ H fun σ' H' => u r σ' H' Q | [] => False
theorem vgCons_e {t : TG} {u : TGs} {v : V} {r : List V} {σ : L2.St} {H : Hp} {Q : L2.St → Hp → Prop} : vgCons t u (v :: r) σ H Q = t v σ H fun σ' H' => u r σ' H' Q := rfl
def vgNil : TGs := fun vs σ H Q => vs = [] ∧ Q σ H
theorem vgNil_e {σ : L2.St} {H : Hp} {Q : L2.St → Hp → Prop} : vgNil [] σ H Q = Q σ H := by unfold vgNil; simp
theorem q_gcons {e : Expr} {es : List Expr} {t : TG} {u : TGs} (h1 : PG X e t) (h2 : PGs X es u)
    (hs : (assignEach (e :: es) X.env).map (·.2) = assign e X.env :: (assignEach es X.env).map (·.2) := by rfl) : PGs X (e :: es) (vgCons t u) := im_pgs (pgs_cons h1 h2 hs) fun vs σ H Q z => by
  cases vs with
  | nil => exact (show False from z).elim
  | cons v r => exact ⟨v, r, rfl, z⟩
theorem q_gnil : PGs X [] vgNil := pgs_nil
theorem q_gtup {es : List Expr} {kk : Nat} {t : TGs} {n : Nat} {pos : Pos} (hc : X.calm = true) (h : PGs X es t)
    (hn : (assignEach es X.env).length = n := by rfl) (hst : (assignEach es X.env).findIdx? (·.1) = none := by rfl) : PG X (.Tuple es kk pos) (vgTup n t) := im_pg (pg_tup hc h hn hst) fun v σ H Q z => by
  obtain ⟨a, e1, z1⟩ := refR_el z
  obtain ⟨xs, e2, e3, z2⟩ := tupO_el z1
  exact ⟨a, xs, e1, .inl e2, e3, z2⟩
theorem e_asgG (te : TE) (g : TG) (n : L2.St → Hp → Prop) (r : VK) (k l : L2.St → Hp → Prop) (σ : L2.St) (H : Hp) : tAsg te g ⟨n, r, k, l⟩ σ H = te σ H fun x H1 => g x σ H1 n := rfl
/-! what is walked -/
def upI (wi : TI) : TI := fun σ H R => ∃ R' : It → Hp → Prop, wi σ H R' ∧ ∀ J H', R' J H' → R J H'
theorem up_pi {tg it : Expr} {wi : TI} (h : PI X tg it wi) : PI X tg it (upI wi) := ⟨fun pins s σ H R I ⟨R', z, m⟩ => thn (h.run pins s σ H R' I z) fun v s1 h1 => thn h1 fun itv s2 ⟨it, fp, tn, J, H', e, I', T, st, f, q⟩ => ⟨it, fp, tn, J, H', e, I', T, st, f, m J H' q⟩⟩
theorem im_pi {tg it : Expr} {wi wi' : TI} (h : PI X tg it wi) (i : ∀ σ H R, wi' σ H R → wi σ H R) : PI X tg it wi' := ⟨fun pins s σ H R I z => h.run pins s σ H R I (i σ H R z)⟩
def viList (K : PySem.W.Frag) (tl : TE) : TI := fun σ H R => tl σ H fun x H1 => refR x fun a => lstO (H1 a) fun _ => R (Itl K a) H1
def viTup (K : PySem.W.Frag) (tl : TE) : TI := fun σ H R => tl σ H fun x H1 => refR x fun a => tupO (H1 a) fun _ => R (Itt K a) H1
def viStr (tl : TE) : TI := fun σ H R => tl σ H fun x H1 => strR x fun z => R (Its z) H1
def viR1 (ta : TA) : TI := fun σ H R => ta σ H fun vs H1 => one1 vs fun x => intR x fun j => (-(2 ^ 62) ≤ j ∧ j < 2 ^ 62) ∧ R (Itr 0 j.toNat) H1
def viEnum (K : PySem.W.Frag) (ta : TA) : TI := fun σ H R => ta σ H fun vs H1 => one1 vs fun x => refR x fun a => lstO (H1 a) fun _ => R (Ite K a) H1
section
variable {tg l : Expr} {tl : TE}
theorem qi_str (hl : PE X l tl) : PI X tg l (viStr tl) := im_pi (pi_str (up_pe hl)) fun _ _ _ h => ⟨_, h, fun _ _ z => by
  obtain ⟨a, e1, z1⟩ := strR_el z
  exact ⟨a, e1, z1⟩⟩
theorem qi_list (hl : PE X l tl) : PI X tg l (viList X.K tl) := im_pi (pi_list (up_pe hl)) fun _ _ _ h => ⟨_, h, fun _ _ z => by
  obtain ⟨a, e1, z1⟩ := refR_el z
  obtain ⟨xs, e2, z2⟩ := lstO_el z1
  exact ⟨a, e1, ⟨xs, SqL.of e2⟩, z2⟩⟩
theorem qi_tup (hl : PE X l tl) : PI X tg l (viTup X.K tl) := im_pi (pi_tup (up_pe hl)) fun _ _ _ h => ⟨_, h, fun _ _ z => by
  obtain ⟨a, e1, z1⟩ := refR_el z
  obtain ⟨xs, e2, z2⟩ := tupO_el z1
  exact ⟨a, e1, ⟨xs, .inl e2⟩, z2⟩⟩
theorem qi_r1 {a : Expr} {ta : TA} {p pos : Pos} (hg : Gl X "range") (hm : X.mg "range" = none) (ha : PA X [a] ta) (hs : starEach [a] X.env = [(false, eval a X.env)] := by rfl) : PI X tg (.Call (.Name "range" p) [a] [] pos) (viR1 ta) :=
  im_pi (pi_range1 hg hm (up_pa ha) hs) fun _ _ _ h => ⟨_, h, fun _ _ z => by
    obtain ⟨x, e1, z1⟩ := one1_el z
    obtain ⟨j, e2, ⟨h1, h2⟩, z2⟩ := intR_el z1
    subst e2
    exact ⟨j, e1, h1, h2, z2⟩⟩
theorem qi_enum {e : Expr} {ta : TA} {p pos tpos : Pos} {elts : List Expr} {kk : Nat} (hg : Gl X "enumerate") (hm : X.mg "enumerate" = none) (ha : PA X [e] ta) (hs : starEach [e] X.env = [(false, eval e X.env)] := by rfl) :
    PI X (.Tuple elts kk tpos) (.Call (.Name "enumerate" p) [e] [] pos) (viEnum X.K ta) := im_pi (pi_enum hg hm (up_pa ha) hs) fun _ _ _ h => ⟨_, h, fun _ _ z => by
    obtain ⟨x, e1, z1⟩ := one1_el z
    obtain ⟨j, e2, z2⟩ := refR_el z1
    obtain ⟨xs, e3, z3⟩ := lstO_el z2
    subst e2
    exact ⟨j, xs, e1, SqL.of e3, z3⟩⟩
end
def vFor (wi : TI) (g : TG) (tb : TS) : TS := fun D σ H => wi σ H fun J H1 => ∃ (n : Nat) (G : Hp → Prop) (Y : Nat → Hp → V → Hp → Prop) (Pv : Nat → L2.St → Hp → Prop), Walk J n G Y ∧ Pv 0 σ H1 ∧ (∀ i σ H, i ≤ n → Pv i σ H → G H) ∧
  (∀ i x σ H H', i < n → Pv i σ H → Y i H x H' → g x σ H' fun σ2 H2 => Later (tb ⟨Pv (i + 1), D.rt, D.nx, Pv (i + 1)⟩) σ2 H2) ∧ ∀ σ H, Pv n σ H → D.nx σ H
theorem q_for {tg iter : Expr} {body : List Stmt} {wi : TI} {g : TG} {tb : TS} {pos : Pos} (hp : PassesOwn (model X.prog X.w) X.A X.env X.xe) (hc : X.calm = true) (hi : PI X tg iter wi) (hg : PG X tg g) (hb : PSs X body tb)
    (hs : ∀ x, foldedSetIterable iter X.env x = pure x := by intro _; rfl) : PS X (.For tg iter body [] pos) (vFor wi g tb) := im_ps (ps_for hp hc (up_pi hi) hg hb hs) fun D σ H h => ⟨_, h, fun J H1 z => by
  obtain ⟨n, G, Y, Pv, w, h0, hG, hs, hd⟩ := z
  exact for_it w Pv h0 hG hs hd⟩
theorem e_for {wi : TI} {g : TG} {tb : TS} (n : L2.St → Hp → Prop) (r : VK) (k l : L2.St → Hp → Prop) (σ : L2.St) (H : Hp) : vFor wi g tb ⟨n, r, k, l⟩ σ H =
    wi σ H fun J H1 => ∃ (m : Nat) (G : Hp → Prop) (Y : Nat → Hp → V → Hp → Prop) (Pv : Nat → L2.St → Hp → Prop), Walk J m G Y ∧ Pv 0 σ H1 ∧ (∀ i σ H, i ≤ m → Pv i σ H → G H) ∧
      (∀ i x σ H H', i < m → Pv i σ H → Y i H x H' → g x σ H' fun σ2 H2 => Later (tb ⟨Pv (i + 1), r, n, Pv (i + 1)⟩) σ2 H2) ∧ ∀ σ H, Pv m σ H → n σ H := rfl
/-! comprehensions -/
theorem up_pts {es : List Expr} {t : TT} (h : PTs X es t) : PTs X es (upT t) := ⟨fun pins s σ H Q I ⟨Q', z, m⟩ => thn (h.run pins s σ H Q' I z) fun _ _ ⟨H', I', q⟩ => ⟨H', I', m _ H' q⟩⟩
def vLc (wi : TI) (g : TG) (tt : TT) (te : TE) (vs : List Nat) : TE := fun σ H Q => wi σ H fun J H1 => ∀ D, H1 D = none → ∃ (n : Nat) (G : Hp → Prop) (Y : Nat → Hp → V → Hp → Prop) (Pv : Nat → Hp → Prop), Walk J n G Y ∧ Pv 0 (upd H1 D (.lst [])) ∧ (∀ i H, i ≤ n → Pv i H → G H) ∧
  (∀ i x H H', i < n → Pv i H → Y i H x H' → g x (wipe σ vs) H' fun σ2 H2 => wipe σ2 vs = wipe σ vs ∧ tt σ2 H2 fun b H3 => if b = true then te σ2 H3 fun y H4 => lstO (H4 D) fun acc => acc.length < sizeLine ∧ Pv (i + 1) (upd H4 D (.lst (acc ++ [y]))) else Pv (i + 1) H3) ∧ ∀ H, Pv n H → Q (.ref D) H
theorem vLc_to {wi : TI} {g : TG} {tt : TT} {te : TE} {vs : List Nat} {σ : L2.St} {H : Hp} {Q : VK} (h : vLc wi g tt te vs σ H Q) : tLc (upI wi) (upG g) (upT tt) (upE te) vs σ H Q := ⟨_, h, fun J H1 z D hD => by
  obtain ⟨n, G, Y, Pv, w, h0, hG, hs, hd⟩ := z D hD
  refine lc_it w Pv h0 hG (fun i x H H' hi p y => ⟨_, hs i x H H' hi p y, fun σ2 H2 q => ⟨q.1, _, q.2, fun b H3 q3 => ?_⟩⟩) hd
  cases b with
  | true => exact ⟨_, q3, fun y H4 q4 => by
      obtain ⟨acc, e, z⟩ := lstO_el q4
      exact ⟨acc, e, z.1, z.2⟩⟩
  | false => exact q3⟩
theorem q_lc {elt tg iter : Expr} {ifs : List Expr} {scope : Scope} {own : List (Str × Nat)} {pos : Pos} {wi : TI} {g : TG} {tt : TT} {te : TE} (hc : X.calm = true) (hN : X.N.Nodup) (hi : PI X tg iter wi) (ok : BlkOk X.N X.env.scope scope own)
    (hg : ∀ (s : Shared) (H : Hp) (C : Addr) (cl : List (Str × Addr)) (fp : List Addr), PG (X.blk s H scope (compEnvC scope cl C X.env) fp) tg g) (ht : ∀ (s : Shared) (H : Hp) (C : Addr) (cl : List (Str × Addr)) (fp : List Addr), PTs (X.blk s H scope (compEnvC scope cl C X.env) fp) ifs tt)
    (he : ∀ (s : Shared) (H : Hp) (C : Addr) (cl : List (Str × Addr)) (fp : List Addr), PE (X.blk s H scope (compEnvC scope cl C X.env) fp) elt te) (hs : ∀ x, foldedSetIterable iter X.env x = pure x := by intro _; rfl) :
    PE X (.ListComp elt [⟨tg, iter, ifs, 0⟩] scope pos) (vLc wi g tt te (own.map (·.2))) :=
  im_pe (pe_lc hc hN (up_pi hi) ok (fun s H C cl fp => up_pg (hg s H C cl fp)) (fun s H C cl fp => up_pts (ht s H C cl fp)) (fun s H C cl fp => up_pe (he s H C cl fp)) hs) fun _ _ _ h => vLc_to h
theorem q_setLc {i : Nat} {y : Str} {py : Pos} {elt tg iter : Expr} {ifs : List Expr} {scope : Scope} {own : List (Str × Nat)} {pos spos : Pos} {wi : TI} {g : TG} {tt : TT} {te : TE} (hc : X.calm = true) (hN : X.N.Nodup) (hy : X.N[i]? = some y) (hyl : X.env.scope.names.lookup y = some .local)
    (hsw : swapsWith (.ListComp elt [⟨tg, iter, ifs, 0⟩] scope pos) (some (.Name y py)) spos.line X.env = pure true) (hi : PI X tg iter wi) (ok : BlkOk X.N X.env.scope scope own)
    (hg : ∀ (s : Shared) (H : Hp) (C : Addr) (cl : List (Str × Addr)) (fp : List Addr), PG (X.blk s H scope (compEnvC scope cl C X.env) fp) tg g) (ht : ∀ (s : Shared) (H : Hp) (C : Addr) (cl : List (Str × Addr)) (fp : List Addr), PTs (X.blk s H scope (compEnvC scope cl C X.env) fp) ifs tt)
    (he : ∀ (s : Shared) (H : Hp) (C : Addr) (cl : List (Str × Addr)) (fp : List Addr), PE (X.blk s H scope (compEnvC scope cl C X.env) fp) elt te) (hs : ∀ x, foldedSetIterable iter X.env x = pure x := by intro _; rfl) :
    PS X (.Assign [.Name y py] (.ListComp elt [⟨tg, iter, ifs, 0⟩] scope pos) spos) (tAsg (vLc wi g tt te (own.map (·.2))) (gName i)) :=
  im_ps (ps_setLc hc hN hy hyl hsw (up_pi hi) ok (fun s H C cl fp => up_pg (hg s H C cl fp)) (fun s H C cl fp => up_pts (ht s H C cl fp)) (fun s H C cl fp => up_pe (he s H C cl fp)) hs) fun _ _ _ h => vLc_to h
end
section
variable {X : Cx}
theorem _root_.L2.Room.units1 {k : Nat} {A : Around} (r : Room k A) : A.units + 65 < cLine := by have := r.un; omega
def rInDT (K : PySem.W.Frag) : R2 := fun x y H Q => ∃ d ds, Dp K H x d ∧ Dp K H y (.tuple ds) ∧ SeqAt.shaped d = true ∧ SeqAt.shaped (.tuple ds) = true ∧ Q (.bl (ds.any fun z => PyData.eqv z d)) H
theorem op_inDT (hu : X.A.units + 65 < cLine) : OpR X (compareOp .In) (rInDT X.K) := by
  rintro pins s σ H x y v u Q I rx ry ⟨d, ds, hd, he, sd, se, q⟩
  obtain ⟨as, r1⟩ := Dp.reads I d x v hd rx
  obtain ⟨bs, r2⟩ := Dp.reads I (.tuple ds) y u he ry
  have h1 := SeqAt.canLay_of_shaped se
  exact SeqAt.in_tuple_reads r2 r1 h1 (SeqAt.canLay_of_shaped sd) (room_in_shaped sd hu) ⟨.bl _, H, I, rfl, q⟩
def wInT (neg : Bool) : R2 := fun x y H Q => refR y fun p => tupO (H p) fun xs => (flatV x = true ∧ xs.all flatV = true) ∧ Q (.bl (if neg then !inV x xs else inV x xs)) H
theorem o_inT : OpR X (compareOp .In) (wInT false) := im_op op_in_seq fun x y H Q z => by
  obtain ⟨p, e1, z1⟩ := refR_el z
  obtain ⟨xs, e2, ⟨h1, h2⟩, z2⟩ := tupO_el z1
  exact ⟨p, xs, e1, .inr (.inl e2), h1, h2, z2⟩
theorem o_notInT : OpR X (compareOp .NotIn) (wInT true) := im_op op_notIn_seq fun x y H Q z => by
  obtain ⟨p, e1, z1⟩ := refR_el z
  obtain ⟨xs, e2, ⟨h1, h2⟩, z2⟩ := tupO_el z1
  exact ⟨p, xs, e1, .inr (.inl e2), h1, h2, z2⟩
theorem q_gi {x : Str} {i : Int} {pos : Pos} (hg : Gl X x) (hm : ∃ t, X.mg x = some (.int i t)) (hd : (x == ("__debug__" : Str)) = false := by decide) : PE X (.Name x pos) (tC (.int i)) := by
  obtain ⟨t, e⟩ := hm
  exact pe_glob hg e ⟨t, rfl⟩ hd
def vRev (te : TE) : TE := fun σ H Q => te σ H fun x H1 => refR x fun a => lstO (H1 a) fun xs => ∀ p, H1 p = none → Q (.ref p) (upd H1 p (.lst xs.reverse))
theorem q_rev {e : Expr} {te : TE} {k : Nat} {p1 p2 p3 pos : Pos} (he : PE X e te) : PE X (.Subscript e (.Slice none none (some (.UnaryOp .USub (.Constant (.int 1) k p1) p2)) p3) pos) (vRev te) := im_pe (pe_revL (up_pe he)) fun _ _ _ h => ⟨_, h, fun _ _ z => by
  obtain ⟨a, e1, z1⟩ := refR_el z
  obtain ⟨xs, e2, z2⟩ := lstO_el z1
  exact ⟨a, xs, e1, SqL.of e2, z2⟩⟩
theorem q_gr {x : Str} {a : Addr} {pos : Pos} (hg : Gl X x) (hm : X.mg x = some (.ref a)) (hd : (x == ("__debug__" : Str)) = false := by decide) : PE X (.Name x pos) (tC (.ref a)) := pe_glob hg hm (show RelV (.ref a) (.ref a) from rfl) hd
def wMulS : R2 := fun x y H Q => strR x fun z => intR y fun n => MulOk z n ∧ Q (.str (Txt.mul z n)) H
theorem o_mulS : OpR X (binaryOp .Mult) wMulS := by
  intro pins s σ H x y v u Q I rx ry z
  obtain ⟨a, e1, z1⟩ := strR_el z
  obtain ⟨n, e2, ok, q⟩ := intR_el z1
  subst e1; subst e2
  obtain ⟨t, rfl⟩ := rx
  obtain ⟨t', rfl⟩ := ry
  exact SB.mul ok fun t2 k => ⟨.str _, H, I.tok _, ⟨_, rfl⟩, q⟩
def frzO (o : Option HO) (k : Obj → List (Key × V) → Prop) : Prop := match o with | some (.frz od (.dK kvs)) => k od kvs | _ => False
theorem frzO_e {od : Obj} {kvs : List (Key × V)} {k : Obj → List (Key × V) → Prop} : frzO (some (.frz od (.dK kvs))) k = k od kvs := rfl
theorem frzO_el {o : Option HO} {k : Obj → List (Key × V) → Prop} (h : frzO o k) : ∃ od kvs, o = some (.frz od (.dK kvs)) ∧ k od kvs := by
  unfold frzO at h
  split at h
  · exact ⟨_, _, rfl, h⟩
  · exact h.elim
def viItems (td : TE) : TI := fun σ H R => td σ H fun x H1 => refR x fun d => frzO (H1 d) fun o kvs => R (Iti d o kvs) H1
def viKeys (td : TE) : TI := fun σ H R => td σ H fun x H1 => refR x fun d => frzO (H1 d) fun o kvs => R (Itk d o kvs) H1
theorem qi_items {elts : List Expr} {kk : Nat} {tpos apos cpos : Pos} {e : Expr} {td : TE} (he : PE X e td) (hbase : attributeBase e "items" X.env (eval e X.env) = eval e X.env := by rfl) (hline : (apos.endLine == cpos.line) = true := by rfl) :
    PI X (.Tuple elts kk tpos) (.Call (.Attribute e "items" apos) [] [] cpos) (viItems td) := im_pi (pi_items (up_pe he) hbase hline) fun _ _ _ h => ⟨_, h, fun _ _ z => by
  obtain ⟨d, e1, z1⟩ := refR_el z
  obtain ⟨o, kvs, e2, z2⟩ := frzO_el z1
  exact ⟨d, o, kvs, e1, e2, z2⟩⟩
theorem qi_keys {tg e : Expr} {td : TE} (he : PE X e td) : PI X tg e (viKeys td) := im_pi (pi_keys (up_pe he)) fun _ _ _ h => ⟨_, h, fun _ _ z => by
  obtain ⟨d, e1, z1⟩ := refR_el z
  obtain ⟨o, kvs, e2, z2⟩ := frzO_el z1
  exact ⟨d, o, e1, .inl ⟨kvs, e2, z2⟩⟩⟩
theorem e_lock {t : TS} (n : L2.St → Hp → Prop) (r : VK) (k l : L2.St → Hp → Prop) (σ : L2.St) (H : Hp) : tLock t ⟨n, r, k, l⟩ σ H = ∃ d u, H d = some u ∧ Mut (some u) ∧ ∀ od, t ⟨fun σ' H' => H' d = some (.frz od u) ∧ n σ' (upd H' d u), fun v H' => H' d = some (.frz od u) ∧ r v (upd H' d u),
    fun σ' H' => H' d = some (.frz od u) ∧ k σ' (upd H' d u), fun σ' H' => H' d = some (.frz od u) ∧ l σ' (upd H' d u)⟩ σ (upd H d (.frz od u)) := rfl
end
end OA

namespace OA
open PySem PySem.Spec PyProof.Rows L2
/-! dicts whose keys are tuples within tuples -/
mutual
/-- the value v is such a key, by what is tracked -/
inductive KeyAt (H : Hp) : V → NestedKey → Prop
  | non : KeyAt H .non .none
  | bl (b : Bool) : KeyAt H (.bl b) (.num (if b = true then 1 else 0))
  | int (i : Int) : KeyAt H (.int i) (.num i)
  | str (x : Str) : KeyAt H (.str x) (.text x)
  | tup {a : Addr} {vs : List V} {ks : List NestedKey} : H a = some (.tup vs) → KeysAt H vs ks → KeyAt H (.ref a) (.tup ks)
inductive KeysAt (H : Hp) : List V → List NestedKey → Prop
  | nil : KeysAt H [] []
  | cons {v : V} {k : NestedKey} {vs : List V} {ks : List NestedKey} : KeyAt H v k → KeysAt H vs ks → KeysAt H (v :: vs) (k :: ks)
end
section
variable {H H' : Hp}
mutual
theorem KeyAt.mono (ht : ∀ b xs, H b = some (.tup xs) → H' b = some (.tup xs)) : ∀ (k : NestedKey) (v : V), KeyAt H v k → KeyAt H' v k
  | .none, _, h => by cases h; exact .non
  | .num _, _, h => by
    cases h with
    | bl b => exact .bl b
    | int => exact .int _
  | .text _, _, h => by cases h; exact .str _
  | .tup ks, _, h => by
    cases h with
    | tup e r => exact .tup (ht _ _ e) (KeysAt.mono ht ks _ r)
theorem KeysAt.mono (ht : ∀ b xs, H b = some (.tup xs) → H' b = some (.tup xs)) : ∀ (ks : List NestedKey) (vs : List V), KeysAt H vs ks → KeysAt H' vs ks
  | [], _, h => by cases h; exact .nil
  | k :: ks, _, h => by
    cases h with
    | cons a b => exact .cons (KeyAt.mono ht k _ a) (KeysAt.mono ht ks _ b)
end
end
section
variable {X : Cx} {pins : List (Addr × Obj)} {σ : L2.St} {H : Hp} {s : Shared}
mutual
theorem KeyAt.is (I : Inv X pins σ H s) : ∀ (k : NestedKey) (v : V) (u : Value), KeyAt H v k → RelV v u → NestedIs s.heap k u
  | .none, _, _, h, r => by
    cases h
    cases r
    exact .none
  | .num _, _, _, h, r => by
    cases h with
    | bl b =>
      cases r
      exact .bool rfl
    | int =>
      obtain ⟨t, rfl⟩ := r
      exact .int _ t
  | .text x, _, _, h, r => by
    cases h
    obtain ⟨t, rfl⟩ := r
    exact .text x t
  | .tup ks, _, _, h, r => by
    cases h with
    | tup e q =>
      cases r
      obtain ⟨its, rv, ⟨o, ho, hc, n, hd⟩, _⟩ := I.tuple (SqT.of e)
      exact .tup ho hc hd (by simpa using KeysAt.is I ks _ its q rv)
theorem KeysAt.is (I : Inv X pins σ H s) : ∀ (ks : List NestedKey) (vs : List V) (us : List Value), KeysAt H vs ks → Vals vs us → NestedAll s.heap ks us
  | [], _, _, h, r => by
    cases h
    cases r
    exact .nil
  | k :: ks, _, _, h, r => by
    cases h with
    | cons h1 h2 =>
      cases r with
      | cons r1 r2 => exact .cons (KeyAt.is I k _ _ h1 r1) (KeysAt.is I ks _ _ h2 r2)
end
end
/-- an entry: the key, its tuple, the value -/
abbrev NE := NestedKey × Addr × V
abbrev relN : List NE → List (NestedKey × Addr × Value) → Prop := Paired fun p q => p.1 = q.1 ∧ p.2.1 = q.2.1 ∧ RelV p.2.2 q.2.2
def rawD (P : Program) (w : World) (d : Addr) (es : List NE) (h : Heap) : Prop := es.length ≤ sizeLine ∧ (d == sysModules) = false ∧ ∃ xs, relN es xs ∧
  ∃ o ea ep, h.get? d = some o ∧ o.ExactDict ∧ o.data = .dict ea ep ∧ ea.toList = xs.map (entryOfKey (nestedKind P w)) ∧ (xs.map (·.1)).Nodup
/-- at d stands a dict with such keys and the values kvs -/
def NDict (P : Program) (w : World) (H : Hp) (d : Addr) (kvs : List (NestedKey × V)) : Prop := ∃ es : List NE, es.map (fun x => (x.1, x.2.2)) = kvs ∧ H d = some (.ext (rawD P w d es)) ∧ ∀ x ∈ es, KeyAt H (.ref x.2.1) x.1 ∧ x.1.depth ≤ 8
theorem rawD_stays {P : Program} {w : World} {d : Addr} {es : List NE} : ∀ h1 h2 : Heap, rawD P w d es h1 → (∀ o, h1.get? d = some o → h2.get? d = some o) → rawD P w d es h2 := fun h1 h2 ⟨z, hd, xs, r, o, ea, ep, e, q⟩ k => ⟨z, hd, xs, r, o, ea, ep, k o e, q⟩
theorem NDict.keep {P : Program} {w : World} {H H' : Hp} {d : Addr} {kvs : List (NestedKey × V)} (h : NDict P w H d kvs) (hd : ∀ o, H d = some o → H' d = some o) (ht : ∀ b xs, H b = some (.tup xs) → H' b = some (.tup xs)) : NDict P w H' d kvs := by
  obtain ⟨es, e, h1, h2⟩ := h
  exact ⟨es, e, hd _ h1, fun x hx => ⟨KeyAt.mono ht _ _ (h2 x hx).1, (h2 x hx).2⟩⟩
theorem relN_kv : ∀ {es : List NE} {xs : List (NestedKey × Addr × Value)}, relN es xs → KV (es.map fun x => (x.1, x.2.2)) (pairsH xs)
  | _, _, .nil => .nil
  | _, _, .cons r t => .cons ⟨r.1, r.2.2⟩ (relN_kv t)
section
variable {X : Cx} {pins : List (Addr × Obj)} {σ : L2.St} {H : Hp} {s : Shared} {d a : Addr} {k : NestedKey}
theorem relN_mem : ∀ {es : List NE} {xs : List (NestedKey × Addr × Value)}, relN es xs → ∀ x ∈ xs, ∃ y ∈ es, y.1 = x.1 ∧ y.2.1 = x.2.1
  | _, _, .nil, x, h => by simp at h
  | _, _, .cons r t, x, h => by
    rcases List.mem_cons.mp h with rfl | h
    · exact ⟨_, List.mem_cons_self, r.1, r.2.1⟩
    · obtain ⟨y, hy, e⟩ := relN_mem t x h
      exact ⟨y, List.mem_cons_of_mem _ hy, e⟩
theorem keyIs (I : Inv X pins σ H s) (h : KeyAt H (.ref a) k) (hk : k.depth ≤ 8) : (nestedKind X.prog X.w).is s.heap k a := ⟨KeyAt.is I k _ _ h (show RelV (.ref a) (.ref a) from rfl), hk⟩
theorem NDict.raw (I : Inv X pins σ H s) {es : List NE} (h : H d = some (.ext (rawD X.prog X.w d es))) (hk : ∀ x ∈ es, KeyAt H (.ref x.2.1) x.1 ∧ x.1.depth ≤ 8) :
    es.length ≤ sizeLine ∧ (d == sysModules) = false ∧ ∃ xs, relN es xs ∧ s.heap.DictOfH (nestedKind X.prog X.w) d xs := by
  obtain ⟨⟨z, hd, xs, r, o, ea, ep, e, q1, q2, q3, q4⟩, _⟩ := (show ObjOk X.prog X.w H s.heap d (.ext (rawD X.prog X.w d es)) from I.hok d _ h)
  refine ⟨z, hd, xs, r, o, ea, ep, e, q1, q2, q3, fun x hx => ?_, q4⟩
  obtain ⟨y, hy, e1, e2⟩ := relN_mem r x hx
  rw [← e1, ← e2]
  exact keyIs I (hk y hy).1 (hk y hy).2
theorem NDict.keyed (I : Inv X pins σ H s) {kvs : List (NestedKey × V)} (h : NDict X.prog X.w H d kvs) : (d == sysModules) = false ∧ ∃ vs, KV kvs vs ∧ s.heap.DictKeyed (nestedKind X.prog X.w) d vs := by
  obtain ⟨es, rfl, h1, h2⟩ := h
  obtain ⟨z, hd, xs, r, m⟩ := NDict.raw I h1 h2
  exact ⟨hd, pairsH xs, relN_kv r, xs, m, rfl⟩
theorem roomN {A : Around} (hu : A.units + 64 < cLine) : (nestedKind X.prog X.w).room A.in1 := by
  show A.units + 1 + 8 < cLine
  omega
/-- y in d -/
def wInN (P : Program) (w : World) : R2 := fun y x H Q => ∃ a d k kvs, y = .ref a ∧ x = .ref d ∧ KeyAt H (.ref a) k ∧ k.depth ≤ 8 ∧ NDict P w H d kvs ∧ Q (.bl (valV kvs k).isSome) H
theorem o_inN (hu : X.A.units + 64 < cLine) : OpR X (compareOp .In) (wInN X.prog X.w) := by
  intro pins s σ H y x v u Q I ry rx h
  obtain ⟨a, d, k, kvs, rfl, rfl, hk, hd8, hn, q⟩ := h
  cases ry
  cases rx
  obtain ⟨hs, vs, kv, m⟩ := NDict.keyed I hn
  refine in_keyed (roomN hu) (keyIs I hk hd8) hs m ?_
  rw [← (kv.val k).isSome_eq]
  exact ⟨.bl _, H, I.tok _, rfl, q⟩
def wGetN (P : Program) (w : World) : R2 := fun x y H Q => ∃ a d k kvs v, x = .ref d ∧ y = .ref a ∧ KeyAt H (.ref a) k ∧ k.depth ≤ 8 ∧ NDict P w H d kvs ∧ valV kvs k = some v ∧ Q v H
theorem q_getN {o i : Expr} {td ty : TE} {pos : Pos} (hu : X.A.units + 64 < cLine) (ho : PE X o td) (hi : PE X i ty) (hs : NoSl i) : PE X (.Subscript o i pos) (tOp (wGetN X.prog X.w) td ty) := by
  refine ⟨fun pins s σ H Q I h => subD_of PySem.F.slot_dict_getitem.lookup hs (thn (ho.run pins s σ H _ I h) fun u s1 z1 => ?_)⟩
  obtain ⟨x, H1, I1, rx, q1⟩ := z1
  refine thn (hi.run pins s1 σ H1 _ I1 q1) fun iv s2 z2 => ?_
  obtain ⟨y, H2, I2, ry, a, d, k, kvs, v, rfl, rfl, hk, hd8, hn, hv, q⟩ := z2
  cases ry
  cases rx
  obtain ⟨hs, vs, kv, m⟩ := NDict.keyed I2 hn
  obtain ⟨w', hw, rw'⟩ := RelO.some_of (v := v) (o := valueAt vs k) (by rw [← hv]; exact kv.val k)
  exact ⟨m.typeIs, getItem_keyed (roomN hu) (keyIs I2 hk hd8) m hw ⟨v, H2, I2.tok _, rw', q⟩⟩
def wNewN (P : Program) (w : World) : TE := fun _ H Q => ∀ p o, H p = none → NDict P w (upd H p o) p [] → Q (.ref p) (upd H p o)
theorem q_newN {pos : Pos} : PE X (.Dict [] [] pos) (wNewN X.prog X.w) := ⟨fun pins s σ H Q I h => by
  have hb : sysModules < s.heap.objs.size := I.big
  have raw : rawD X.prog X.w s.heap.objs.size [] (s.heap.push { cls := .type "dict", data := .dict #[] }) :=
    ⟨Nat.zero_le _, beq_eq_false_iff_ne.mpr (Ne.symm (Nat.ne_of_lt hb)), [], .nil, _, #[], 0, Heap.get?_push_size _ rfl, ⟨rfl, rfl, rfl⟩, rfl, rfl, List.nodup_nil⟩
  have hn := I.hok.fresh (Nat.le_refl s.heap.objs.size)
  refine wpAny_Dict_empty ⟨.ref s.heap.objs.size, _, I.laid (a := s.heap.objs.size) (o := .ext (rawD X.prog X.w s.heap.objs.size [])) (t' := s.toks) (fun _ _ q => Heap.get?_push_of_some _ q) (Nat.le_refl _) ⟨raw, ⟨_, Heap.get?_push_size _ rfl⟩, rawD_stays⟩, rfl, h _ _ hn ?_⟩
  exact ⟨[], rfl, upd_same, fun x hx => by simp at hx⟩⟩
/-- d[y] = v, the key not there -/
def wPutN (P : Program) (w : World) : TSet := fun x y v H Q => ∃ a d k kvs, x = .ref d ∧ y = .ref a ∧ KeyAt H (.ref a) k ∧ k.depth ≤ 8 ∧ NDict P w H d kvs ∧ valV kvs k = none ∧ kvs.length < sizeLine ∧ ∀ o, NDict P w (upd H d o) d (kvs ++ [(k, v)]) → Q (upd H d o)
theorem s_putN (hu : X.A.units + 64 < cLine) : PSet X (wPutN X.prog X.w) := by
  intro pins s σ H x y v ov iv u Q I rx ry rv h
  obtain ⟨a, d, k, kvs, rfl, rfl, hk, hd8, ⟨es, e0, h1, h2⟩, hv, hz, q⟩ := h
  cases rx
  cases ry
  obtain ⟨z, hd, xs, r, m⟩ := NDict.raw I h1 h2
  have hlen : es.length = kvs.length := by rw [← e0, List.length_map]
  have hx : xs.length = es.length := (Paired.length r).symm
  have hat : atKey xs k = none := by
    have q1 := (relN_kv r).val k
    rw [e0, hv] at q1
    have q2 := RelO.none_of q1
    rw [valueAt_pairsH] at q2
    exact Option.map_eq_none_iff.mp q2
  refine wpAny_setItem_heap (hsz := by rw [hx]; exact z) (roomN hu) (keyIs I hk hd8) m fun h' m' hs => ?_
  have est : storedH xs k a u = xs ++ [(k, a, u)] := by
    unfold storedH
    rw [if_neg (by rw [hat]; exact Bool.false_ne_true)]
  rw [est] at m'
  obtain ⟨o, ea, ep, ho, q1, q2, q3, q4, q5⟩ := m'
  have rel : relN (es ++ [(k, a, v)]) (xs ++ [(k, a, u)]) := by
    clear q q1 q2 q3 q4 q5 ho est hat hx hlen m z h1 h2 e0
    induction r with
    | nil => exact .cons ⟨rfl, rfl, rv⟩ .nil
    | cons p _ ih => exact .cons p ih
  have raw : rawD X.prog X.w d (es ++ [(k, a, v)]) h' := ⟨by rw [List.length_append, List.length_singleton]; omega, hd, _, rel, o, ea, ep, ho, q1, q2, q3, q5⟩
  refine ⟨_, d_write I (ob := .ext (rawD X.prog X.w d (es ++ [(k, a, v)]))) (by rw [h1]; exact True.intro) hs ⟨o, ho⟩ ⟨raw, ⟨o, ho⟩, rawD_stays⟩, q _ ⟨es ++ [(k, a, v)], ?_, upd_same, fun x hx => ?_⟩⟩
  · rw [List.map_append, e0]
    rfl
  · have ht : ∀ b xs, H b = some (.tup xs) → (upd H d (.ext (rawD X.prog X.w d (es ++ [(k, a, v)])))) b = some (.tup xs) := fun b xs e => by
      rw [upd_ne (ne_of e h1 (by simp))]
      exact e
    rcases List.mem_append.mp hx with hx | hx
    · exact ⟨KeyAt.mono ht _ _ (h2 x hx).1, (h2 x hx).2⟩
    · have : x = (k, a, v) := by simpa using hx
      subst this
      exact ⟨KeyAt.mono ht _ _ hk, hd8⟩
end
end OA

namespace OA
open PySem PySem.Spec PyProof.Rows L2
section
variable {X : Cx}
/-- a view of a dict's values -/
def viewV (p d : Addr) : HO := .ext fun h => h.get? p = some { cls := .type "dict_values", data := .fields #[.ref d] }
theorem viewV_ok {P : Program} {w : World} {H : Hp} {h : Heap} {p d : Addr} (e : h.get? p = some { cls := .type "dict_values", data := .fields #[.ref d] }) : ObjOk P w H h p (viewV p d) := ⟨e, ⟨_, e⟩, fun h1 h2 q k => k _ q⟩
def vVals (td : TE) : TE := fun σ H Q => td σ H fun x H1 => refR x fun d => dkO (H1 d) fun _ => ∀ p, H1 p = none → Q (.ref p) (upd H1 p (viewV p d))
theorem q_vals {e : Expr} {td : TE} {apos cpos : Pos} (he : PE X e td) (hbase : attributeBase e "values" X.env (eval e X.env) = eval e X.env := by rfl) (hline : (apos.endLine == cpos.line) = true := by rfl) : PE X (.Call (.Attribute e "values" apos) [] [] cpos) (vVals td) := by
  refine ⟨fun pins s σ H Q I h => wpAny_Call_method (T := "dict") (id := "dict.values") hbase rfl hline F.plainAttrs_dict F.slot_dict_values F.type_dict_values (thn (he.run pins s σ H _ I h) fun u s1 z => ?_)⟩
  obtain ⟨x, H1, I1, rx, z1⟩ := z
  obtain ⟨d, ex, z2⟩ := refR_el z1
  obtain ⟨kvs, ed, q⟩ := dkO_el z2
  subst ex
  obtain rfl : u = Value.ref d := rx
  obtain ⟨hz, hs, vs, kv, dd⟩ := dk_of I1.hok ed
  refine ⟨dd.typeIs, dd.mapOf.noDict, ?_⟩
  have hn := I1.hok.fresh (Nat.le_refl s1.heap.objs.size)
  have fin : EP X pins σ Q (.ref s1.heap.objs.size) { s1 with heap := s1.heap.push { cls := .type "dict_values", data := .fields #[.ref d] } } :=
    ⟨.ref s1.heap.objs.size, _, I1.laid (a := s1.heap.objs.size) (o := viewV s1.heap.objs.size d) (t' := s1.toks) (fun b u e => Heap.get?_push_of_some _ e) (Nat.le_refl _) (viewV_ok (Heap.get?_push_size _ rfl)), rfl, q _ hn⟩
  show wpAny _ _ (callWith cpos (.builtin "dict.values") [.ref d] [] []) _ X.xe s1
  exact method_meetsIn F.slot_dict_values F.entry_dict_values rfl (PySem.evalArgs_none ⟨rfl, dd.typeIs, F.args_dict_values_1 _, _, meets_dict_values (mixKind X.prog X.w) d hs, ⟨vs, dd⟩, fin⟩)
def wMaxV : List V → List V → Hp → VK → Prop := fun vs zs H Q => ∃ (p d : Addr) (kvs : List (Key × V)) (ns : List Int) (d0 : Int), vs = [.ref p] ∧ zs = [.int d0] ∧ H p = some (viewV p d) ∧ H d = some (.dK kvs) ∧ kvs.map Prod.snd = ns.map V.int ∧
  ∀ m, (ns = [] → m = d0) → (ns ≠ [] → m ∈ ns ∧ ∀ y ∈ ns, y ≤ m) → Q (.int m) H
theorem c_maxV (hc : X.calm = true) : CallRK X (.builtin "max") [Str.ofString "default"] wMaxV := by
  intro pins s σ H xs zs us ws Q I rx rz h
  obtain ⟨p, d, kvs, ns, d0, rfl, rfl, hp, hd, hns, q⟩ := h
  obtain ⟨u, rfl, ru⟩ := rx.one
  obtain ⟨w1, rfl, t0, rfl⟩ := rz.one
  cases ru
  obtain ⟨hz, hs, vs, kv, dd⟩ := dk_of I.hok hd
  obtain ⟨ep, da⟩ := dd.dictAt
  have hv : s.heap.IsValuesView p d := ⟨_, (show ObjOk X.prog X.w H s.heap p (viewV p d) from I.hok p _ hp).1, rfl, rfl⟩
  have hl : kvs.length = vs.length := kv.length
  have hl2 : vs.length = ns.length := by
    have e := congrArg List.length hns
    rw [List.length_map, List.length_map] at e
    omega
  have hdlt : d < s.heap.objs.size := da.lt_size
  have val : ∀ (i : Nat) (v : Value), (∃ k, vs[i]? = some (k, v)) → ∃ t, v = .int (ns.getD i 0) t := by
    rintro i v ⟨k, hk⟩
    have hi : i < vs.length := (List.getElem?_eq_some_iff.mp hk).1
    have hi2 : i < kvs.length := by omega
    have hi3 : i < ns.length := by omega
    obtain ⟨k1, hk1, r⟩ : ∃ k1 : Key × Value, vs[i]? = some k1 ∧ kvs[i].1 = k1.1 ∧ RelV kvs[i].2 k1.2 := by
      have gen : ∀ {as : List (Key × V)} {bs : List (Key × Value)} (j : Nat) (h : j < as.length), KV as bs → ∃ y, bs[j]? = some y ∧ as[j].1 = y.1 ∧ RelV as[j].2 y.2 := by
        intro as bs j h r
        induction r generalizing j with
        | nil => simp at h
        | cons a _ ih =>
          cases j with
          | zero => exact ⟨_, rfl, a.1, a.2⟩
          | succ j => exact ih j (by simpa using h)
      exact gen i hi2 kv
    rw [hk] at hk1
    cases hk1
    have e2 : kvs[i].2 = V.int ns[i] := by
      have z : (kvs.map Prod.snd)[i]? = (ns.map V.int)[i]? := by rw [hns]
      rw [List.getElem?_map, List.getElem?_map, List.getElem?_eq_getElem hi2, List.getElem?_eq_getElem hi3] at z
      exact Option.some.inj z
    rw [e2] at r
    obtain ⟨t, e⟩ := r.2
    exact ⟨t, by rw [show ns.getD i 0 = ns[i] by simp [hi3]]; exact e⟩
  have ne : d ≠ s.heap.objs.size := Nat.ne_of_lt hdlt
  have keepI : ∀ b o, s.heap.get? b = some o → (s.heap.push { cls := .type "dict_valueiterator", data := .fields #[.ref d, .int 0 0, .int vs.length 0, .int ep 0] }).get? b = some o := fun b o e => Heap.get?_push_of_some _ e
  show wpAny _ _ (call (.builtin "max") [.ref p] [(Str.ofString "default", .int d0 t0)]) _ _ _
  refine call_max_walkD (wpAny_pyIter_values (knd := mixKind X.prog X.w) hv da ⟨s.heap.objs.size, [s.heap.objs.size, d], [s.heap.objs.size], _, vs.length, _, _, s.heap, (fun i j => decide (ns.getD i 0 > ns.getD j 0)), rfl, (Walks.dictValues (A := X.A.in1) (I.ok.hd hc) s.heap.objs.size d ne vs ep).toS, ⟨⟨_, Heap.get?_push_size _ rfl, rfl, rfl⟩, da.keep keepI⟩, fun b hb => ?_, fun b o e hb => ?_, keepI, fun hz s' m => ?_, fun hp0 => ⟨fun i j vi vj s' Q' E' _ hi hj hq => CmpOf.ints_gt (fun i => ns.getD i 0) val i j vi vj s' Q' E' hi hj hq, fun v s' hP m => ?_⟩⟩)
  · show b < (s.heap.push _).objs.size
    rw [Heap.size_push]
    rcases List.mem_cons.mp hb with rfl | hb
    · exact Nat.lt_succ_self _
    · rcases List.mem_cons.mp hb with rfl | hb
      · exact Nat.lt_succ_of_lt hdlt
      · cases hb
  · exact absurd (Heap.lt_size e) ((List.mem_singleton.mp hb) ▸ Nat.lt_irrefl _)
  · obtain ⟨h', tk, rfl, hk'⟩ := PySem.W.moved_old rfl rfl m
    have hn0 : ns = [] := List.eq_nil_of_length_eq_zero (by omega)
    exact ⟨.int d0, H, I.kept hk', ⟨t0, rfl⟩, q d0 (fun _ => rfl) fun h => absurd hn0 h⟩
  · obtain ⟨h', tk, rfl, hk'⟩ := PySem.W.moved_old rfl rfl m
    obtain ⟨t, rfl⟩ := val _ v hP
    obtain ⟨h1, h2⟩ := argBest_gt (fun i => ns.getD i 0) (vs.length - 1)
    refine ⟨.int _, H, I.kept hk', ⟨t, rfl⟩, q _ (fun h => ?_) fun _ => ⟨?_, fun y hy => ?_⟩⟩
    · rw [h] at hl2
      simp at hl2
      rw [hl2] at hp0
      simp at hp0
    · have hb : argBest (fun i j => decide (ns.getD i 0 > ns.getD j 0)) (vs.length - 1) < ns.length := by
        have h1' : argBest (fun i j => decide (ns.getD i 0 > ns.getD j 0)) (vs.length - 1) ≤ vs.length - 1 := h1
        omega
      generalize argBest (fun i j => decide (ns.getD i 0 > ns.getD j 0)) (vs.length - 1) = b at hb ⊢
      simp [hb]
    · obtain ⟨j, hj, rfl⟩ := List.getElem_of_mem hy
      have := h2 j (by omega)
      rw [show ns.getD j 0 = ns[j] by simp [hj]] at this
      exact this
end
end OA

namespace OA
open PySem L2
/-! lists of whole numbers, compared -/
theorem dpInts {K : PySem.W.Frag} {H : Hp} : ∀ ns : List Int, DpAll K H (ns.map V.int) (ns.map PyData.int)
  | [] => .nil
  | n :: ns => .cons (.int n) (dpInts ns)
theorem layInts : ∀ ns : List Int, PyData.canLayAll0 (ns.map PyData.int) = true
  | [] => rfl
  | n :: ns => by simp [PyData.canLayAll0, PyData.canLay0, layInts ns]
theorem depInts : ∀ ns : List Int, PyData.depthAll (ns.map PyData.int) ≤ 1
  | [] => by simp [PyData.depthAll]
  | n :: ns => by
    have := depInts ns
    simp only [List.map_cons, PyData.depthAll, PyData.depth]
    omega
theorem shapedInts (ns : List Int) : SeqAt.shaped (.list (ns.map PyData.int)) = true := by
  have := depInts ns
  have h : (PyData.list (ns.map PyData.int)).depth ≤ 64 := by
    simp only [PyData.depth]
    omega
  have c : (PyData.list (ns.map PyData.int)).canLay0 = true := by
    simp only [PyData.canLay0]
    exact layInts ns
  unfold SeqAt.shaped
  rw [c, decide_eq_true h]
  rfl
theorem eqvInts : ∀ xs ys : List Int, PyData.eqvAll (xs.map PyData.int) (ys.map PyData.int) = decide (xs = ys)
  | [], [] => by simp [PyData.eqvAll]
  | [], y :: ys => by simp [PyData.eqvAll]
  | x :: xs, [] => by simp [PyData.eqvAll]
  | x :: xs, y :: ys => by
    simp only [List.map_cons, PyData.eqvAll, PyData.eqv, eqvInts xs ys]
    by_cases h : x = y
    · subst h
      simp
    · simp [h]
section
variable {X : Cx}
def wEqLI (neg : Bool) : R2 := fun x y H Q => ∃ (a b : Addr) (xs ys : List Int), x = .ref a ∧ y = .ref b ∧ H a = some (.lst (xs.map V.int)) ∧ H b = some (.lst (ys.map V.int)) ∧ Q (.bl (if neg = true then !decide (xs = ys) else decide (xs = ys))) H
theorem o_neLI (hu : X.A.units + 64 < cLine) : OpR X (compareOp .NotEq) (wEqLI true) := im_op (op_neD hu) fun x y H Q ⟨a, b, xs, ys, e1, e2, h1, h2, q⟩ => ⟨.list (xs.map .int), .list (ys.map .int), by rw [e1]; exact .lst (SqL.of h1) (dpInts xs), by rw [e2]; exact .lst (SqL.of h2) (dpInts ys), shapedInts xs, shapedInts ys, by
  unfold PyData.eqv
  rw [eqvInts]
  exact q⟩
theorem o_eqLI (hu : X.A.units + 64 < cLine) : OpR X (compareOp .Eq) (wEqLI false) := im_op (op_eqD hu) fun x y H Q ⟨a, b, xs, ys, e1, e2, h1, h2, q⟩ => ⟨.list (xs.map .int), .list (ys.map .int), by rw [e1]; exact .lst (SqL.of h1) (dpInts xs), by rw [e2]; exact .lst (SqL.of h2) (dpInts ys), shapedInts xs, shapedInts ys, by
  unfold PyData.eqv
  rw [eqvInts]
  exact q⟩
theorem rgV_nat (n : Nat) : rgV 0 (n : Int) = (List.range n).map fun i => V.int (i : Nat) := by
  unfold rgV
  have e : ((n : Int) - 0).toNat = n := by omega
  rw [e]
  refine List.map_congr_left fun i _ => ?_
  rw [Int.zero_add]
/-- list(range(n)) -/
def vLstRg (te : TE) : TE := fun σ H Q => te σ H fun x H1 => intR x fun n => (0 ≤ n ∧ n ≤ 1000) ∧ ∀ q, H1 q = none → Q (.ref q) (upd H1 q (.lst ((List.range n.toNat).map fun i => V.int (i : Nat))))
theorem q_listRg {a : Expr} {ta : TE} {p p2 pos pos2 : Pos} (hc : X.calm = true) (hg : Gl X "list") (hm : X.mg "list" = none) (hg2 : Gl X "range") (hm2 : X.mg "range" = none) (ha : PE X a ta) (na : starEach [a] X.env = (false, eval a X.env) :: starEach [] X.env := by rfl)
    (nb : starEach [.Call (.Name "range" p2) [a] [] pos2] X.env = (false, eval (.Call (.Name "range" p2) [a] [] pos2) X.env) :: starEach [] X.env := by rfl) :
    PE X (.Call (.Name "list" p) [.Call (.Name "range" p2) [a] [] pos2] [] pos) (vLstRg ta) := im_pe (pe_listRg hc hg hm (prg_1 hg2 hm2 (up_pe ha) na) nb) fun σ H Q h => ⟨_, h, fun x H1 z => by
  obtain ⟨n, e, ⟨h0, h1⟩, z1⟩ := intR_el z
  obtain ⟨m, rfl⟩ := Int.eq_ofNat_of_zero_le h0
  refine ⟨(m : Int), e, RgOk.of_le (Int.le_refl 0) (by omega) (by omega) h0, fun q hq => ?_⟩
  rw [rgV_nat]
  exact z1 q hq⟩
def wLstD (vs : List V) (H : Hp) (Q : VK) : Prop := one1 vs fun x => refR x fun p => dkO (H p) fun kvs => ∀ l, H l = none → Q (.ref l) (upd H l (.lst (kvs.map fun kv => kV kv.1)))
theorem c_lstD (hc : X.calm = true) : CallR X (.type "list") wLstD := im_call (call_list_dK hc) fun xs H Q z => by
  obtain ⟨x, e1, z1⟩ := one1_el z
  obtain ⟨p, e2, z2⟩ := refR_el z1
  obtain ⟨kvs, e3, z3⟩ := dkO_el z2
  exact ⟨p, kvs, by rw [e1, e2], e3, z3⟩
end
end OA

namespace OA
open PySem PySem.Spec PyProof.Rows L2
section
variable {X : Cx}
/-- a dict comprehension over what is walked: D the new dict, Pv by the turn and the heap -/
def vDc (wi : TI) (g : TG) (tt : TT) (tk tv : TE) (vs : List Nat) : TE := fun σ H Q => wi σ H fun J H1 => ∀ D, H1 D = none → ∃ (n : Nat) (G : Hp → Prop) (Y : Nat → Hp → V → Hp → Prop) (Pv : Nat → Hp → Prop), Walk J n G Y ∧ Pv 0 (upd H1 D (.dK [])) ∧ (∀ i H, i ≤ n → Pv i H → G H) ∧
  (∀ i x H H', i < n → Pv i H → Y i H x H' → g x (wipe σ vs) H' fun σ2 H2 => wipe σ2 vs = wipe σ vs ∧ tt σ2 H2 fun b H3 => if b = true then tk σ2 H3 fun y H4 => tv σ2 H4 fun z H5 => keyR y fun k => dkO (H5 D) fun kvs => kvs.length < sizeLine ∧ Pv (i + 1) (upd H5 D (.dK (putK kvs k z))) else Pv (i + 1) H3) ∧ ∀ H, Pv n H → Q (.ref D) H
theorem vDc_to {wi : TI} {g : TG} {tt : TT} {tk tv : TE} {vs : List Nat} {σ : L2.St} {H : Hp} {Q : VK} (h : vDc wi g tt tk tv vs σ H Q) : tDc (upI wi) (upG g) (upT tt) (upE tk) (upE tv) vs σ H Q := ⟨_, h, fun J H1 z D hD => by
  obtain ⟨n, G, Y, Pv, w, h0, hG, hs, hd⟩ := z D hD
  refine ⟨fun i m H => m = n - i ∧ i ≤ n ∧ Pv i H, ⟨n, by simp, Nat.zero_le _, h0⟩, ?_⟩
  rintro i m H ⟨rfl, hi, p⟩
  have q := hG i H hi p
  by_cases hlt : i < n
  · refine .inr ⟨w.goes i H hlt q, Pv (i + 1), fun H' p' => ⟨n - (i + 1), by omega, rfl, hlt, p'⟩, fun x H' y => ?_⟩
    refine ⟨_, hs i x H H' hlt p (w.yields i H x H' hlt q y), fun σ2 H2 r => ⟨r.1, _, r.2, fun b H3 r3 => ?_⟩⟩
    cases b with
    | true =>
      refine ⟨_, r3, fun y H4 r4 => ⟨_, r4, fun z H5 r5 => ?_⟩⟩
      obtain ⟨k, e1, r6⟩ := keyR_el r5
      obtain ⟨kvs, e2, r7⟩ := dkO_el r6
      exact ⟨kvs, k, e1, e2, r7.1, r7.2⟩
    | false => exact r3
  · have e : i = n := by omega
    subst e
    exact .inl ⟨w.stops H q, hd H p⟩⟩
theorem q_dc {kx vx tg iter : Expr} {ifs : List Expr} {scope : Scope} {own : List (Str × Nat)} {pos : Pos} {wi : TI} {g : TG} {tt : TT} {tk tv : TE} (hc : X.calm = true) (hN : X.N.Nodup) (hi : PI X tg iter wi) (ok : BlkOk X.N X.env.scope scope own)
    (hg : ∀ (s : Shared) (H : Hp) (C : Addr) (cl : List (Str × Addr)) (fp : List Addr), PG (X.blk s H scope (compEnvC scope cl C X.env) fp) tg g) (ht : ∀ (s : Shared) (H : Hp) (C : Addr) (cl : List (Str × Addr)) (fp : List Addr), PTs (X.blk s H scope (compEnvC scope cl C X.env) fp) ifs tt)
    (hk : ∀ (s : Shared) (H : Hp) (C : Addr) (cl : List (Str × Addr)) (fp : List Addr), PE (X.blk s H scope (compEnvC scope cl C X.env) fp) kx tk)
    (he : ∀ (s : Shared) (H : Hp) (C : Addr) (cl : List (Str × Addr)) (fp : List Addr), PE (X.blk s H scope (compEnvC scope cl C X.env) fp) vx tv) (hs : ∀ x, foldedSetIterable iter X.env x = pure x := by intro _; rfl) :
    PE X (.DictComp kx vx [⟨tg, iter, ifs, 0⟩] scope pos) (vDc wi g tt tk tv (own.map (·.2))) :=
  im_pe (pe_dc hc hN (up_pi hi) ok (fun s H C cl fp => up_pg (hg s H C cl fp)) (fun s H C cl fp => up_pts (ht s H C cl fp)) (fun s H C cl fp => up_pe (hk s H C cl fp)) (fun s H C cl fp => up_pe (he s H C cl fp)) hs) fun _ _ _ h => vDc_to h
/-- sorted(d), d's keys ints -/
def wSortDI (vs : List V) (H : Hp) (Q : VK) : Prop := one1 vs fun x => refR x fun a => dkR (H a) fun kvs => ∃ ks : List Int, kvs.map (·.1) = ks.map Sum.inl ∧ ks.length < 64 ∧ ∀ (ys : List Int) (p : Addr), ys.Perm ks → ys.Pairwise (· ≤ ·) → H p = none → Q (.ref p) (upd H p (.lst (ys.map V.int)))
theorem c_sortDI (hc : X.calm = true) : CallR X (.builtin "sorted") wSortDI := im_call (call_sortedDI hc) fun vs H Q z => by
  obtain ⟨x, e1, z1⟩ := one1_el z
  obtain ⟨a, e2, z2⟩ := refR_el z1
  obtain ⟨kvs, e3, ks, e4, e5, z3⟩ := dkR_el z2
  exact ⟨a, kvs, ks, by rw [e1, e2], e3, e4, e5, z3⟩
/-- d != {} -/
def wNeD0 : R2 := fun x y H Q => refR x fun a => refR y fun b => dkO (H a) fun ks => dkO (H b) fun ls => ls = [] ∧ Q (.bl (!ks.isEmpty)) H
theorem o_neD0 (hu : X.A.units + 64 < cLine) : OpR X (compareOp .NotEq) wNeD0 := by
  intro pins s σ H x y v u Q I rx ry h
  obtain ⟨a, rfl, h1⟩ := refR_el h
  obtain ⟨b, rfl, h2⟩ := refR_el h1
  obtain ⟨ks, ea, h3⟩ := dkO_el h2
  obtain ⟨ls, eb, rfl, q⟩ := dkO_el h3
  obtain rfl : v = Value.ref a := rx
  obtain rfl : u = Value.ref b := ry
  obtain ⟨_, ya, va, ra, da⟩ := (show ObjOk X.prog X.w H s.heap a (.dK ks) from I.hok a _ ea)
  obtain ⟨_, yb, vb, rb, db⟩ := (show ObjOk X.prog X.w H s.heap b (.dK []) from I.hok b _ eb)
  have la := ra.length
  have lb : vb.length = 0 := rb.length.symm
  refine PySem.W.keq_ne (knd := mixKind X.prog X.w) (r := true) ya yb da db (by omega) (fun e => hits_all rb ra fun p hp => ?_) (fin_bl I q ?_)
  · have : ks.length = 0 := by omega
    have : ks = [] := List.eq_nil_of_length_eq_zero this
    subst this
    simp at hp
  · cases ks with
    | nil =>
      have : va.length = 0 := by simpa using la.symm
      simp [this, lb]
    | cons k ks =>
      have : va.length ≠ 0 := by simp at la; omega
      simp [this, lb]
/-- a list times an int from 0 on -/
def wRep : R2 := fun x y H Q => refR x fun l => lstO (H l) fun xs => intR y fun k => (0 ≤ k ∧ k ≤ 1000 ∧ xs.length ≤ 1000) ∧ ∀ p, H p = none → Q (.ref p) (upd H p (.lst (List.replicate k.toNat xs).flatten))
theorem o_rep : OpR X (binaryOp .Mult) wRep := im_op op_rep fun x y H Q z => by
  obtain ⟨l, e1, z1⟩ := refR_el z
  obtain ⟨xs, e2, z2⟩ := lstO_el z1
  obtain ⟨k, e3, ⟨h0, h1, h2⟩, z3⟩ := intR_el z2
  refine ⟨l, k, xs, e1, e3, e2, by omega, by omega, ?_, z3⟩
  have : xs.length * k.toNat ≤ 1000 * 1000 := Nat.mul_le_mul h2 (by omega)
  rw [sizeLine_eq]
  omega
end
end OA


namespace OA
open PySem PySem.Spec PyProof.Rows L2
theorem o_catA {X : Cx} {K' : PySem.W.Frag} (h : X.K = K' := by rfl) : OpR X (binaryOp .Add) (rCatA K') := by
  subst h
  exact op_catA
/-! sorted(..) of pairs of a number and a tuple of numbers -/
def ltL : List Int → List Int → Bool
  | [], [] => false
  | [], _ :: _ => true
  | _ :: _, [] => false
  | a :: l, b :: m => if a = b then ltL l m else decide (a < b)
theorem ltL_irr : ∀ l, ltL l l = false
  | [] => rfl
  | a :: l => by simp [ltL, ltL_irr l]
theorem ltL_asym : ∀ l m, ltL l m = true → ltL m l = false
  | [], [], h => by cases h
  | [], _ :: _, _ => rfl
  | _ :: _, [], h => by cases h
  | a :: l, b :: m, h => by
    unfold ltL at h ⊢
    by_cases z : a = b
    · rw [if_pos z] at h
      rw [if_pos z.symm]
      exact ltL_asym l m h
    · rw [if_neg z] at h
      rw [if_neg fun y => z y.symm]
      have := of_decide_eq_true h
      exact decide_eq_false (by omega)
theorem ltL_tr : ∀ x y z, ltL y x = false → ltL z y = false → ltL z x = false
  | [], [], [], _, _ => rfl
  | [], [], _ :: _, _, _ => rfl
  | [], _ :: _, [], _, h => by cases h
  | [], _ :: _, _ :: _, _, _ => rfl
  | _ :: _, [], _, h, _ => by cases h
  | _ :: _, _ :: _, [], _, h => by cases h
  | a :: l, b :: m, c :: k, h1, h2 => by
    unfold ltL at h1 h2 ⊢
    by_cases z : c = a
    · rw [if_pos z]
      by_cases y : b = a
      · rw [if_pos y] at h1
        rw [if_pos (z.trans y.symm)] at h2
        exact ltL_tr l m k h1 h2
      · rw [if_neg y] at h1
        rw [if_neg (fun w => y (w.symm.trans z))] at h2
        have h1 := of_decide_eq_false h1
        have h2 := of_decide_eq_false h2
        omega
    · rw [if_neg z]
      refine decide_eq_false ?_
      by_cases y : b = a
      · rw [if_neg (fun w => z (w.trans y))] at h2
        have h2 := of_decide_eq_false h2
        omega
      · rw [if_neg y] at h1
        have h1 := of_decide_eq_false h1
        by_cases w : c = b
        · omega
        · rw [if_neg w] at h2
          have h2 := of_decide_eq_false h2
          omega
theorem ltL_lex (l m : List Int) : Ob.lexAt (fun j => decide (l[j]? = m[j]?)) (fun j => decide (l.getD j 0 < m.getD j 0)) (decide (l.length < m.length)) 0 (min l.length m.length) = ltL l m := by
  have gen : ∀ k i, min l.length m.length - i = k → Ob.lexAt (fun j => decide (l[j]? = m[j]?)) (fun j => decide (l.getD j 0 < m.getD j 0)) (decide (l.length < m.length)) i k = if i ≤ min l.length m.length then ltL (l.drop i) (m.drop i) else decide (l.length < m.length) := fun k => by
    induction k with
    | zero =>
      intro i hk
      rw [Ob.lexAt_zero]
      by_cases z : i ≤ min l.length m.length
      · rw [if_pos z]
        have hi : i = min l.length m.length := by omega
        rcases Nat.lt_trichotomy l.length m.length with c | c | c
        · rw [List.drop_of_length_le (show l.length ≤ i by omega), List.drop_eq_getElem_cons (show i < m.length by omega), decide_eq_true c]
          rfl
        · rw [List.drop_of_length_le (show l.length ≤ i by omega), List.drop_of_length_le (show m.length ≤ i by omega), decide_eq_false (by omega)]
          rfl
        · rw [List.drop_of_length_le (show m.length ≤ i by omega), List.drop_eq_getElem_cons (show i < l.length by omega), decide_eq_false (by omega)]
          rfl
      · rw [if_neg z]
    | succ k ih =>
      intro i hk
      have c1 : i + 1 ≤ min l.length m.length := by omega
      have c2 : i ≤ min l.length m.length := by omega
      rw [Ob.lexAt_succ, ih (i + 1) (by omega), if_pos c1, if_pos c2, List.drop_eq_getElem_cons (show i < l.length by omega), List.drop_eq_getElem_cons (show i < m.length by omega)]
      show _ = if l[i] = m[i] then _ else _
      have e1 : l[i]? = some (l[i]'(by omega)) := List.getElem?_eq_getElem _
      have e2 : m[i]? = some (m[i]'(by omega)) := List.getElem?_eq_getElem _
      simp only [e1, e2, Option.some.injEq, decide_eq_true_eq, List.getD_eq_getElem?_getD, Option.getD_some]
  have h := gen _ 0 rfl
  rw [Nat.sub_zero, if_pos (Nat.zero_le _)] at h
  exact h
def ltPT (p q : Int × List Int) : Bool := if p.1 = q.1 then ltL p.2 q.2 else decide (p.1 < q.1)
theorem ltPT_irr (p : Int × List Int) : ltPT p p = false := by unfold ltPT; rw [if_pos rfl, ltL_irr]
theorem ltPT_asym (p q : Int × List Int) (h : ltPT p q = true) : ltPT q p = false := by
  unfold ltPT at h ⊢
  by_cases z : p.1 = q.1
  · rw [if_pos z] at h
    rw [if_pos z.symm]
    exact ltL_asym _ _ h
  · rw [if_neg z] at h
    rw [if_neg fun y => z y.symm]
    have := of_decide_eq_true h
    exact decide_eq_false (by omega)
theorem ltPT_tr (x y z : Int × List Int) (h1 : ltPT y x = false) (h2 : ltPT z y = false) : ltPT z x = false := by
  unfold ltPT at h1 h2 ⊢
  by_cases a : z.1 = x.1
  · rw [if_pos a]
    by_cases b : y.1 = x.1
    · rw [if_pos b] at h1
      rw [if_pos (a.trans b.symm)] at h2
      exact ltL_tr _ _ _ h1 h2
    · rw [if_neg b] at h1
      rw [if_neg (fun w => b (w.symm.trans a))] at h2
      have h1 := of_decide_eq_false h1
      have h2 := of_decide_eq_false h2
      omega
  · rw [if_neg a]
    refine decide_eq_false ?_
    by_cases b : y.1 = x.1
    · rw [if_neg (fun w => a (w.trans b))] at h2
      have h2 := of_decide_eq_false h2
      omega
    · rw [if_neg b] at h1
      have h1 := of_decide_eq_false h1
      by_cases w : z.1 = y.1
      · omega
      · rw [if_neg w] at h2
        have h2 := of_decide_eq_false h2
        omega
theorem ltPT_swo {α : Type} (k : α → Int × List Int) : SrtO.Swo fun v u => ltPT (k v) (k u) := ⟨fun _ _ h => ltPT_asym _ _ h, fun _ _ _ h1 h2 => ltPT_tr _ _ _ h1 h2⟩
/-- a tuple of numbers -/
def IsIT (h : Heap) (b : Addr) (l : List Int) : Prop := ∃ its : Array Value, h.IsTuple b its ∧ its.size = l.length ∧ ∀ j (hj : j < its.size), ∃ u, its[j] = .int (l.getD j 0) u
/-- a pair of a number and a tuple of numbers -/
def IsPT (h : Heap) (v : Value) (x : Int) (l : List Int) : Prop := ∃ a o t b n, v = .ref a ∧ h.get? a = some o ∧ o.cls = .type "tuple" ∧ o.data = .seq #[.int x t, .ref b] n ∧ IsIT h b l
theorem IsIT.keeps {h h' : Heap} {b : Addr} {l : List Int} (p : IsIT h b l) (k : ∀ b o, h.get? b = some o → o.cls = .type "tuple" → h'.get? b = some o) : IsIT h' b l := by
  obtain ⟨its, ⟨o, ho, hc, r⟩, h2, h3⟩ := p
  exact ⟨its, ⟨o, k _ _ ho hc, hc, r⟩, h2, h3⟩
theorem IsPT.keeps {h h' : Heap} {v : Value} {x : Int} {l : List Int} (p : IsPT h v x l) (k : ∀ b o, h.get? b = some o → o.cls = .type "tuple" → h'.get? b = some o) : IsPT h' v x l := by
  obtain ⟨a, o, t, b, n, e, ho, hc, hd, hi⟩ := p
  exact ⟨a, o, t, b, n, e, k _ _ ho hc, hc, hd, hi.keeps k⟩
theorem all_eqL (l m : List Int) : ((List.range (min l.length m.length)).all (fun j => decide (l[j]? = m[j]?)) && (l.length == m.length)) = decide (l = m) := by
  rw [Bool.eq_iff_iff]
  simp only [Bool.and_eq_true, List.all_eq_true, List.mem_range, decide_eq_true_eq, beq_iff_eq]
  constructor
  · rintro ⟨h1, h2⟩
    refine List.ext_getElem? fun j => ?_
    by_cases z : j < min l.length m.length
    · exact h1 j z
    · rw [List.getElem?_eq_none (by omega), List.getElem?_eq_none (by omega)]
  · rintro rfl
    exact ⟨fun _ _ => rfl, rfl⟩
section
variable {prog : Program} {w : World} {A : Around} {s : Shared} {E : Value → Shared → Prop}
theorem eq_it {b b' : Addr} {l m : List Int} (hl : IsIT s.heap b l) (hm : IsIT s.heap b' m) (hu : A.units < cLine) : SeqAt.EqAt A s (.ref b) (.ref b') (decide (l = m)) := by
  obtain ⟨its, h1, h2, h3⟩ := hl
  obtain ⟨its2, g1, g2, g3⟩ := hm
  by_cases z : b = b'
  · subst z
    have e : its = its2 := by
      obtain ⟨o, e1, c1, n, d1⟩ := h1
      obtain ⟨o2, e2, c2, n2, d2⟩ := g1
      rw [e1] at e2
      cases e2
      rw [d1] at d2
      cases d2
      rfl
    subst e
    have : l = m := by
      refine List.ext_getElem? fun j => ?_
      by_cases hj : j < its.size
      · obtain ⟨u, eu⟩ := h3 j hj
        obtain ⟨u2, eu2⟩ := g3 j hj
        rw [eu] at eu2
        have e5 : l.getD j 0 = m.getD j 0 := (Value.int.inj eu2).1
        rw [List.getElem?_eq_getElem (show j < l.length by omega), List.getElem?_eq_getElem (show j < m.length by omega)]
        rw [List.getD_eq_getElem?_getD, List.getD_eq_getElem?_getD, List.getElem?_eq_getElem (show j < l.length by omega), List.getElem?_eq_getElem (show j < m.length by omega)] at e5
        exact congrArg some e5
      · rw [List.getElem?_eq_none (by omega), List.getElem?_eq_none (by omega)]
    rw [decide_eq_true this]
    exact SeqAt.EqAt.same _
  · have := SeqAt.EqAt.of_refs z (SeqAt.RcAt.tuples (e := fun j => decide (l[j]? = m[j]?)) h1 g1 hu fun j c1 c2 => by
      obtain ⟨u, eu⟩ := h3 j c1
      obtain ⟨u2, eu2⟩ := g3 j c2
      rw [eu, eu2]
      have := SeqAt.EqAt.int_int (A := A.in1) (s := s) (l.getD j 0) u (m.getD j 0) u2
      have e : (l.getD j 0 == m.getD j 0) = decide (l[j]? = m[j]?) := by
        rw [List.getD_eq_getElem?_getD, List.getD_eq_getElem?_getD, List.getElem?_eq_getElem (show j < l.length by omega), List.getElem?_eq_getElem (show j < m.length by omega)]
        rw [Bool.eq_iff_iff]
        simp
      rw [e] at this
      exact this)
    rw [h2, g2, all_eqL] at this
    exact this
theorem lt_it {b b' : Addr} {l m : List Int} (hl : IsIT s.heap b l) (hm : IsIT s.heap b' m) (hu : A.units < cLine) : Ob.RcOp .Lt A s (.ref b) (.ref b') (ltL l m) := by
  obtain ⟨its, h1, h2, h3⟩ := hl
  obtain ⟨its2, g1, g2, g3⟩ := hm
  have := Ob.RcOp.tuples_lt (e := fun j => decide (l[j]? = m[j]?)) (r := fun j => decide (l.getD j 0 < m.getD j 0)) h1 g1 hu (fun j c1 c2 => by
      obtain ⟨u, eu⟩ := h3 j c1
      obtain ⟨u2, eu2⟩ := g3 j c2
      rw [eu, eu2]
      have := SeqAt.EqAt.int_int (A := A.in1) (s := s) (l.getD j 0) u (m.getD j 0) u2
      have e : (l.getD j 0 == m.getD j 0) = decide (l[j]? = m[j]?) := by
        rw [List.getD_eq_getElem?_getD, List.getD_eq_getElem?_getD, List.getElem?_eq_getElem (show j < l.length by omega), List.getElem?_eq_getElem (show j < m.length by omega)]
        rw [Bool.eq_iff_iff]
        simp
      rw [e] at this
      exact this) fun j c1 c2 _ => by
      obtain ⟨u, eu⟩ := h3 j c1
      obtain ⟨u2, eu2⟩ := g3 j c2
      rw [eu, eu2]
      exact Ob.RcOp.lt_int _ _ _ _
  rw [h2, g2, ltL_lex] at this
  exact this
theorem pt_cmp {vs : List Value} {k : Value → Int × List Int} (hu : A.units < cLine) (hp : ∀ v ∈ vs, IsPT s.heap v (k v).1 (k v).2) : SrtO.Cmp prog w A s (tuples' true) (fun p => p.1 ∈ vs) (SrtO.lt2 fun v u => ltPT (k v) (k u)) := by
  intro p q hm hm'
  have h1 := hp _ hm
  have h2 := hp _ hm'
  show wpAny (model prog w) A (keyLt' (tuples' true) p.1 q.1) (fun r s' => s' = s ∧ r = ltPT (k p.1) (k q.1)) (fun _ _ => False) s
  unfold ltPT
  generalize (k p.1).1 = x at h1 ⊢
  generalize (k p.1).2 = y at h1 ⊢
  generalize (k q.1).1 = x' at h2 ⊢
  generalize (k q.1).2 = y' at h2 ⊢
  obtain ⟨a, o, t, u, n, e, ho, hc, hd, hi⟩ := h1
  obtain ⟨a', o', t', u', n', e', ho', hc', hd', hi'⟩ := h2
  rw [e, e']
  refine PySem.W.kat_lt ho hd ho' hd' ?_
  show PySem.W.KatLex prog w A true (decide (2 < 2)) _ [(.int x t, .int x' t'), (.ref u, .ref u')] 0 s
  refine PySem.W.kat_cons (SeqAt.EqAt.int_int x t x' t' prog w _ _ ?_)
  refine PySem.W.kat_go (fun e1 => ?_) (fun e1 => ?_)
  · have ex : x = x' := by simpa using e1
    rw [if_pos ex]
    refine PySem.W.kat_yes (PySem.W.kat_cons (eq_it hi hi' hu prog w _ _ ?_))
    refine PySem.W.kat_go (fun e2 => ?_) (fun e2 => ?_)
    · have ey : y = y' := of_decide_eq_true e2
      rw [ey]
      exact PySem.W.kat_yes (PySem.W.kat_nil ⟨rfl, (ltL_irr y').symm⟩)
    · refine PySem.W.kat_no (PySem.W.kat_one _ _ (lt_it hi hi' hu prog w _ _ ?_))
      exact (show s = s ∧ ltL y y' = ltL y y' from ⟨rfl, rfl⟩)
  · have ex : ¬ x = x' := by simpa using e1
    rw [if_neg ex]
    exact PySem.W.kat_no (oneLt_int ⟨rfl, rfl⟩)
theorem pt_firsts {h : Heap} : ∀ {vs : List Value}, (∀ v ∈ vs, ∃ x l, IsPT h v x l) → ∃ fs : List Value, PySem.W.KatTups h vs fs ∧ fs.length = vs.length ∧ ∀ f ∈ fs, ∃ x t, f = Value.int x t
  | [], _ => ⟨[], PySem.W.KatTups.nil, rfl, fun _ hm => by simp at hm⟩
  | v :: vs, hp => by
    obtain ⟨fs, h1, h2, h3⟩ := pt_firsts (vs := vs) fun v' hm => hp v' (List.mem_cons_of_mem _ hm)
    obtain ⟨x, l, a, o, t, b, n, e, ho, hc, hd, _⟩ := hp v (List.mem_cons_self ..)
    subst e
    refine ⟨.int x t :: fs, PySem.W.KatTups.cons ho hc hd rfl h1, by rw [List.length_cons, List.length_cons, h2], fun f hm => ?_⟩
    rcases List.mem_cons.mp hm with rfl | hm
    · exact ⟨x, t, rfl⟩
    · exact h3 f hm
theorem pt_sortable {a : Addr} {vs : List Value} {k : Value → Int × List Int} (hu : A.units < cLine) (h0 : 0 < vs.length) (hp : ∀ v ∈ vs, IsPT s.heap v (k v).1 (k v).2) (ha : ∀ o, s.heap.get? a = some o → o.cls ≠ .type "tuple") : SrtO.SortableO prog w A s a vs fun v u => ltPT (k v) (k u) := by
  intro h' keep
  have hp' : ∀ v ∈ vs, IsPT h' v (k v).1 (k v).2 := fun v hm => (hp v hm).keeps fun b o e c => keep b o (fun z => by subst z; exact ha o e c) e
  obtain ⟨fs, h1, h2, h3⟩ := pt_firsts fun v hm => ⟨_, _, hp' v hm⟩
  refine ⟨tuples' true, fun Q E hq => ?_, pt_cmp hu hp'⟩
  refine PySem.W.kat_kind (T := .type "int") h1 (by omega) (fun f hm => ?_) (by rfl) ?_
  · obtain ⟨x, t, rfl⟩ := h3 f hm
    exact PySem.W.Looks.now
  · have e : (Value.type "int" != Value.type "tuple") = true := by first | decide +kernel | rfl | decide
    rw [e]
    exact hq
theorem sorted_pt {l : Addr} {vs : List Value} {k : Value → Int × List Int} {Q : Value → Shared → Prop} (hu : A.in1.in1.units < cLine) (hl : s.heap.IsList l vs.toArray) (hz : vs.length ≤ sizeLine) (hp : ∀ v ∈ vs, IsPT s.heap v (k v).1 (k v).2)
    (h : ∀ (h' : Heap) (d : Addr) (out : List Value), SrtO.Srtd (fun v u => ltPT (k v) (k u)) out → SrtO.Stb (fun v u => ltPT (k v) (k u)) out vs → (∀ b o, s.heap.get? b = some o → h'.get? b = some o) → s.heap.objs.size ≤ d → (∃ n, h'.get? d = some (seqObj "list" out.toArray n)) → Q (.ref d) { s with heap := h' }) :
    wpAny (model prog w) A (call (.builtin "sorted") [.ref l]) Q E s := by
  refine SrtO.sorted_ord (ltPT_swo k) hl hz (fun h2 h₁ a ha kk => ?_) fun out hs hb => ?_
  · refine pt_sortable (s := { s with heap := h₁ }) hu (by omega) (fun v hm => (hp v hm).keeps fun b o e _ => (kk b o e).2) fun o e => ?_
    have e' : some o = some (seqObj "list" vs.toArray 0) := e.symm.trans ha
    cases e'
    intro c
    exact absurd (Value.type.inj c) (by decide)
  · exact h _ _ out hs hb (fun b o e => sortedAll_old e) (Nat.le_succ _) (sortedAll_at s.heap vs out.toArray)
end
/-- sorted(xs), xs a list of pairs of a number and a tuple of numbers -/
def rSortedPT (K : PySem.W.Frag) : List V → Hp → VK → Prop := fun vs H Q => ∃ (a : Addr) (xs : List V) (k : V → Int × List Int), vs = [V.ref a] ∧ SqL K H a xs ∧ (∀ x ∈ xs, ∃ t u, x = V.ref t ∧ H t = some (.tup [.int (k x).1, .ref u]) ∧ H u = some (.tup ((k x).2.map V.int))) ∧
  ∀ ys p, SrtO.Srtd (fun x y => ltPT (k x) (k y)) ys → SrtO.Stb (fun x y => ltPT (k x) (k y)) ys xs → H p = none → Q (.ref p) (upd H p (.lst ys))
section
variable {X : Cx}
theorem cr_sortedPT (hu : X.A.units + 64 < cLine) : CallR X (.builtin "sorted") (rSortedPT X.K) := by
  intro pins s σ H vs us Q I r h
  obtain ⟨a, xs, k, rfl, hs, hx, q⟩ := h
  obtain ⟨its, rv, hl, hz⟩ := I.list hs
  obtain ⟨u, rfl, ru⟩ := vals1 r
  obtain rfl : u = Value.ref a := ru
  obtain ⟨e1, e2⟩ := refs_back rv fun x m => by
    obtain ⟨t, _, e, _⟩ := hx x m
    exact ⟨t, e⟩
  refine sorted_pt (k := fun u => k (backV u)) (by show X.A.units + 1 + 1 < cLine; omega) hl.isList (by rw [← rv.length]; exact hz) (fun v hv => ?_) fun h' d out h1 h2 kp hd hn => ?_
  · obtain ⟨t, rfl⟩ := e2 v hv
    have hm : V.ref t ∈ xs := by rw [e1]; exact List.mem_map.mpr ⟨_, hv, rfl⟩
    obtain ⟨t', b, e, ht, hb⟩ := hx _ hm
    cases e
    obtain ⟨_, its2, r2, o, ho, hc, n, hd⟩ := I.hok _ _ ht
    obtain ⟨u1, u2, rfl, ri, rj⟩ := vals2 r2
    obtain ⟨t1, rfl⟩ := ri
    obtain rfl : u2 = Value.ref b := rj
    obtain ⟨_, its3, r3, ho3⟩ := I.hok _ _ hb
    refine ⟨t, o, t1, b, n, rfl, ho, hc, hd, its3.toArray, ?_, ?_, fun j hj => ?_⟩
    · obtain ⟨o3, a1, a2, n3, a3⟩ := ho3
      exact ⟨o3, a1, a2, n3, a3⟩
    · have := r3.length
      rw [List.length_map] at this
      exact this.symm
    · have hj' : j < its3.length := by simpa using hj
      have hl3 := r3.length
      rw [List.length_map] at hl3
      have hk : ((k (V.ref t)).2.map V.int)[j]? = some (V.int ((k (V.ref t)).2[j]'(by omega))) := by rw [List.getElem?_map, List.getElem?_eq_getElem (by omega)]; rfl
      obtain ⟨u, hu, ru⟩ := r3.get hk
      obtain ⟨t4, e4⟩ := (show ∃ t, u = Value.int _ t from ru)
      refine ⟨t4, ?_⟩
      rw [List.getElem?_eq_getElem hj'] at hu
      have hu := Option.some.inj hu
      show its3.toArray[j] = Value.int ((k (V.ref t)).2.getD j 0) t4
      rw [List.getElem_toArray, hu, e4, List.getD_eq_getElem?_getD, List.getElem?_eq_getElem (by omega)]
      rfl
  · have h3 : ∀ u ∈ out, ∃ a, u = Value.ref a := fun u hu => e2 u (h2.perm.mem_iff.mp hu)
    obtain ⟨n, hn⟩ := hn
    have hb : SrtO.Stb (fun x y => ltPT (k x) (k y)) (out.map backV) xs := by
      rw [e1]
      exact SrtO.Stb.map (ltPT_swo k) backV h2
    refine ⟨.ref d, upd H d (.lst (out.map backV)), I.laid (t' := s.toks) kp hd ⟨?_, out, n, vals_back h3, hn⟩, rfl, q _ d (SrtO.srtd_map h1) hb (I.hok.fresh hd)⟩
    rw [hb.len]
    exact hz
end
end OA

namespace OA
open PySem PySem.Spec PyProof.Rows L2
/-! data; what stands at own addresses; the state of a run as data -/
inductive D where
  | non | bl (b : Bool) | int (i : Int) | str (s : Str) | tup (xs : List D) | lst (xs : List D) | dic (ks : List Key) (xs : List D) | py (d : PyData) | nt (ns : List Int)
inductive W where
  | sh (x : D) | pt (p : Addr) | ty (n : String)
inductive OD where
  | lst (ws : List W) | dic (ks : List Key) (ws : List W) | lk (o : Obj) (kvs : List (Key × V)) (ks : List Key) (ws : List W) | dt (ks : List (List Key)) (ws : List W)
abbrev Om := List (Addr × OD)
abbrev Gm := List (Option W)
section
variable (K : PySem.W.Frag) (H : Hp) (E : Addr → Prop)
mutual
def Lay : D → V → Prop
  | .non, v => v = .non
  | .bl b, v => v = .bl b
  | .int i, v => v = .int i
  | .str s, v => v = .str s
  | .tup xs, v => ∃ a vs, v = .ref a ∧ ¬ E a ∧ H a = some (.tup vs) ∧ LayL xs vs
  | .lst xs, v => ∃ a vs, v = .ref a ∧ ¬ E a ∧ H a = some (.lst vs) ∧ LayL xs vs
  | .dic ks xs, v => ∃ a vs, v = .ref a ∧ ¬ E a ∧ H a = some (.dK (ks.zip vs)) ∧ ks.length = xs.length ∧ LayL xs vs
  | .py d, v => ∀ H', Dp K H' v d
  | .nt ns, v => ∃ a ob, v = .ref a ∧ ¬ E a ∧ H a = some (.frz ob (.tup (ns.map V.int))) ∧ ob.dict = none
def LayL : List D → List V → Prop
  | [], vs => vs = []
  | x :: xs, vs => ∃ v r, vs = v :: r ∧ Lay x v ∧ LayL xs r
end
def VOk : W → V → Prop
  | .sh x, v => Lay K H E x v
  | .pt p, v => v = .ref p
  | .ty n, v => v = .ty n
def VOks : List W → List V → Prop
  | [], vs => vs = []
  | x :: xs, vs => ∃ v r, vs = v :: r ∧ VOk K H E x v ∧ VOks xs r
def ObOk (p : Addr) : OD → Prop
  | .lst ws => ∃ vs, H p = some (.lst vs) ∧ VOks K H E ws vs
  | .dic ks ws => ∃ vs, H p = some (.dK (ks.zip vs)) ∧ ks.length = ws.length ∧ VOks K H E ws vs
  | .lk o kvs ks ws => ∃ vs, H p = some (.frz o (.dK kvs)) ∧ kvs = ks.zip vs ∧ ks.length = ws.length ∧ VOks K H E ws vs
  | .dt ks ws => ∃ vs, H p = some (.dT (ks.zip vs)) ∧ ks.length = ws.length ∧ VOks K H E ws vs
end
section
variable {K : PySem.W.Frag} {H H' : Hp} {E E' : Addr → Prop}
mutual
theorem Lay.mono (k : ∀ b o, ¬ E b → H b = some o → ¬ E' b ∧ H' b = some o) : ∀ (x : D) (v : V), Lay K H E x v → Lay K H' E' x v
  | .non, _, h => h
  | .bl _, _, h => h
  | .int _, _, h => h
  | .str _, _, h => h
  | .tup xs, _, ⟨a, vs, e, n, ha, hl⟩ => ⟨a, vs, e, (k _ _ n ha).1, (k _ _ n ha).2, LayL.mono k xs vs hl⟩
  | .lst xs, _, ⟨a, vs, e, n, ha, hl⟩ => ⟨a, vs, e, (k _ _ n ha).1, (k _ _ n ha).2, LayL.mono k xs vs hl⟩
  | .dic ks xs, _, ⟨a, vs, e, n, ha, hn, hl⟩ => ⟨a, vs, e, (k _ _ n ha).1, (k _ _ n ha).2, hn, LayL.mono k xs vs hl⟩
  | .py _, _, h => h
  | .nt _, _, ⟨a, ob, e, n, ha, hd⟩ => ⟨a, ob, e, (k _ _ n ha).1, (k _ _ n ha).2, hd⟩
theorem LayL.mono (k : ∀ b o, ¬ E b → H b = some o → ¬ E' b ∧ H' b = some o) : ∀ (xs : List D) (vs : List V), LayL K H E xs vs → LayL K H' E' xs vs
  | [], _, h => h
  | x :: xs, _, ⟨v, r, e, h1, h2⟩ => ⟨v, r, e, Lay.mono k x v h1, LayL.mono k xs r h2⟩
end
theorem VOk.mono (k : ∀ b o, ¬ E b → H b = some o → ¬ E' b ∧ H' b = some o) {w : W} {v : V} (h : VOk K H E w v) : VOk K H' E' w v := by
  cases w with
  | sh x => exact Lay.mono k x v h
  | pt p => exact h
  | ty n => exact h
theorem VOks.mono (k : ∀ b o, ¬ E b → H b = some o → ¬ E' b ∧ H' b = some o) : ∀ {ws : List W} {vs : List V}, VOks K H E ws vs → VOks K H' E' ws vs
  | [], _, h => h
  | _ :: _, _, ⟨v, r, e, h1, h2⟩ => ⟨v, r, e, h1.mono k, VOks.mono k h2⟩
theorem VOks.len : ∀ {ws : List W} {vs : List V}, VOks K H E ws vs → ws.length = vs.length
  | [], _, h => by rw [show _ = [] from h]; rfl
  | _ :: _, _, ⟨v, r, e, h1, h2⟩ => by rw [e, List.length_cons, List.length_cons, h2.len]
theorem VOks.app : ∀ {ws us : List W} {vs ts : List V}, VOks K H E ws vs → VOks K H E us ts → VOks K H E (ws ++ us) (vs ++ ts)
  | [], _, _, _, h, g => by rw [show _ = [] from h]; exact g
  | _ :: _, _, _, _, ⟨v, r, e, h1, h2⟩, g => ⟨v, r ++ _, by rw [e]; rfl, h1, h2.app g⟩
theorem VOks.one {w : W} {v : V} (h : VOk K H E w v) : VOks K H E [w] [v] := ⟨v, [], rfl, h, rfl⟩
theorem VOks.at : ∀ {ws : List W} {vs : List V} (i : Nat), VOks K H E ws vs → ∀ {v : V}, vs[i]? = some v → ∃ w, ws[i]? = some w ∧ VOk K H E w v
  | [], _, _, h, _, e => by rw [show _ = [] from h] at e; simp at e
  | w :: ws, _, 0, ⟨v, r, e, h1, h2⟩, u, q => by
    rw [e] at q
    cases q
    exact ⟨w, rfl, h1⟩
  | w :: ws, _, i + 1, ⟨v, r, e, h1, h2⟩, u, q => by
    rw [e] at q
    exact h2.at i (v := u) q
theorem VOks.to : ∀ {ws : List W} {vs : List V} (i : Nat), VOks K H E ws vs → ∀ {w : W}, ws[i]? = some w → ∃ v, vs[i]? = some v ∧ VOk K H E w v
  | [], _, _, h, _, e => by simp at e
  | w :: ws, _, 0, ⟨v, r, e, h1, h2⟩, u, q => by
    cases q
    exact ⟨v, by rw [e]; rfl, h1⟩
  | w :: ws, _, i + 1, ⟨v, r, e, h1, h2⟩, u, q => by
    obtain ⟨v', q1, q2⟩ := h2.to i (w := u) q
    exact ⟨v', by rw [e]; exact q1, q2⟩
theorem VOks.sh_of : ∀ {xs : List D} {vs : List V}, LayL K H E xs vs → VOks K H E (xs.map .sh) vs
  | [], _, h => h
  | _ :: _, _, ⟨v, r, e, h1, h2⟩ => ⟨v, r, e, h1, VOks.sh_of h2⟩
theorem VOks.lay : ∀ {xs : List D} {vs : List V}, VOks K H E (xs.map .sh) vs → LayL K H E xs vs
  | [], _, h => h
  | _ :: _, _, ⟨v, r, e, h1, h2⟩ => ⟨v, r, e, h1, VOks.lay h2⟩
theorem LayL.len {xs : List D} {vs : List V} (h : LayL K H E xs vs) : xs.length = vs.length := by
  have := (VOks.sh_of h).len
  rwa [List.length_map] at this
theorem VOks.set : ∀ {ws : List W} {vs : List V} (i : Nat) {w : W} {v : V}, VOks K H E ws vs → VOk K H E w v → VOks K H E (ws.set i w) (vs.set i v)
  | [], _, _, _, _, h, _ => by rw [show _ = [] from h]; exact rfl
  | _ :: _, _, 0, _, _, ⟨v, r, e, h1, h2⟩, g => by rw [e]; exact ⟨_, _, rfl, g, h2⟩
  | _ :: _, _, i + 1, _, _, ⟨v, r, e, h1, h2⟩, g => by rw [e]; exact ⟨_, _, rfl, h1, h2.set i g⟩
theorem VOks.erase : ∀ {ws : List W} {vs : List V} (i : Nat), VOks K H E ws vs → VOks K H E (ws.eraseIdx i) (vs.eraseIdx i)
  | [], _, _, h => by rw [show _ = [] from h]; exact rfl
  | _ :: _, _, 0, ⟨v, r, e, h1, h2⟩ => by rw [e]; exact h2
  | _ :: _, _, i + 1, ⟨v, r, e, h1, h2⟩ => by rw [e]; exact ⟨_, _, rfl, h1, h2.erase i⟩
theorem VOks.take : ∀ {ws : List W} {vs : List V} (i : Nat), VOks K H E ws vs → VOks K H E (ws.take i) (vs.take i)
  | [], _, _, h => by rw [show _ = [] from h]; simp [VOks]
  | _ :: _, _, 0, h => by simp [VOks]
  | _ :: _, _, i + 1, ⟨v, r, e, h1, h2⟩ => by rw [e]; exact ⟨_, _, rfl, h1, h2.take i⟩
theorem VOks.drop : ∀ {ws : List W} {vs : List V} (i : Nat), VOks K H E ws vs → VOks K H E (ws.drop i) (vs.drop i)
  | [], _, _, h => by rw [show _ = [] from h]; simp [VOks]
  | _ :: _, _, 0, h => by simpa using h
  | _ :: _, _, i + 1, ⟨v, r, e, h1, h2⟩ => by rw [e]; exact h2.drop i
theorem VOks.rev : ∀ {ws : List W} {vs : List V}, VOks K H E ws vs → VOks K H E ws.reverse vs.reverse
  | [], _, h => by rw [show _ = [] from h]; exact rfl
  | _ :: _, _, ⟨v, r, e, h1, h2⟩ => by rw [e, List.reverse_cons, List.reverse_cons]; exact h2.rev.app (.one h1)
theorem ObOk.mono {p : Addr} (k : ∀ b o, ¬ E b → H b = some o → ¬ E' b ∧ H' b = some o) (hp : ∀ o, H p = some o → H' p = some o) {od : OD} (h : ObOk K H E p od) : ObOk K H' E' p od := by
  cases od with
  | lst ws =>
    obtain ⟨vs, e, z⟩ := h
    exact ⟨vs, hp _ e, z.mono k⟩
  | dic ks ws =>
    obtain ⟨vs, e, n, z⟩ := h
    exact ⟨vs, hp _ e, n, z.mono k⟩
  | lk o kvs ks ws =>
    obtain ⟨vs, e, n, m, z⟩ := h
    exact ⟨vs, hp _ e, n, m, z.mono k⟩
  | dt ks ws =>
    obtain ⟨vs, e, n, z⟩ := h
    exact ⟨vs, hp _ e, n, z.mono k⟩
/-- no tuple -/
def EOk (H : Hp) (b : Addr) : Prop := ∃ o, H b = some o ∧ ∀ vs, o ≠ .tup vs
theorem EOk.some {b : Addr} (h : EOk H b) : H b ≠ none := by
  obtain ⟨o, e, _⟩ := h
  rw [e]
  simp
theorem ObOk.eok {p : Addr} {od : OD} (h : ObOk K H E p od) : EOk H p := by
  cases od with
  | lst ws =>
    obtain ⟨vs, e, z⟩ := h
    exact ⟨_, e, fun _ z => by cases z⟩
  | dic ks ws =>
    obtain ⟨vs, e, n, z⟩ := h
    exact ⟨_, e, fun _ z => by cases z⟩
  | lk o kvs ks ws =>
    obtain ⟨vs, e, n, z⟩ := h
    exact ⟨_, e, fun _ z => by cases z⟩
  | dt ks ws =>
    obtain ⟨vs, e, n, z⟩ := h
    exact ⟨_, e, fun _ z => by cases z⟩
theorem ObOk.some {p : Addr} {od : OD} (h : ObOk K H E p od) : H p ≠ none := by
  cases od with
  | lst ws =>
    obtain ⟨vs, e, z⟩ := h
    rw [e]
    simp
  | dic ks ws =>
    obtain ⟨vs, e, n, z⟩ := h
    rw [e]
    simp
  | lk o kvs ks ws =>
    obtain ⟨vs, e, n, z⟩ := h
    rw [e]
    simp
  | dt ks ws =>
    obtain ⟨vs, e, n, z⟩ := h
    rw [e]
    simp
end
class Fact' (p : Prop) : Prop where
  out : p
/-- what a run may change beside its own, and what stays true of that -/
structure Am where
  M : Addr → Prop
  I : Hp → Prop
  loc : ∀ H H', (∀ b, M b → H' b = H b) → I H → I H'
  ex : ∀ H b, I H → M b → EOk H b
/-- a run: what may be changed, what is not to be met, the heap at its begin -/
structure Cq (am : Am) where
  E : Addr → Prop
  ME : ∀ b, am.M b → E b
  H0 : Hp
def Ex {am : Am} (c : Cq am) (Ω : Om) : Addr → Prop := fun b => c.E b ∨ b ∈ Ω.map (·.1)
inductive Tp where
  | v (w : W) (v : V)
  | pin (a : Addr) (o : HO)
def TpOk (K : PySem.W.Frag) (H : Hp) (E : Addr → Prop) : Tp → Prop
  | .v w v => VOk K H E w v
  | .pin a o => (∀ u, o ≠ .dK u) ∧ ¬ E a ∧ H a = some o
structure DEnv (K : PySem.W.Frag) {am : Am} (c : Cq am) (T : List Tp) (σ : L2.St) (Γ : Gm) (Ω : Om) (H : Hp) : Prop where
  len : Γ.length = σ.length
  sl : ∀ (i : Nat) (w : W), Γ[i]? = some (some w) → ∃ v, σ[i]? = some (some v) ∧ VOk K H (Ex c Ω) w v
  tm : ∀ t ∈ T, TpOk K H (Ex c Ω) t
  ob : ∀ q ∈ Ω, ObOk K H (Ex c Ω) q.1 q.2
  nd : (Ω.map (·.1)).Nodup
  fr : ∀ p ∈ Ω.map (·.1), c.H0 p = none ∧ ¬ c.E p
  el : ∀ b, c.E b → EOk H b
  frm : ∀ b o, ¬ am.M b → c.H0 b = some o → H b = some o
  inv : am.I H
section
variable {K : PySem.W.Frag} {am : Am} {c : Cq am} {T : List Tp} {σ : L2.St} {Γ : Gm} {Ω : Om} {H H' : Hp}
theorem TpOk.mono {E E' : Addr → Prop} (k : ∀ b o, ¬ E b → H b = some o → ¬ E' b ∧ H' b = some o) {t : Tp} (h : TpOk K H E t) : TpOk K H' E' t := by
  cases t with
  | v w v => exact VOk.mono k h
  | pin a o =>
    obtain ⟨h1, h2, h3⟩ := h
    exact ⟨h1, (k _ _ h2 h3).1, (k _ _ h2 h3).2⟩
/-- all but what may be changed is kept -/
theorem DEnv.step (e : DEnv K c T σ Γ Ω H) (k : ∀ b o, ¬ am.M b → H b = some o → H' b = some o) (i : am.I H') : DEnv K c T σ Γ Ω H' := by
  have nM : ∀ b, ¬ Ex c Ω b → ¬ am.M b := fun b n m => n (.inl (c.ME b m))
  have kx : ∀ b o, ¬ Ex c Ω b → H b = some o → ¬ Ex c Ω b ∧ H' b = some o := fun b o n h => ⟨n, k b o (nM b n) h⟩
  refine ⟨e.len, fun j w h => ?_, fun t ht => (e.tm t ht).mono kx, fun q hq => (e.ob q hq).mono kx fun o h => k _ _ (fun m => ?_) h, e.nd, e.fr, fun b hb => ?_, fun b o n h => k b o n (e.frm b o n h), i⟩
  · obtain ⟨v, h1, h2⟩ := e.sl j w h
    exact ⟨v, h1, h2.mono kx⟩
  · exact (e.fr q.1 (List.mem_map.mpr ⟨q, hq, rfl⟩)).2 (c.ME _ m)
  · by_cases m : am.M b
    · exact am.ex H' b i m
    · obtain ⟨o, h, n⟩ := e.el b hb
      exact ⟨o, k b o m h, n⟩
theorem DEnv.noEx (e : DEnv K c T σ Γ Ω H) {p : Addr} (hp : H p = none) : ¬ Ex c Ω p := fun h => by
  rcases h with h | h
  · exact (e.el p h).some hp
  · obtain ⟨q, hq, rfl⟩ := List.mem_map.mp h
    exact (e.ob q hq).some hp
/-- a new object -/
theorem DEnv.alloc (e : DEnv K c T σ Γ Ω H) {p : Addr} {o : HO} (hp : H p = none) : DEnv K c T σ Γ Ω (upd H p o) := by
  refine e.step (fun b u _ h => by rw [upd_ne (ne_of_none h hp)]; exact h) (am.loc H _ (fun b m => upd_ne fun z => ?_) e.inv)
  exact (am.ex H b e.inv m).some (by rw [z]; exact hp)
theorem DEnv.drop {t : Tp} (e : DEnv K c (t :: T) σ Γ Ω H) : DEnv K c T σ Γ Ω H := ⟨e.len, e.sl, fun u hu => e.tm u (List.mem_cons_of_mem _ hu), e.ob, e.nd, e.fr, e.el, e.frm, e.inv⟩
theorem DEnv.drops : ∀ {S : List Tp}, DEnv K c (S ++ T) σ Γ Ω H → DEnv K c T σ Γ Ω H
  | [], e => e
  | _ :: S, e => DEnv.drops (S := S) e.drop
theorem DEnv.add {t : Tp} (e : DEnv K c T σ Γ Ω H) (h : TpOk K H (Ex c Ω) t) : DEnv K c (t :: T) σ Γ Ω H := ⟨e.len, e.sl, fun u hu => by
  rcases List.mem_cons.mp hu with rfl | hu
  · exact h
  · exact e.tm u hu, e.ob, e.nd, e.fr, e.el, e.frm, e.inv⟩
theorem DEnv.addv {w : W} {v : V} (e : DEnv K c T σ Γ Ω H) (h : VOk K H (Ex c Ω) w v) : DEnv K c (.v w v :: T) σ Γ Ω H := e.add h
theorem DEnv.hd {w : W} {v : V} (e : DEnv K c (.v w v :: T) σ Γ Ω H) : VOk K H (Ex c Ω) w v := e.tm (.v w v) List.mem_cons_self
/-- a new tuple -/
theorem DEnv.tup (e : DEnv K c T σ Γ Ω H) {p : Addr} {xs : List D} {vs : List V} (hp : H p = none) (h : LayL K H (Ex c Ω) xs vs) : DEnv K c (.v (.sh (.tup xs)) (.ref p) :: T) σ Γ Ω (upd H p (.tup vs)) :=
  e.alloc hp |>.addv ⟨p, vs, rfl, e.noEx hp, upd_same, LayL.mono (fun b o n h => ⟨n, by rw [upd_ne (ne_of_none h hp)]; exact h⟩) xs vs h⟩
theorem DEnv.lst (e : DEnv K c T σ Γ Ω H) {p : Addr} {xs : List D} {vs : List V} (hp : H p = none) (h : LayL K H (Ex c Ω) xs vs) : DEnv K c (.v (.sh (.lst xs)) (.ref p) :: T) σ Γ Ω (upd H p (.lst vs)) :=
  e.alloc hp |>.addv ⟨p, vs, rfl, e.noEx hp, upd_same, LayL.mono (fun b o n h => ⟨n, by rw [upd_ne (ne_of_none h hp)]; exact h⟩) xs vs h⟩
/-- an own object -/
theorem DEnv.own (e : DEnv K c T σ Γ Ω H) {p : Addr} {o : HO} {od : OD} (hp : H p = none) (h0 : c.H0 p = none) (h : (∃ ws vs, od = .lst ws ∧ o = .lst vs ∧ VOks K H (Ex c Ω) ws vs) ∨ (∃ ks ws vs, od = .dic ks ws ∧ o = .dK (ks.zip vs) ∧ ks.length = ws.length ∧ VOks K H (Ex c Ω) ws vs)) :
    DEnv K c (.v (.pt p) (.ref p) :: T) σ Γ ((p, od) :: Ω) (upd H p o) := by
  have nE : ¬ Ex c Ω p := e.noEx hp
  have kx : ∀ b o, ¬ Ex c Ω b → H b = some o → ¬ Ex c ((p, od) :: Ω) b := fun b o n h z => by
    rcases z with z | z
    · exact n (.inl z)
    · rcases List.mem_cons.mp z with z | z
      · rw [show b = p from z, hp] at h
        cases h
      · exact n (.inr z)
  have kx' : ∀ b o', ¬ Ex c Ω b → H b = some o' → ¬ Ex c ((p, od) :: Ω) b ∧ upd H p o b = some o' := fun b o' n h => ⟨kx b o' n h, by rw [upd_ne (ne_of_none h hp)]; exact h⟩
  have e1 := e.alloc (o := o) hp
  refine ⟨e.len, fun j w h => ?_, fun t ht => ?_, fun q hq => ?_, List.nodup_cons.mpr ⟨fun z => nE (.inr z), e.nd⟩, fun q hq => ?_, e1.el, e1.frm, e1.inv⟩
  · obtain ⟨v, h1, h2⟩ := e.sl j w h
    exact ⟨v, h1, h2.mono kx'⟩
  · rcases List.mem_cons.mp ht with rfl | ht
    · exact rfl
    · exact (e.tm t ht).mono kx'
  · rcases List.mem_cons.mp hq with rfl | hq
    · rcases h with ⟨ws, vs, rfl, rfl, h⟩ | ⟨ks, ws, vs, rfl, rfl, hn, h⟩
      · exact ⟨vs, upd_same, h.mono kx'⟩
      · exact ⟨vs, upd_same, hn, h.mono kx'⟩
    · refine (e.ob q hq).mono kx' fun o' h => ?_
      rw [upd_ne (ne_of_none h hp)]
      exact h
  · rcases List.mem_cons.mp hq with rfl | hq
    · exact ⟨h0, fun z => nE (.inl z)⟩
    · exact e.fr q hq
theorem DEnv.eok (e : DEnv K c T σ Γ Ω H) {b : Addr} (h : Ex c Ω b) : EOk H b := by
  rcases h with h | h
  · exact e.el b h
  · obtain ⟨q, hq, rfl⟩ := List.mem_map.mp h
    exact (e.ob q hq).eok
/-- a tuple is no own thing -/
theorem DEnv.noTup (e : DEnv K c T σ Γ Ω H) {p : Addr} {vs : List V} (hp : H p = some (.tup vs)) : ¬ Ex c Ω p := fun h => by
  obtain ⟨o, h1, h2⟩ := e.eok h
  rw [hp] at h1
  cases h1
  exact h2 _ rfl
/-- nothing new was there at the begin -/
theorem DEnv.new (e : DEnv K c T σ Γ Ω H) {p : Addr} (hp : H p = none) : c.H0 p = none := by
  cases h : c.H0 p with
  | none => rfl
  | some o =>
    by_cases m : am.M p
    · exact absurd hp (am.ex H p e.inv m).some
    · rw [e.frm p o m h] at hp
      cases hp
/-! the own heap as data -/
def look (Ω : Om) (p : Addr) : Option OD := (Ω.find? fun q => decide (q.1 = p)).map (·.2)
def put (Ω : Om) (p : Addr) (od : OD) : Om := Ω.map fun q => if q.1 = p then (q.1, od) else q
theorem look_mem {p : Addr} {od : OD} (h : look Ω p = some od) : (p, od) ∈ Ω := by
  unfold look at h
  cases e : Ω.find? fun q => decide (q.1 = p) with
  | none => rw [e] at h; cases h
  | some q =>
    rw [e] at h
    cases h
    have h1 := List.mem_of_find?_eq_some e
    have h2 := List.find?_some e
    have h3 : q.1 = p := of_decide_eq_true h2
    rw [← h3]
    exact h1
theorem put_keys {p : Addr} {od : OD} : (OA.put Ω p od).map (·.1) = Ω.map (·.1) := by
  unfold put
  rw [List.map_map]
  refine List.map_congr_left fun q _ => ?_
  show (if q.1 = p then (q.1, od) else q).1 = q.1
  split <;> rfl
theorem Ex_put {p : Addr} {od : OD} : Ex c (OA.put Ω p od) = Ex c Ω := by
  funext b
  unfold Ex
  rw [put_keys]
/-- what stands at an own address is changed -/
theorem DEnv.put (e : DEnv K c T σ Γ Ω H) {p : Addr} {o : HO} {od od' : OD} (hl : look Ω p = some od) (h : ObOk K (upd H p o) (Ex c Ω) p od') : DEnv K c T σ Γ (OA.put Ω p od') (upd H p o) := by
  have hin : p ∈ Ω.map (·.1) := List.mem_map.mpr ⟨_, look_mem hl, rfl⟩
  have kx : ∀ b o', ¬ Ex c Ω b → H b = some o' → ¬ Ex c Ω b ∧ upd H p o b = some o' := fun b o' n h => ⟨n, by rw [upd_ne fun z => n (.inr (by rw [z]; exact hin))]; exact h⟩
  obtain ⟨f0, fE⟩ := e.fr p hin
  refine ⟨e.len, fun j w h => ?_, fun t ht => ?_, fun q hq => ?_, by rw [put_keys]; exact e.nd, by rw [put_keys]; exact e.fr, fun b hb => ?_, fun b o' n h => ?_, am.loc H _ (fun b m => upd_ne fun z => fE (by rw [← z]; exact c.ME b m)) e.inv⟩
  · rw [Ex_put]
    obtain ⟨v, h1, h2⟩ := e.sl j w h
    exact ⟨v, h1, h2.mono kx⟩
  · rw [Ex_put]
    exact (e.tm t ht).mono kx
  · rw [Ex_put]
    obtain ⟨r, hr, rfl⟩ := List.mem_map.mp hq
    by_cases z : r.1 = p
    · simp only [z, if_true]
      exact h
    · simp only [z, if_false]
      refine (e.ob r hr).mono kx fun o' h => ?_
      rw [upd_ne z]
      exact h
  · by_cases z : b = p
    · exact absurd (by rw [← z]; exact hb) fE
    · obtain ⟨o', h, n⟩ := e.el b hb
      exact ⟨o', by rw [upd_ne z]; exact h, n⟩
  · rw [upd_ne fun z => ?_]
    · exact e.frm b o' n h
    · rw [z, f0] at h
      cases h
theorem DEnv.putL (e : DEnv K c T σ Γ Ω H) {p : Addr} {ws ws' : List W} {vs' : List V} (hl : look Ω p = some (.lst ws)) (h : VOks K H (Ex c Ω) ws' vs') : DEnv K c T σ Γ (OA.put Ω p (.lst ws')) (upd H p (.lst vs')) :=
  e.put hl ⟨vs', upd_same, h.mono fun b o n h => ⟨n, by rw [upd_ne fun z => n (.inr (by rw [z]; exact List.mem_map.mpr ⟨_, look_mem hl, rfl⟩))]; exact h⟩⟩
theorem DEnv.putD (e : DEnv K c T σ Γ Ω H) {p : Addr} {od : OD} {ks : List Key} {ws' : List W} {vs' : List V} {kvs : List (Key × V)} (hl : look Ω p = some od) (hk : kvs = ks.zip vs') (hn : ks.length = ws'.length) (h : VOks K H (Ex c Ω) ws' vs') : DEnv K c T σ Γ (OA.put Ω p (.dic ks ws')) (upd H p (.dK kvs)) :=
  e.put hl ⟨vs', by rw [hk]; exact upd_same, hn, h.mono fun b o n h => ⟨n, by rw [upd_ne fun z => n (.inr (by rw [z]; exact List.mem_map.mpr ⟨_, look_mem hl, rfl⟩))]; exact h⟩⟩
/-- a slot is stored to -/
theorem DEnv.set {i : Nat} {w : W} {v : V} (e : DEnv K c T σ Γ Ω H) (h : VOk K H (Ex c Ω) w v) : DEnv K c T (σ.set i (some v)) (Γ.set i (some w)) Ω H := by
  refine ⟨by rw [List.length_set, List.length_set]; exact e.len, fun j u h' => ?_, e.tm, e.ob, e.nd, e.fr, e.el, e.frm, e.inv⟩
  rw [List.getElem?_set] at h'
  by_cases z : i = j
  · subst z
    rw [if_pos rfl] at h'
    split at h'
    · rename_i hl
      cases h'
      exact ⟨v, by rw [List.getElem?_set, if_pos rfl, if_pos (by rw [← e.len]; exact hl)], h⟩
    · cases h'
  · rw [if_neg z] at h'
    obtain ⟨v', h1, h2⟩ := e.sl j u h'
    exact ⟨v', by rw [List.getElem?_set, if_neg z]; exact h1, h2⟩
end
/-- what a callee may change within what the caller may -/
class AmLe (a b : Am) : Prop where
  I : ∀ H, b.I H → a.I H
  M : ∀ x, a.M x → b.M x
  back : ∀ H H', b.I H → (∀ x o, ¬ a.M x → H x = some o → H' x = some o) → a.I H' → b.I H'
def am0 : Am := ⟨fun _ => False, fun _ => True, fun _ _ _ _ => True.intro, fun _ _ _ h => h.elim⟩
theorem Am.keep (b : Am) {H H' : Hp} (i : b.I H) (k : ∀ x o, b.M x → H x = some o → H' x = some o) : b.I H' := b.loc H H' (fun x m => by
  cases h : H x with
  | none => exact absurd h (b.ex H x i m).some
  | some o => rw [k x o m h]) i
instance amLe_refl (a : Am) : AmLe a a := ⟨fun _ h => h, fun _ h => h, fun _ _ _ _ h => h⟩
instance amLe_0 (a : Am) : AmLe am0 a := ⟨fun _ _ => True.intro, fun _ h => h.elim, fun _ _ i k _ => a.keep i fun x o _ h => k x o (fun z => z) h⟩
def amAnd (a b : Am) : Am := ⟨fun x => a.M x ∨ b.M x, fun H => a.I H ∧ b.I H ∧ ∀ x, a.M x → b.M x → False, fun H H' k i => ⟨a.loc H H' (fun x m => k x (.inl m)) i.1, b.loc H H' (fun x m => k x (.inr m)) i.2.1, i.2.2⟩, fun H x i m => m.elim (a.ex H x i.1) (b.ex H x i.2.1)⟩
instance amLe_l (a b : Am) : AmLe a (amAnd a b) := ⟨fun _ h => h.1, fun _ h => .inl h, fun _ _ i k h => ⟨h, b.keep i.2.1 fun x o m e => k x o (fun z => i.2.2 x z m) e, i.2.2⟩⟩
instance amLe_r (a b : Am) : AmLe b (amAnd a b) := ⟨fun _ h => h.2.1, fun _ h => .inr h, fun _ _ i k h => ⟨a.keep i.1 fun x o m e => k x o (fun z => i.2.2 x m z) e, h, i.2.2⟩⟩
end OA

namespace OA
open PySem PySem.Spec PyProof.Rows L2
abbrev DQ := W → Om → Prop
abbrev DT := Gm → Om → DQ → Prop
abbrev DB := Gm → Om → (Bool → Om → Prop) → Prop
abbrev DA := Gm → Om → (List W → Om → Prop) → Prop
abbrev DR2 := W → W → Om → DQ → Prop
abbrev DR1 := W → Om → DQ → Prop
abbrev DRC := List W → Om → DQ → Prop
abbrev DRM := W → List W → Om → DQ → Prop
class SE (K : PySem.W.Frag) (am : Am) (te : TE) (t : outParam DT) : Prop where
  run : ∀ {c : Cq am} {T : List Tp} {σ : L2.St} {Γ : Gm} {Ω : Om} {H : Hp} {Q : DQ} {R : VK}, DEnv K c T σ Γ Ω H → t Γ Ω Q → (∀ v w Ω' H', Q w Ω' → DEnv K c (.v w v :: T) σ Γ Ω' H' → R v H') → te σ H R
class ST (K : PySem.W.Frag) (am : Am) (tt : TT) (t : outParam DB) : Prop where
  run : ∀ {c : Cq am} {T : List Tp} {σ : L2.St} {Γ : Gm} {Ω : Om} {H : Hp} {Q : Bool → Om → Prop} {R : Bool → Hp → Prop}, DEnv K c T σ Γ Ω H → t Γ Ω Q → (∀ b Ω' H', Q b Ω' → DEnv K c T σ Γ Ω' H' → R b H') → tt σ H R
class SA (K : PySem.W.Frag) (am : Am) (ta : TA) (t : outParam DA) : Prop where
  run : ∀ {c : Cq am} {T : List Tp} {σ : L2.St} {Γ : Gm} {Ω : Om} {H : Hp} {Q : List W → Om → Prop} {R : List V → Hp → Prop}, DEnv K c T σ Γ Ω H → t Γ Ω Q → (∀ vs ws Ω' H', Q ws Ω' → DEnv K c T σ Γ Ω' H' → VOks K H' (Ex c Ω') ws vs → R vs H') → ta σ H R
class SR2 (K : PySem.W.Frag) (am : Am) (r : R2) (d : outParam DR2) : Prop where
  run : ∀ {c : Cq am} {T : List Tp} {σ : L2.St} {Γ : Gm} {Ω : Om} {H : Hp} {x y : V} {wx wy : W} {Q : DQ} {R : VK}, DEnv K c T σ Γ Ω H → VOk K H (Ex c Ω) wx x → VOk K H (Ex c Ω) wy y → d wx wy Ω Q → (∀ v w Ω' H', Q w Ω' → DEnv K c (.v w v :: T) σ Γ Ω' H' → R v H') → r x y H R
class SR1 (K : PySem.W.Frag) (am : Am) (r : V → Hp → VK → Prop) (d : outParam DR1) : Prop where
  run : ∀ {c : Cq am} {T : List Tp} {σ : L2.St} {Γ : Gm} {Ω : Om} {H : Hp} {x : V} {wx : W} {Q : DQ} {R : VK}, DEnv K c T σ Γ Ω H → VOk K H (Ex c Ω) wx x → d wx Ω Q → (∀ v w Ω' H', Q w Ω' → DEnv K c (.v w v :: T) σ Γ Ω' H' → R v H') → r x H R
class SRC (K : PySem.W.Frag) (am : Am) (r : List V → Hp → VK → Prop) (d : outParam DRC) : Prop where
  run : ∀ {c : Cq am} {T : List Tp} {σ : L2.St} {Γ : Gm} {Ω : Om} {H : Hp} {xs : List V} {ws : List W} {Q : DQ} {R : VK}, DEnv K c T σ Γ Ω H → VOks K H (Ex c Ω) ws xs → d ws Ω Q → (∀ v w Ω' H', Q w Ω' → DEnv K c (.v w v :: T) σ Γ Ω' H' → R v H') → r xs H R
class SRM (K : PySem.W.Frag) (am : Am) (r : V → List V → Hp → VK → Prop) (d : outParam DRM) : Prop where
  run : ∀ {c : Cq am} {T : List Tp} {σ : L2.St} {Γ : Gm} {Ω : Om} {H : Hp} {x : V} {w : W} {xs : List V} {ws : List W} {Q : DQ} {R : VK}, DEnv K c T σ Γ Ω H → VOk K H (Ex c Ω) w x → VOks K H (Ex c Ω) ws xs → d w ws Ω Q → (∀ v w Ω' H', Q w Ω' → DEnv K c (.v w v :: T) σ Γ Ω' H' → R v H') → r x xs H R
/-! views of values -/
def varR (o : Option (Option W)) (k : W → Prop) : Prop := match o with | some (some w) => k w | _ => False
def intW (w : W) (k : Int → Prop) : Prop := match w with | .sh (.int i) => k i | _ => False
def blW (w : W) (k : Bool → Prop) : Prop := match w with | .sh (.bl b) => k b | _ => False
def strW (w : W) (k : Str → Prop) : Prop := match w with | .sh (.str s) => k s | _ => False
def shW (w : W) (k : D → Prop) : Prop := match w with | .sh x => k x | _ => False
def tyW (w : W) (k : String → Prop) : Prop := match w with | .ty n => k n | _ => False
def tupW (w : W) (k : List D → Prop) : Prop := match w with | .sh (.tup xs) => k xs | .sh (.nt ns) => k (ns.map .int) | _ => False
def tup0W (w : W) (k : List D → Prop) : Prop := match w with | .sh (.tup xs) => k xs | _ => False
def seqW (Ω : Om) (w : W) (k : List W → Prop) : Prop := match w with
  | .sh (.lst xs) => k (xs.map .sh)
  | .pt p => match look Ω p with
    | some (.lst ws) => k ws
    | _ => False
  | _ => False
def dicW (Ω : Om) (w : W) (k : List Key → List W → Prop) : Prop := match w with
  | .sh (.dic ks xs) => k ks (xs.map .sh)
  | .pt p => match look Ω p with
    | some (.dic ks ws) => k ks ws
    | some (.lk _ _ ks ws) => k ks ws
    | _ => False
  | _ => False
def ownL (Ω : Om) (w : W) (k : Addr → List W → Prop) : Prop := match w with
  | .pt p => match look Ω p with
    | some (.lst ws) => k p ws
    | _ => False
  | _ => False
def ownD (Ω : Om) (w : W) (k : Addr → List Key → List W → Prop) : Prop := match w with
  | .pt p => match look Ω p with
    | some (.dic ks ws) => k p ks ws
    | _ => False
  | _ => False
def keyW (w : W) (k : Key → Prop) : Prop := match w with | .sh (.int i) => k (.inl i) | .sh (.str s) => k (.inr s) | _ => False
def shsW : List W → (List D → Prop) → Prop
  | [], k => k []
  | .sh x :: r, k => shsW r fun ds => k (x :: ds)
  | _ :: _, _ => False
def one1W (l : List W) (k : W → Prop) : Prop := match l with | [x] => k x | _ => False
def two2W (l : List W) (k : W → W → Prop) : Prop := match l with | [x, y] => k x y | _ => False
theorem shsW_map (ds : List D) (k : List D → Prop) : shsW (ds.map .sh) k = k ds := by
  induction ds generalizing k with
  | nil => rfl
  | cons d ds ih => exact ih _
section
variable {K : PySem.W.Frag} {am : Am} {c : Cq am} {T : List Tp} {σ : L2.St} {Γ : Gm} {Ω : Om} {H : Hp} {w : W} {v : V}
theorem varR_el {o : Option (Option W)} {k : W → Prop} (h : varR o k) : ∃ w, o = some (some w) ∧ k w := by
  unfold varR at h
  split at h
  · exact ⟨_, rfl, h⟩
  · exact h.elim
theorem intW_el {k : Int → Prop} (h : intW w k) : ∃ i, w = .sh (.int i) ∧ k i := by
  unfold intW at h
  split at h
  · exact ⟨_, rfl, h⟩
  · exact h.elim
theorem blW_el {k : Bool → Prop} (h : blW w k) : ∃ i, w = .sh (.bl i) ∧ k i := by
  unfold blW at h
  split at h
  · exact ⟨_, rfl, h⟩
  · exact h.elim
theorem strW_el {k : Str → Prop} (h : strW w k) : ∃ i, w = .sh (.str i) ∧ k i := by
  unfold strW at h
  split at h
  · exact ⟨_, rfl, h⟩
  · exact h.elim
theorem shW_el {k : D → Prop} (h : shW w k) : ∃ i, w = .sh i ∧ k i := by
  unfold shW at h
  split at h
  · exact ⟨_, rfl, h⟩
  · exact h.elim
theorem tyW_el {k : String → Prop} (h : tyW w k) : ∃ i, w = .ty i ∧ k i := by
  unfold tyW at h
  split at h
  · exact ⟨_, rfl, h⟩
  · exact h.elim
theorem tup0W_el {k : List D → Prop} (h : tup0W w k) : ∃ i, w = .sh (.tup i) ∧ k i := by
  unfold tup0W at h
  split at h
  · exact ⟨_, rfl, h⟩
  · exact h.elim
theorem keyW_el {k : Key → Prop} (h : keyW w k) (hv : VOk K H (Ex c Ω) w v) : ∃ i, v = kV i ∧ k i := by
  unfold keyW at h
  split at h
  · exact ⟨.inl _, hv, h⟩
  · exact ⟨.inr _, hv, h⟩
  · exact h.elim
theorem one1W_el {l : List W} {vs : List V} {k : W → Prop} (h : one1W l k) (hv : VOks K H (Ex c Ω) l vs) : ∃ w v, vs = [v] ∧ VOk K H (Ex c Ω) w v ∧ k w := by
  unfold one1W at h
  split at h
  · obtain ⟨v, r, rfl, h1, rfl⟩ := hv
    exact ⟨_, v, rfl, h1, h⟩
  · exact h.elim
theorem two2W_el {l : List W} {vs : List V} {k : W → W → Prop} (h : two2W l k) (hv : VOks K H (Ex c Ω) l vs) : ∃ w v w2 v2, vs = [v, v2] ∧ VOk K H (Ex c Ω) w v ∧ VOk K H (Ex c Ω) w2 v2 ∧ k w w2 := by
  unfold two2W at h
  split at h
  · obtain ⟨v, r, rfl, h1, v2, r2, rfl, h2, rfl⟩ := hv
    exact ⟨_, v, _, v2, rfl, h1, h2, h⟩
  · exact h.elim
theorem shsW_el : ∀ {ws : List W} {k : List D → Prop}, shsW ws k → ∃ ds, ws = ds.map .sh ∧ k ds
  | [], k, h => ⟨[], rfl, h⟩
  | .sh x :: r, k, h => by
    obtain ⟨ds, e, z⟩ := shsW_el (ws := r) h
    exact ⟨x :: ds, by rw [e]; rfl, z⟩
  | .pt _ :: _, _, h => (show False from h).elim
  | .ty _ :: _, _, h => (show False from h).elim
theorem seqW_el {k : List W → Prop} (e : DEnv K c T σ Γ Ω H) (hv : VOk K H (Ex c Ω) w v) (h : seqW Ω w k) : ∃ a vs ws, v = .ref a ∧ H a = some (.lst vs) ∧ VOks K H (Ex c Ω) ws vs ∧ k ws := by
  unfold seqW at h
  split at h
  · obtain ⟨a, vs, rfl, n, ha, hl⟩ := hv
    exact ⟨a, vs, _, rfl, ha, VOks.sh_of hl, h⟩
  · split at h
    · rename_i ws hl
      obtain ⟨vs, h1, h2⟩ := e.ob _ (look_mem hl)
      exact ⟨_, vs, _, hv, h1, h2, h⟩
    · exact h.elim
  · exact h.elim
theorem nt_lay {H : Hp} {E : Addr → Prop} : ∀ ns : List Int, LayL K H E (ns.map .int) (ns.map V.int)
  | [] => rfl
  | n :: ns => ⟨_, _, rfl, rfl, nt_lay ns⟩
theorem tupW_at {k : List D → Prop} (hv : VOk K H (Ex c Ω) w v) (h : tupW w k) : ∃ a vs xs, v = .ref a ∧ Rd H a (.tup vs) ∧ LayL K H (Ex c Ω) xs vs ∧ k xs := by
  unfold tupW at h
  split at h
  · obtain ⟨a, vs, rfl, n, ha, hl⟩ := hv
    exact ⟨a, vs, _, rfl, .inl ha, hl, h⟩
  · obtain ⟨a, ob, rfl, n, ha, _⟩ := hv
    exact ⟨a, _, _, rfl, .inr ⟨ob, ha⟩, nt_lay _, h⟩
  · exact h.elim
theorem dicW_el {k : List Key → List W → Prop} (e : DEnv K c T σ Γ Ω H) (hv : VOk K H (Ex c Ω) w v) (h : dicW Ω w k) : ∃ a ks vs ws, v = .ref a ∧ Rd H a (.dK (ks.zip vs)) ∧ ks.length = ws.length ∧ VOks K H (Ex c Ω) ws vs ∧ k ks ws := by
  unfold dicW at h
  split at h
  · obtain ⟨a, vs, rfl, n, ha, hn, hl⟩ := hv
    exact ⟨a, _, vs, _, rfl, .inl ha, by rw [List.length_map]; exact hn, VOks.sh_of hl, h⟩
  · split at h
    · rename_i ks ws hl
      obtain ⟨vs, h1, hn, h2⟩ := e.ob _ (look_mem hl)
      exact ⟨_, ks, vs, _, hv, .inl h1, hn, h2, h⟩
    · rename_i ks ws hl
      obtain ⟨vs, h1, rfl, hn, h2⟩ := e.ob _ (look_mem hl)
      exact ⟨_, ks, vs, _, hv, .inr ⟨_, h1⟩, hn, h2, h⟩
    · exact h.elim
  · exact h.elim
theorem ownL_el {k : Addr → List W → Prop} (e : DEnv K c T σ Γ Ω H) (hv : VOk K H (Ex c Ω) w v) (h : ownL Ω w k) : ∃ a vs ws, v = .ref a ∧ look Ω a = some (.lst ws) ∧ H a = some (.lst vs) ∧ VOks K H (Ex c Ω) ws vs ∧ k a ws := by
  unfold ownL at h
  split at h
  · split at h
    · rename_i ws hl
      obtain ⟨vs, h1, h2⟩ := e.ob _ (look_mem hl)
      exact ⟨_, vs, _, hv, hl, h1, h2, h⟩
    · exact h.elim
  · exact h.elim
theorem ownD_el {k : Addr → List Key → List W → Prop} (e : DEnv K c T σ Γ Ω H) (hv : VOk K H (Ex c Ω) w v) (h : ownD Ω w k) : ∃ a ks vs ws, v = .ref a ∧ look Ω a = some (.dic ks ws) ∧ H a = some (.dK (ks.zip vs)) ∧ ks.length = ws.length ∧ VOks K H (Ex c Ω) ws vs ∧ k a ks ws := by
  unfold ownD at h
  split at h
  · split at h
    · rename_i ks ws hl
      obtain ⟨vs, h1, hn, h2⟩ := e.ob _ (look_mem hl)
      exact ⟨_, ks, vs, _, hv, hl, h1, hn, h2, h⟩
    · exact h.elim
  · exact h.elim
theorem VOks.atI {E : Addr → Prop} {ws : List W} {vs : List V} (h : VOks K H E ws vs) {i : Int} {w : W} (e : L2.atI ws i = some w) : ∃ v, L2.atI vs i = some v ∧ VOk K H E w v := by
  unfold L2.atI at e ⊢
  rw [← h.len]
  cases q : ixN ws.length i with
  | none => rw [q] at e; cases e
  | some j =>
    rw [q] at e
    exact h.to j e
/-- pairs of a dict by their place -/
theorem valV_zip : ∀ {ks : List Key} {vs : List V} {ws : List W} {E : Addr → Prop} {k : Key} {w : W}, VOks K H E ws vs → ((ks.zip ws).find? fun q => decide (q.1 = k)).map (·.2) = some w → ∃ v, valV (ks.zip vs) k = some v ∧ VOk K H E w v
  | [], _, _, _, _, _, _, e => by simp at e
  | _ :: _, _, [], _, _, _, _, e => by simp at e
  | k0 :: ks, _, w0 :: ws, E, k, w, ⟨v, r, rfl, h1, h2⟩, e => by
    unfold valV
    rw [List.zip_cons_cons, List.find?_cons] at e ⊢
    by_cases z : k0 = k
    · simp only [z, decide_true] at e ⊢
      cases e
      exact ⟨v, rfl, h1⟩
    · simp only [z, decide_false] at e ⊢
      exact valV_zip h2 e
theorem valV_zipN : ∀ {ks : List Key} {vs : List V} {ws : List W} {k : Key}, ks.length = ws.length → VOks K H (Ex c Ω) ws vs → (valV (ks.zip vs) k).isSome = ks.any fun q => decide (q = k)
  | [], _, _, _, _, _ => rfl
  | k0 :: ks, _, [], k, hn, _ => by simp at hn
  | k0 :: ks, _, w0 :: ws, k, hn, ⟨v, r, rfl, h1, h2⟩ => by
    have ih := valV_zipN (k := k) (by simpa using hn) h2
    unfold valV at ih ⊢
    rw [List.zip_cons_cons, List.find?_cons]
    by_cases z : k0 = k
    · simp [z]
    · simp only [z, decide_false, ih]
      simp [z]
end
def dval (ks : List Key) (ws : List W) (k : Key) : Option W := ((ks.zip ws).find? fun q => decide (q.1 = k)).map (·.2)
/-! expressions -/
section
variable {K : PySem.W.Frag} {am : Am} {ta tb tc : TE} {da db dc : DT} {tq : TT} {dq : DB} {tas : TA} {das : DA}
def dVar (i : Nat) (Γ : Gm) (Ω : Om) (Q : DQ) : Prop := varR (Γ[i]?) fun w => Q w Ω
instance s_var (i : Nat) : SE K am (vVar i) (dVar i) := ⟨fun {c T σ Γ Ω H Q R} e h k => by
  obtain ⟨w, h1, h2⟩ := varR_el h
  obtain ⟨v, h3, h4⟩ := e.sl i w h1
  show optR _ _
  rw [h3]
  exact k v w Ω H h2 (e.addv h4)⟩
def cW : V → Option W
  | .non => some (.sh .non)
  | .bl b => some (.sh (.bl b))
  | .int i => some (.sh (.int i))
  | .str s => some (.sh (.str s))
  | .ty n => some (.ty n)
  | .ref p => some (.pt p)
  | _ => none
def dC (v : V) (_Γ0 : Gm) (Ω : Om) (Q : DQ) : Prop := match cW v with | some w => Q w Ω | none => False
instance s_c (v : V) : SE K am (tC v) (dC v) := ⟨fun {c T σ Γ Ω H Q R} e h k => by
  unfold dC at h
  split at h
  · rename_i w hw
    refine k v w Ω H h (e.addv ?_)
    cases v <;> first | (cases hw; exact rfl) | cases hw
  · exact h.elim⟩
def dOp (r : DR2) (da db : DT) (Γ : Gm) (Ω : Om) (Q : DQ) : Prop := da Γ Ω fun x Ω1 => db Γ Ω1 fun y Ω2 => r x y Ω2 Q
instance s_op {r : R2} {d : DR2} [s1 : SE K am ta da] [s2 : SE K am tb db] [s3 : SR2 K am r d] : SE K am (tOp r ta tb) (dOp d da db) := ⟨fun {c T σ Γ Ω H Q R} e h k =>
  s1.run e h fun x wx Ω1 H1 h1 e1 => s2.run e1 h1 fun y wy Ω2 H2 h2 e2 => s3.run e2.drop.drop e2.drop.hd e2.hd h2 fun v w Ω' H' q e' => k v w Ω' H' q e'⟩
def dUn (r : DR1) (da : DT) (Γ : Gm) (Ω : Om) (Q : DQ) : Prop := da Γ Ω fun x Ω1 => r x Ω1 Q
instance s_un {r : V → Hp → VK → Prop} {d : DR1} [s1 : SE K am ta da] [s3 : SR1 K am r d] : SE K am (tUn r ta) (dUn d da) := ⟨fun {c T σ Γ Ω H Q R} e h k =>
  s1.run e h fun x wx Ω1 H1 h1 e1 => s3.run e1.drop e1.hd h1 fun v w Ω' H' q e' => k v w Ω' H' q e'⟩
def dNil (_Γ0 : Gm) (Ω : Om) (Q : List W → Om → Prop) : Prop := Q [] Ω
instance s_nil : SA K am tNil dNil := ⟨fun {c T σ Γ Ω H Q R} e h k => k [] [] Ω H h e rfl⟩
def dCons (da : DT) (das : DA) (Γ : Gm) (Ω : Om) (Q : List W → Om → Prop) : Prop := da Γ Ω fun w Ω1 => das Γ Ω1 fun ws Ω2 => Q (w :: ws) Ω2
instance s_cons [s1 : SE K am ta da] [s2 : SA K am tas das] : SA K am (tCons ta tas) (dCons da das) := ⟨fun {c T σ Γ Ω H Q R} e h k =>
  s1.run e h fun x wx Ω1 H1 h1 e1 => s2.run e1 h1 fun vs ws Ω2 H2 h2 e2 h3 => k (x :: vs) (wx :: ws) Ω2 H2 h2 e2.drop ⟨x, vs, rfl, e2.hd, h3⟩⟩
def dStar (da : DT) (das : DA) (Γ : Gm) (Ω : Om) (Q : List W → Om → Prop) : Prop := da Γ Ω fun w Ω1 => seqW Ω1 w fun us => shsW us fun ds => das Γ Ω1 fun ws Ω2 => Q (ds.map .sh ++ ws) Ω2
/-- what a shared thing is, however the heap goes on -/
theorem star_run {c : Cq am} {T : List Tp} {σ : L2.St} {Γ : Gm} {Ω : Om} {H : Hp} {vs : List V} {ds : List D} (e : DEnv K c T σ Γ Ω H) (h : VOks K H (Ex c Ω) (ds.map .sh) vs) : ∃ S : List Tp, DEnv K c (S ++ T) σ Γ Ω H ∧ ∀ {Ω' : Om} {H' : Hp}, DEnv K c (S ++ T) σ Γ Ω' H' → VOks K H' (Ex c Ω') (ds.map .sh) vs := by
  induction ds generalizing vs with
  | nil => exact ⟨[], e, fun _ => h⟩
  | cons d ds ih =>
    obtain ⟨v, r, rfl, h1, h2⟩ := h
    obtain ⟨S, e1, h3⟩ := ih h2
    exact ⟨.v (.sh d) v :: S, e1.addv h1, fun e' => ⟨v, r, rfl, e'.hd, h3 e'.drop⟩⟩
instance s_star [s1 : SE K am ta da] [s2 : SA K am tas das] : SA K am (vStar ta tas) (dStar da das) := ⟨fun {c T σ Γ Ω H Q R} e h k =>
  s1.run e h fun x wx Ω1 H1 h1 e1 => by
    obtain ⟨a, vs, us, rfl, ha, hu, h2⟩ := seqW_el e1.drop e1.hd h1
    obtain ⟨ds, rfl, h3⟩ := shsW_el h2
    obtain ⟨S, e2, h4⟩ := star_run e1.drop hu
    show lstO (H1 a) _
    rw [ha]
    exact s2.run e2 h3 fun ts ws Ω2 H2 h5 e3 h6 => k (vs ++ ts) _ Ω2 H2 h5 e3.drops ((h4 e3).app h6)⟩
/-- star of a tuple -/
def vStarT (te : TE) (t : TA) : TA := fun σ H Q => te σ H fun y H1 => refR y fun a => tupO (H1 a) fun xs => t σ H1 fun vs H2 => Q (xs ++ vs) H2
def dStarT (da : DT) (das : DA) (Γ : Gm) (Ω : Om) (Q : List W → Om → Prop) : Prop := da Γ Ω fun w Ω1 => tupW w fun ds => das Γ Ω1 fun ws Ω2 => Q (ds.map .sh ++ ws) Ω2
instance s_starT [s1 : SE K am ta da] [s2 : SA K am tas das] : SA K am (vStarT ta tas) (dStarT da das) := ⟨fun {c T σ Γ Ω H Q R} e h k =>
  s1.run e h fun x wx Ω1 H1 h1 e1 => by
    obtain ⟨a, vs, ds, rfl, ha, hu, h3⟩ := tupW_at e1.hd h1
    obtain ⟨S, e2, h4⟩ := star_run e1.drop (VOks.sh_of hu)
    show tupO (H1 a) _
    exact rd_tupO ha (s2.run e2 h3 fun ts ws Ω2 H2 h5 e3 h6 => k (vs ++ ts) _ Ω2 H2 h5 e3.drops ((h4 e3).app h6))⟩
def lenOk {α : Type} (l : List α) : Prop := l.length ≤ sizeLine
theorem lenOk_of {α : Type} {l : List α} (h : l.length ≤ 16777216) : lenOk l := by unfold lenOk; rw [sizeLine_eq]; exact h
def dTup (das : DA) (Γ : Gm) (Ω : Om) (Q : DQ) : Prop := das Γ Ω fun ws Ω1 => shsW ws fun ds => lenOk ds ∧ Q (.sh (.tup ds)) Ω1
instance s_tup [s1 : SA K am tas das] : SE K am (tTup tas) (dTup das) := ⟨fun {c T σ Γ Ω H Q R} e h k =>
  s1.run e h fun vs ws Ω1 H1 h1 e1 hv => by
    obtain ⟨ds, rfl, hl, h2⟩ := shsW_el h1
    have n := hv.len
    rw [List.length_map] at n
    exact ⟨by rw [← n]; exact hl, fun p hp => k _ _ _ _ h2 (e1.tup hp hv.lay)⟩⟩
def dLst (das : DA) (Γ : Gm) (Ω : Om) (Q : DQ) : Prop := das Γ Ω fun ws Ω1 => shsW ws fun ds => lenOk ds ∧ Q (.sh (.lst ds)) Ω1
instance s_lst [s1 : SA K am tas das] : SE K am (tLst tas) (dLst das) := ⟨fun {c T σ Γ Ω H Q R} e h k =>
  s1.run e h fun vs ws Ω1 H1 h1 e1 hv => by
    obtain ⟨ds, rfl, hl, h2⟩ := shsW_el h1
    have n := hv.len
    rw [List.length_map] at n
    exact ⟨by rw [← n]; exact hl, fun p hp => k _ _ _ _ h2 (e1.lst hp hv.lay)⟩⟩
/-- the same things, to be changed by this run -/
def ownE (te : TE) : TE := te
theorem q_own {X : Cx} {e : Expr} (h : PE X e ta) : PE X e (ownE ta) := h
def notin (p : Addr) (Ω : Om) : Prop := p ∉ Ω.map (·.1)
def dLstO (das : DA) (Γ : Gm) (Ω : Om) (Q : DQ) : Prop := das Γ Ω fun ws Ω1 => lenOk ws ∧ ∀ p, notin p Ω1 → Q (.pt p) ((p, .lst ws) :: Ω1)
instance s_lstO [s1 : SA K am tas das] : SE K am (ownE (tLst tas)) (dLstO das) := ⟨fun {c T σ Γ Ω H Q R} e h k =>
  s1.run e h fun vs ws Ω1 H1 h1 e1 hv => by
    have n := hv.len
    exact ⟨by rw [← n]; exact h1.1, fun p hp => k _ _ _ _ (h1.2 p fun z => e1.noEx hp (.inr z)) (e1.own hp (e1.new hp) (.inl ⟨ws, vs, rfl, rfl, hv⟩))⟩⟩
def dAnd (da db : DT) (Γ : Gm) (Ω : Om) (Q : DQ) : Prop := da Γ Ω fun x Ω1 => blW x fun b => if b = true then db Γ Ω1 Q else Q (.sh (.bl false)) Ω1
instance s_and [s1 : SE K am ta da] [s2 : SE K am tb db] : SE K am (vAnd ta tb) (dAnd da db) := ⟨fun {c T σ Γ Ω H Q R} e h k =>
  s1.run e h fun x wx Ω1 H1 h1 e1 => by
    obtain ⟨b, rfl, h2⟩ := blW_el h1
    obtain rfl : x = .bl b := e1.hd
    show if b = true then _ else _
    cases b with
    | true => exact s2.run e1.drop h2 k
    | false => exact k _ _ _ _ h2 (e1.drop.addv rfl)⟩
def dOr (da db : DT) (Γ : Gm) (Ω : Om) (Q : DQ) : Prop := da Γ Ω fun x Ω1 => blW x fun b => if b = true then Q (.sh (.bl true)) Ω1 else db Γ Ω1 Q
instance s_or [s1 : SE K am ta da] [s2 : SE K am tb db] : SE K am (vOr ta tb) (dOr da db) := ⟨fun {c T σ Γ Ω H Q R} e h k =>
  s1.run e h fun x wx Ω1 H1 h1 e1 => by
    obtain ⟨b, rfl, h2⟩ := blW_el h1
    obtain rfl : x = .bl b := e1.hd
    show if b = true then _ else _
    cases b with
    | false => exact s2.run e1.drop h2 k
    | true => exact k _ _ _ _ h2 (e1.drop.addv rfl)⟩
def dNot (da : DT) (Γ : Gm) (Ω : Om) (Q : DQ) : Prop := da Γ Ω fun x Ω1 => blW x fun b => Q (.sh (.bl (!b))) Ω1
instance s_not [s1 : SE K am ta da] : SE K am (vNot ta) (dNot da) := ⟨fun {c T σ Γ Ω H Q R} e h k =>
  s1.run e h fun x wx Ω1 H1 h1 e1 => by
    obtain ⟨b, rfl, h2⟩ := blW_el h1
    obtain rfl : x = .bl b := e1.hd
    exact k _ _ _ _ h2 (e1.drop.addv rfl)⟩
def dIf (dq : DB) (da db : DT) (Γ : Gm) (Ω : Om) (Q : DQ) : Prop := dq Γ Ω fun b Ω1 => if b = true then da Γ Ω1 Q else db Γ Ω1 Q
instance s_if [s0 : ST K am tq dq] [s1 : SE K am ta da] [s2 : SE K am tb db] : SE K am (tIf tq ta tb) (dIf dq da db) := ⟨fun {c T σ Γ Ω H Q R} e h k =>
  s0.run e h fun b Ω1 H1 h1 e1 => by
    show if b = true then _ else _
    cases b with
    | true => exact s1.run e1 h1 k
    | false => exact s2.run e1 h1 k⟩
def dTest (da : DT) (Γ : Gm) (Ω : Om) (Q : Bool → Om → Prop) : Prop := da Γ Ω fun x Ω1 => blW x fun b => Q b Ω1
instance s_test [s1 : SE K am ta da] : ST K am (vTest ta) (dTest da) := ⟨fun {c T σ Γ Ω H Q R} e h k =>
  s1.run e h fun x wx Ω1 H1 h1 e1 => by
    obtain ⟨b, rfl, h2⟩ := blW_el h1
    obtain rfl : x = .bl b := e1.hd
    exact k _ _ _ h2 e1.drop⟩
def dYes (_Γ0 : Gm) (Ω : Om) (Q : Bool → Om → Prop) : Prop := Q true Ω
instance s_yes : ST K am tYes dYes := ⟨fun {c T σ Γ Ω H Q R} e h k => k _ _ _ h e⟩
def dChain (r r' : DR2) (da db dc : DT) (Γ : Gm) (Ω : Om) (Q : DQ) : Prop := da Γ Ω fun x Ω1 => db Γ Ω1 fun y Ω2 => r x y Ω2 fun z Ω3 => blW z fun b => if b = true then dc Γ Ω3 fun u Ω4 => r' y u Ω4 Q else Q (.sh (.bl false)) Ω3
instance s_chain {r r' : R2} {d d' : DR2} [s1 : SE K am ta da] [s2 : SE K am tb db] [s3 : SE K am tc dc] [s4 : SR2 K am r d] [s5 : SR2 K am r' d'] : SE K am (vChain r r' ta tb tc) (dChain d d' da db dc) := ⟨fun {c T σ Γ Ω H Q R} e h k =>
  s1.run e h fun x wx Ω1 H1 h1 e1 => s2.run e1 h1 fun y wy Ω2 H2 h2 e2 => s4.run e2 e2.drop.hd e2.hd h2 fun z wz Ω3 H3 h3 e3 => by
    obtain ⟨b, rfl, h4⟩ := blW_el h3
    obtain rfl : z = .bl b := e3.hd
    show if b = true then _ else _
    cases b with
    | true => exact s3.run e3.drop h4 fun u wu Ω4 H4 h5 e4 => s5.run e4.drop.drop.drop e4.drop.hd e4.hd h5 k
    | false => exact k _ _ _ _ h4 (e3.drop.drop.drop.addv rfl)⟩
def dCall (r : DRC) (das : DA) (Γ : Gm) (Ω : Om) (Q : DQ) : Prop := das Γ Ω fun ws Ω1 => r ws Ω1 Q
instance s_cb {r : List V → Hp → VK → Prop} {d : DRC} [s1 : SA K am tas das] [s2 : SRC K am r d] : SE K am (tCB r tas) (dCall d das) := ⟨fun {c T σ Γ Ω H Q R} e h k =>
  s1.run e h fun vs ws Ω1 H1 h1 e1 hv => s2.run e1 hv h1 k⟩
end
end OA

namespace OA
open PySem PySem.Spec PyProof.Rows L2
structure DN where
  nx : Gm → Om → Prop
  rt : W → Om → Prop
  bk : Gm → Om → Prop
  ct : Gm → Om → Prop
abbrev DS := DN → Gm → Om → Prop
abbrev DG := W → Gm → Om → (Gm → Om → Prop) → Prop
abbrev DGs := List W → Gm → Om → (Gm → Om → Prop) → Prop
abbrev DI := Gm → Om → (List W → Om → Prop) → Prop
structure EndsOk (K : PySem.W.Frag) {am : Am} (c : Cq am) (T : List Tp) (D : Ends) (N : DN) : Prop where
  nx : ∀ σ Γ Ω H, N.nx Γ Ω → DEnv K c T σ Γ Ω H → D.nx σ H
  rt : ∀ v w σ Γ Ω H, N.rt w Ω → DEnv K c (.v w v :: T) σ Γ Ω H → D.rt v H
  bk : ∀ σ Γ Ω H, N.bk Γ Ω → DEnv K c T σ Γ Ω H → D.bk σ H
  ct : ∀ σ Γ Ω H, N.ct Γ Ω → DEnv K c T σ Γ Ω H → D.ct σ H
class SS (K : PySem.W.Frag) (am : Am) (ts : TS) (t : outParam DS) : Prop where
  run : ∀ {c : Cq am} {T : List Tp} {σ : L2.St} {Γ : Gm} {Ω : Om} {H : Hp} {D : Ends} {N : DN}, DEnv K c T σ Γ Ω H → t N Γ Ω → EndsOk K c T D N → ts D σ H
class SG (K : PySem.W.Frag) (am : Am) (g : TG) (d : outParam DG) (ix : outParam (List Nat)) : Prop where
  run : ∀ {c : Cq am} {T : List Tp} {σ : L2.St} {Γ : Gm} {Ω : Om} {H : Hp} {v : V} {w : W} {Q : Gm → Om → Prop} {R : L2.St → Hp → Prop}, DEnv K c T σ Γ Ω H → VOk K H (Ex c Ω) w v → d w Γ Ω Q →
    (∀ σ' Γ' Ω' H', Q Γ' Ω' → DEnv K c T σ' Γ' Ω' H' → (∀ vs, (∀ i ∈ ix, i ∈ vs) → wipe σ' vs = wipe σ vs) → R σ' H') → g v σ H R
class SGs (K : PySem.W.Frag) (am : Am) (g : TGs) (d : outParam DGs) (ix : outParam (List Nat)) : Prop where
  run : ∀ {c : Cq am} {T : List Tp} {σ : L2.St} {Γ : Gm} {Ω : Om} {H : Hp} {vs : List V} {ws : List W} {Q : Gm → Om → Prop} {R : L2.St → Hp → Prop}, DEnv K c T σ Γ Ω H → VOks K H (Ex c Ω) ws vs → d ws Γ Ω Q →
    (∀ σ' Γ' Ω' H', Q Γ' Ω' → DEnv K c T σ' Γ' Ω' H' → (∀ vs, (∀ i ∈ ix, i ∈ vs) → wipe σ' vs = wipe σ vs) → R σ' H') → g vs σ H R
class SI (K : PySem.W.Frag) (am : Am) (wi : TI) (d : outParam DI) : Prop where
  run : ∀ {c : Cq am} {T : List Tp} {σ : L2.St} {Γ : Gm} {Ω : Om} {H : Hp} {Q : List W → Om → Prop} {R : It → Hp → Prop}, DEnv K c T σ Γ Ω H → d Γ Ω Q →
    (∀ J H' ws Ω' T' G Y, Q ws Ω' → DEnv K c (T' ++ T) σ Γ Ω' H' → Walk J ws.length G Y → (∀ σ Γ Ω H, DEnv K c (T' ++ T) σ Γ Ω H → G H) →
      (∀ (S : List Tp) i x σ Γ Ω H H', i < ws.length → DEnv K c (S ++ (T' ++ T)) σ Γ Ω H → Y i H x H' → ∃ w, ws[i]? = some w ∧ DEnv K c (.v w x :: (S ++ (T' ++ T))) σ Γ Ω H') → R J H') → wi σ H R
/-! own things given away -/
def subW (p : Addr) (d : D) : W → W
  | .pt q => if q = p then .sh d else .pt q
  | w => w
def subO (p : Addr) (d : D) : OD → OD
  | .lst ws => .lst (ws.map (subW p d))
  | .dic ks ws => .dic ks (ws.map (subW p d))
  | .lk o kvs ks ws => .lk o kvs ks (ws.map (subW p d))
  | .dt ks ws => .dt ks (ws.map (subW p d))
def subG (p : Addr) (d : D) (Γ : Gm) : Gm := Γ.map (·.map (subW p d))
def subΩ (p : Addr) (d : D) (Ω : Om) : Om := (Ω.filter fun q => decide (q.1 ≠ p)).map fun q => (q.1, subO p d q.2)
inductive Fz1 (Ω : Om) (p : Addr) : D → Prop
  | lst {ds : List D} : look Ω p = some (.lst (ds.map .sh)) → Fz1 Ω p (.lst ds)
  | dic {ks : List Key} {ds : List D} : look Ω p = some (.dic ks (ds.map .sh)) → Fz1 Ω p (.dic ks ds)
section
variable {K : PySem.W.Frag} {am : Am} {c : Cq am} {T : List Tp} {σ : L2.St} {Γ : Gm} {Ω : Om} {H : Hp}
theorem subW_ok {E : Addr → Prop} {p : Addr} {d : D} (h : Lay K H E d (.ref p)) {w : W} {v : V} (hv : VOk K H E w v) : VOk K H E (subW p d w) v := by
  cases w with
  | sh x => exact hv
  | ty n => exact hv
  | pt q =>
    unfold subW
    by_cases z : q = p
    · simp only [z, if_true]
      rw [show v = .ref q from hv, z]
      exact h
    · simp only [z, if_false]
      exact hv
theorem subW_oks {E : Addr → Prop} {p : Addr} {d : D} (h : Lay K H E d (.ref p)) : ∀ {ws : List W} {vs : List V}, VOks K H E ws vs → VOks K H E (ws.map (subW p d)) vs
  | [], _, hv => hv
  | _ :: _, _, ⟨v, r, e, h1, h2⟩ => ⟨v, r, e, subW_ok h h1, subW_oks h h2⟩
theorem subΩ_keys {p : Addr} {d : D} (b : Addr) : b ∈ (subΩ p d Ω).map (·.1) ↔ b ∈ Ω.map (·.1) ∧ b ≠ p := by
  unfold subΩ
  rw [List.map_map, List.mem_map, List.mem_map]
  constructor
  · rintro ⟨q, hq, rfl⟩
    obtain ⟨h1, h2⟩ := List.mem_filter.mp hq
    exact ⟨⟨q, h1, rfl⟩, of_decide_eq_true h2⟩
  · rintro ⟨⟨q, hq, rfl⟩, n⟩
    exact ⟨q, List.mem_filter.mpr ⟨hq, decide_eq_true n⟩, rfl⟩
theorem DEnv.frz {p : Addr} {d : D} (e : DEnv K c T σ Γ Ω H) (f : Fz1 Ω p d) : DEnv K c T σ (subG p d Γ) (subΩ p d Ω) H := by
  have hin : p ∈ Ω.map (·.1) := by cases f with
    | lst h => exact List.mem_map.mpr ⟨_, look_mem h, rfl⟩
    | dic h => exact List.mem_map.mpr ⟨_, look_mem h, rfl⟩
  have le : ∀ b, ¬ Ex c Ω b → ¬ Ex c (subΩ p d Ω) b := fun b n z => by
    rcases z with z | z
    · exact n (.inl z)
    · exact n (.inr ((subΩ_keys b).mp z).1)
  have kx : ∀ b o, ¬ Ex c Ω b → H b = some o → ¬ Ex c (subΩ p d Ω) b ∧ H b = some o := fun b o n h => ⟨le b n, h⟩
  have np : ¬ Ex c (subΩ p d Ω) p := fun z => by
    rcases z with z | z
    · exact (e.fr p hin).2 z
    · exact ((subΩ_keys p).mp z).2 rfl
  have lay : Lay K H (Ex c (subΩ p d Ω)) d (.ref p) := by
    cases f with
    | lst h =>
      obtain ⟨vs, h1, h2⟩ := e.ob _ (look_mem h)
      exact ⟨p, vs, rfl, np, h1, (h2.mono kx).lay⟩
    | dic h =>
      obtain ⟨vs, h1, hn, h2⟩ := e.ob _ (look_mem h)
      exact ⟨p, vs, rfl, np, h1, by rw [List.length_map] at hn; exact hn, (h2.mono kx).lay⟩
  refine ⟨by unfold subG; rw [List.length_map]; exact e.len, fun j w h => ?_, fun t ht => (e.tm t ht).mono kx, fun q hq => ?_, ?_, fun q hq => e.fr q ((subΩ_keys q).mp hq).1, e.el, e.frm, e.inv⟩
  · unfold subG at h
    rw [List.getElem?_map] at h
    cases q : Γ[j]? with
    | none => rw [q] at h; cases h
    | some o =>
      rw [q] at h
      cases o with
      | none => cases h
      | some w0 =>
        cases h
        obtain ⟨v, h1, h2⟩ := e.sl j w0 q
        exact ⟨v, h1, subW_ok lay (h2.mono kx)⟩
  · obtain ⟨r, hr, rfl⟩ := List.mem_map.mp hq
    have ho := (e.ob r (List.mem_filter.mp hr).1).mono kx fun _ h => h
    obtain ⟨r1, r2⟩ := r
    cases r2 with
    | lst ws =>
      obtain ⟨vs, h1, h2⟩ := ho
      exact ⟨vs, h1, subW_oks lay h2⟩
    | dic ks ws =>
      obtain ⟨vs, h1, hn, h2⟩ := ho
      exact ⟨vs, h1, by rw [List.length_map]; exact hn, subW_oks lay h2⟩
    | lk o kvs ks ws =>
      obtain ⟨vs, h1, hz, hn, h2⟩ := ho
      exact ⟨vs, h1, hz, by rw [List.length_map]; exact hn, subW_oks lay h2⟩
    | dt ks ws =>
      obtain ⟨vs, h1, hn, h2⟩ := ho
      exact ⟨vs, h1, by rw [List.length_map]; exact hn, subW_oks lay h2⟩
  · unfold subΩ
    rw [List.map_map]
    have : ((Ω.filter fun q => decide (q.1 ≠ p)).map (·.1)).Nodup := List.Nodup.sublist (List.Sublist.map _ List.filter_sublist) e.nd
    exact this
end
theorem DEnv.perm {K : PySem.W.Frag} {am : Am} {c : Cq am} {T : List Tp} {σ : L2.St} {Γ : Gm} {Ω Ω' : Om} {H : Hp} (e : DEnv K c T σ Γ Ω H) (p : Ω.Perm Ω') : DEnv K c T σ Γ Ω' H := by
  have ex : Ex c Ω' = Ex c Ω := by
    funext b
    have : (b ∈ Ω'.map (·.1)) = (b ∈ Ω.map (·.1)) := propext (p.map _).mem_iff.symm
    unfold Ex
    rw [this]
  exact ⟨e.len, by rw [ex]; exact e.sl, by rw [ex]; exact e.tm, fun q hq => by rw [ex]; exact e.ob q (p.mem_iff.mpr hq), (p.map _).nodup_iff.mp e.nd, fun q hq => e.fr q ((p.map _).mem_iff.mpr hq), e.el, e.frm, e.inv⟩
/-- what was built is no longer changed -/
theorem DEnv.unown {K : PySem.W.Frag} {am : Am} {c : Cq am} {T : List Tp} {σ : L2.St} {Γ : Gm} {Ω : Om} {H : Hp} {p : Addr} {ds : List D} (e : DEnv K c T σ Γ ((p, .lst (ds.map .sh)) :: Ω) H) (n : notin p Ω) : DEnv K c (.v (.sh (.lst ds)) (.ref p) :: T) σ Γ Ω H := by
  have kx : ∀ b o, ¬ Ex c ((p, .lst (ds.map .sh)) :: Ω) b → H b = some o → ¬ Ex c Ω b ∧ H b = some o := fun b o n h => ⟨fun z => n (z.elim .inl fun z => .inr (List.mem_cons_of_mem _ z)), h⟩
  obtain ⟨vs, a1, a2⟩ := e.ob _ List.mem_cons_self
  have np : ¬ Ex c Ω p := fun z => z.elim (e.fr p List.mem_cons_self).2 n
  refine ⟨e.len, fun j w h => ?_, fun t ht => ?_, fun q hq => (e.ob q (List.mem_cons_of_mem _ hq)).mono kx fun _ h => h, (List.nodup_cons.mp e.nd).2, fun q hq => e.fr q (List.mem_cons_of_mem _ hq), e.el, e.frm, e.inv⟩
  · obtain ⟨v, h1, h2⟩ := e.sl j w h
    exact ⟨v, h1, h2.mono kx⟩
  · rcases List.mem_cons.mp ht with rfl | ht
    · exact ⟨p, vs, rfl, np, a1, (a2.mono kx).lay⟩
    · exact (e.tm t ht).mono kx
/-- what comes later; own things may be given away first -/
inductive LaterD (P : Gm → Om → Prop) : Gm → Om → Prop
  | mk {Γ : Gm} {Ω : Om} : P Γ Ω → LaterD P Γ Ω
  | frz {Γ : Gm} {Ω : Om} (p : Addr) (d : D) : Fz1 Ω p d → LaterD P (subG p d Γ) (subΩ p d Ω) → LaterD P Γ Ω
  | perm {Γ : Gm} {Ω : Om} (Ω' : Om) : Ω.Perm Ω' → LaterD P Γ Ω' → LaterD P Γ Ω
theorem LaterD.run {K : PySem.W.Frag} {am : Am} {c : Cq am} {T : List Tp} {σ : L2.St} {H : Hp} {P : Gm → Om → Prop} : ∀ {Γ : Gm} {Ω : Om}, LaterD P Γ Ω → DEnv K c T σ Γ Ω H → ∃ Γ' Ω', P Γ' Ω' ∧ DEnv K c T σ Γ' Ω' H := fun h => by
  induction h with
  | mk h => exact fun e => ⟨_, _, h, e⟩
  | frz p d f _ ih => exact fun e => ih (e.frz f)
  | perm _ h _ ih => exact fun e => ih (e.perm h)
section
variable {K : PySem.W.Frag} {am : Am} {ts us : TS} {dt du : DS} {te : TE} {de : DT} {tq : TT} {dq : DB}
def dNext (N : DN) (Γ : Gm) (Ω : Om) : Prop := N.nx Γ Ω
instance s_next : SS K am tNext dNext := ⟨fun {c T σ Γ Ω H D N} e h o => o.nx _ _ _ _ h e⟩
def dNever (_N0 : DN) (_Γ0 : Gm) (_Ω0 : Om) : Prop := False
instance s_never : SS K am tNever dNever := ⟨fun {c T σ Γ Ω H D N} e h o => h.elim⟩
def dSeq (dt du : DS) (N : DN) (Γ : Gm) (Ω : Om) : Prop := dt ⟨LaterD (du N), N.rt, N.bk, N.ct⟩ Γ Ω
instance s_seq [s1 : SS K am ts dt] [s2 : SS K am us du] : SS K am (vSeq ts us) (dSeq dt du) := ⟨fun {c T σ Γ Ω H D N} e h o =>
  s1.run e h ⟨fun σ' Γ' Ω' H' h' e' => by
    obtain ⟨Γ2, Ω2, h2, e2⟩ := h'.run e'
    exact s2.run e2 h2 o, o.rt, o.bk, o.ct⟩⟩
def dDrop (de : DT) (N : DN) (Γ : Gm) (Ω : Om) : Prop := de Γ Ω fun _ Ω1 => N.nx Γ Ω1
instance s_drop [s1 : SE K am te de] : SS K am (tDrop te) (dDrop de) := ⟨fun {c T σ Γ Ω H D N} e h o => s1.run e h fun v w Ω' H' q e' => o.nx _ _ _ _ q e'.drop⟩
def dRet (de : DT) (N : DN) (Γ : Gm) (Ω : Om) : Prop := de Γ Ω N.rt
instance s_ret [s1 : SE K am te de] : SS K am (tRet te) (dRet de) := ⟨fun {c T σ Γ Ω H D N} e h o => s1.run e h fun v w Ω' H' q e' => o.rt _ _ _ _ _ _ q e'⟩
def dRetN (N : DN) (_Γ0 : Gm) (Ω : Om) : Prop := N.rt (.sh .non) Ω
instance s_retN : SS K am tRetN dRetN := ⟨fun {c T σ Γ Ω H D N} e h o => o.rt _ _ _ _ _ _ h (e.addv rfl)⟩
def dIfS (dq : DB) (dt du : DS) (N : DN) (Γ : Gm) (Ω : Om) : Prop := dq Γ Ω fun b Ω1 => if b = true then LaterD (dt N) Γ Ω1 else LaterD (du N) Γ Ω1
instance s_ifS [s0 : ST K am tq dq] [s1 : SS K am ts dt] [s2 : SS K am us du] : SS K am (vIf tq ts us) (dIfS dq dt du) := ⟨fun {c T σ Γ Ω H D N} e h o =>
  s0.run e h fun b Ω1 H1 h1 e1 => by
    show if b = true then _ else _
    cases b with
    | true =>
      obtain ⟨Γ2, Ω2, h2, e2⟩ := LaterD.run h1 e1
      exact s1.run e2 h2 o
    | false =>
      obtain ⟨Γ2, Ω2, h2, e2⟩ := LaterD.run h1 e1
      exact s2.run e2 h2 o⟩
/-- own midway -/
def dCut (dt : DS) (N : DN) (Γ : Gm) (Ω : Om) : Prop := ∃ P : Gm → Om → Prop, (∀ Γ' Ω', P Γ' Ω' → N.nx Γ' Ω') ∧ dt ⟨P, N.rt, N.bk, N.ct⟩ Γ Ω
instance s_cut [s1 : SS K am ts dt] : SS K am (vCut ts) (dCut dt) := ⟨fun {c T σ Γ Ω H D N} e h o => by
  obtain ⟨P, h1, h2⟩ := h
  exact ⟨D.nx, fun _ _ z => z, s1.run e h2 ⟨fun σ' Γ' Ω' H' q e' => o.nx _ _ _ _ (h1 _ _ q) e', o.rt, o.bk, o.ct⟩⟩⟩
/-! stores -/
def dName (i : Nat) (w : W) (Γ : Gm) (Ω : Om) (Q : Gm → Om → Prop) : Prop := Q (Γ.set i (some w)) Ω
theorem wipe_at (σ : L2.St) : ∀ (vs : List Nat) (j : Nat), (wipe σ vs)[j]? = if j ∈ vs then (σ[j]?).map fun _ => none else σ[j]?
  | [], j => by simp [wipe]
  | v :: vs, j => by
    unfold wipe
    rw [List.getElem?_set, wipe_length, wipe_at σ vs j]
    by_cases z : v = j
    · subst z
      rw [if_pos rfl, if_pos List.mem_cons_self]
      by_cases hl : v < σ.length
      · rw [if_pos hl, List.getElem?_eq_getElem hl]; rfl
      · rw [if_neg hl, List.getElem?_eq_none (by omega)]; rfl
    · rw [if_neg z]
      have : (j ∈ v :: vs) = (j ∈ vs) := by
        rw [List.mem_cons]
        exact propext ⟨fun h => h.elim (fun h => absurd h.symm z) id, .inr⟩
      simp only [this]
theorem wipe_set {σ : L2.St} {i : Nat} {x : Option V} {vs : List Nat} (h : i ∈ vs) : wipe (σ.set i x) vs = wipe σ vs := by
  refine List.ext_getElem? fun j => ?_
  rw [wipe_at, wipe_at, List.getElem?_set]
  by_cases z : i = j
  · subst z
    rw [if_pos rfl, if_pos h, if_pos h]
    by_cases hl : i < σ.length
    · rw [if_pos hl, List.getElem?_eq_getElem hl]; rfl
    · rw [if_neg hl, List.getElem?_eq_none (by omega)]
  · rw [if_neg z]
theorem wipe_wipe {σ : L2.St} {vs : List Nat} : wipe (wipe σ vs) vs = wipe σ vs := by
  refine List.ext_getElem? fun j => ?_
  rw [wipe_at, wipe_at]
  split
  · cases σ[j]? <;> rfl
  · rfl
instance s_name (i : Nat) : SG K am (gName i) (dName i) [i] := ⟨fun {c T σ Γ Ω H v w Q R} e hv h k => k _ _ _ _ h (e.set hv) fun vs hi => wipe_set (hi i (List.mem_singleton.mpr rfl))⟩
def dGnil (ws : List W) (Γ : Gm) (Ω : Om) (Q : Gm → Om → Prop) : Prop := ws = [] ∧ Q Γ Ω
instance s_gnil : SGs K am vgNil dGnil [] := ⟨fun {c T σ Γ Ω H vs ws Q R} e hv h k => by
  obtain ⟨rfl, h⟩ := h
  obtain rfl : vs = [] := hv
  exact ⟨rfl, k _ _ _ _ h e fun _ _ => rfl⟩⟩
def dGcons (g : DG) (gs : DGs) (ws : List W) (Γ : Gm) (Ω : Om) (Q : Gm → Om → Prop) : Prop := match ws with | w :: r => g w Γ Ω fun Γ1 Ω1 => gs r Γ1 Ω1 Q | [] => False
theorem oks_keep {c : Cq am} {T : List Tp} {σ : L2.St} {Γ : Gm} {Ω : Om} {H : Hp} {ws : List W} {vs : List V} (e : DEnv K c T σ Γ Ω H) (h : VOks K H (Ex c Ω) ws vs) : ∃ S : List Tp, DEnv K c (S ++ T) σ Γ Ω H ∧ ∀ {σ' : L2.St} {Γ' : Gm} {Ω' : Om} {H' : Hp}, DEnv K c (S ++ T) σ' Γ' Ω' H' → VOks K H' (Ex c Ω') ws vs := by
  induction ws generalizing vs with
  | nil => exact ⟨[], e, fun _ => h⟩
  | cons d ds ih =>
    obtain ⟨v, r, rfl, h1, h2⟩ := h
    obtain ⟨S, e1, h3⟩ := ih h2
    exact ⟨.v d v :: S, e1.addv h1, fun e' => ⟨v, r, rfl, e'.hd, h3 e'.drop⟩⟩
instance s_gcons {g : TG} {gs : TGs} {d : DG} {ds : DGs} {i1 i2 : List Nat} [s1 : SG K am g d i1] [s2 : SGs K am gs ds i2] : SGs K am (vgCons g gs) (dGcons d ds) (i1 ++ i2) := ⟨fun {c T σ Γ Ω H vs ws Q R} e hv h k => by
  cases ws with
  | nil => exact (show False from h).elim
  | cons w r =>
    obtain ⟨v, rs, rfl, h1, h2⟩ := hv
    obtain ⟨S, e1, h3⟩ := oks_keep e h2
    exact s1.run (T := S ++ T) e1 ((e1.add (t := .v w v) (by exact h1)).hd) h fun σ' Γ' Ω' H' q e' hw => s2.run e'.drops (h3 e') q fun σ2 Γ2 Ω2 H2 q2 e2 hw2 => k _ _ _ _ q2 e2 fun vs hi => by
      rw [hw2 vs fun i h => hi i (List.mem_append_right _ h), hw vs fun i h => hi i (List.mem_append_left _ h)]⟩
def dGtup (n : Nat) (gs : DGs) (w : W) (Γ : Gm) (Ω : Om) (Q : Gm → Om → Prop) : Prop := tupW w fun ds => ds.length = n ∧ gs (ds.map .sh) Γ Ω Q
instance s_gtup {n : Nat} {gs : TGs} {ds : DGs} {ix : List Nat} [s1 : SGs K am gs ds ix] : SG K am (vgTup n gs) (dGtup n ds) ix := ⟨fun {c T σ Γ Ω H v w Q R} e hv h k => by
  obtain ⟨a, vs, xs, rfl, ha, hl, hn, h2⟩ := tupW_at hv h
  show tupO (H a) _
  exact rd_tupO ha ⟨by rw [← hl.len]; exact hn, s1.run e (VOks.sh_of hl) h2 k⟩⟩
def dAsg (de : DT) (g : DG) (N : DN) (Γ : Gm) (Ω : Om) : Prop := de Γ Ω fun w Ω1 => g w Γ Ω1 N.nx
instance s_asg {g : TG} {d : DG} {ix : List Nat} [s1 : SE K am te de] [s2 : SG K am g d ix] : SS K am (tAsg te g) (dAsg de d) := ⟨fun {c T σ Γ Ω H D N} e h o =>
  s1.run e h fun v w Ω' H' q e' => s2.run e'.drop e'.hd q fun σ2 Γ2 Ω2 H2 q2 e2 _ => o.nx _ _ _ _ q2 e2⟩
def dAug (i : Nat) (de : DT) (g : Int → Int → Int) (N : DN) (Γ : Gm) (Ω : Om) : Prop := varR (Γ[i]?) fun x => de Γ Ω fun y Ω1 => intW x fun m => intW y fun n => N.nx (Γ.set i (some (.sh (.int (g m n))))) Ω1
instance s_aug {i : Nat} {g : Int → Int → Int} [s1 : SE K am te de] : SS K am (vAug i te g) (dAug i de g) := ⟨fun {c T σ Γ Ω H D N} e h o => by
  obtain ⟨w, h1, h2⟩ := varR_el h
  obtain ⟨v, h3, h4⟩ := e.sl i w h1
  show optR _ _
  rw [h3]
  refine s1.run (T := .v w v :: T) (e.addv h4) h2 fun y wy Ω' H' q e' => ?_
  have hx := e'.drop.hd
  obtain ⟨m, rfl, q1⟩ := intW_el q
  obtain ⟨n, rfl, q2⟩ := intW_el q1
  obtain rfl : v = .int m := hx
  obtain rfl : y = .int n := e'.hd
  exact o.nx _ _ _ _ q2 (e'.drop.drop.set rfl)⟩
/-! loops -/
def dWhile (dq : DB) (dt : DS) (N : DN) (Γ : Gm) (Ω : Om) : Prop := ∃ (Pv : Nat → Gm → Om → Prop) (m0 : Nat), Pv m0 Γ Ω ∧ ∀ m Γ Ω, Pv m Γ Ω → dq Γ Ω fun b Ω1 => if b = true then LaterD (dt ⟨fun Γ' Ω' => ∃ m', m' < m ∧ Pv m' Γ' Ω', N.rt, N.nx, fun Γ' Ω' => ∃ m', m' < m ∧ Pv m' Γ' Ω'⟩) Γ Ω1 else LaterD N.nx Γ Ω1
instance s_while [s0 : ST K am tq dq] [s1 : SS K am ts dt] : SS K am (vWhile tq ts) (dWhile dq dt) := ⟨fun {c T σ Γ Ω H D N} e h o => by
  obtain ⟨Pv, m0, h0, hs⟩ := h
  refine ⟨fun m σ H => ∃ Γ Ω, Pv m Γ Ω ∧ DEnv K c T σ Γ Ω H, m0, ⟨Γ, Ω, h0, e⟩, fun m σ H ⟨Γ, Ω, p, e⟩ => s0.run e (hs m Γ Ω p) fun b Ω1 H1 h1 e1 => ?_⟩
  cases b with
  | true =>
    obtain ⟨Γ2, Ω2, h2, e2⟩ := LaterD.run h1 e1
    exact s1.run e2 h2 ⟨fun σ' Γ' Ω' H' ⟨m', hm, p'⟩ e' => ⟨m', hm, Γ', Ω', p', e'⟩, o.rt, o.nx, fun σ' Γ' Ω' H' ⟨m', hm, p'⟩ e' => ⟨m', hm, Γ', Ω', p', e'⟩⟩
  | false =>
    obtain ⟨Γ2, Ω2, h2, e2⟩ := LaterD.run h1 e1
    exact o.nx _ _ _ _ h2 e2⟩
def dFor (di : DI) (g : DG) (dt : DS) (N : DN) (Γ : Gm) (Ω : Om) : Prop := di Γ Ω fun ws Ω1 => ∃ Pv : Nat → Gm → Om → Prop, Pv 0 Γ Ω1 ∧ (∀ i w Γ Ω, ws[i]? = some w → Pv i Γ Ω → g w Γ Ω fun Γ2 Ω2 => LaterD (dt ⟨Pv (i + 1), N.rt, N.nx, Pv (i + 1)⟩) Γ2 Ω2) ∧ ∀ Γ Ω, Pv ws.length Γ Ω → LaterD N.nx Γ Ω
theorem EndsOk.more {c : Cq am} {S T : List Tp} {D : Ends} {N : DN} (o : EndsOk K c T D N) : EndsOk K c (S ++ T) D N := ⟨fun _ _ _ _ h e => o.nx _ _ _ _ h e.drops, fun v w σ Γ Ω H h e => o.rt v w _ _ _ _ h (e.drop.drops.addv e.hd), fun _ _ _ _ h e => o.bk _ _ _ _ h e.drops, fun _ _ _ _ h e => o.ct _ _ _ _ h e.drops⟩
instance s_for {wi : TI} {di : DI} {g : TG} {d : DG} {ix : List Nat} [s0 : SI K am wi di] [s1 : SG K am g d ix] [s2 : SS K am ts dt] : SS K am (vFor wi g ts) (dFor di d dt) := ⟨fun {c T σ Γ Ω H D N} e h o =>
  s0.run e h fun J H1 ws Ω1 T' G Y q e1 hw hG hY => by
    obtain ⟨Pv, p0, ps, pe⟩ := q
    have om : EndsOk K c (T' ++ T) D N := o.more
    refine ⟨ws.length, G, Y, fun i σ H => ∃ Γ Ω, Pv i Γ Ω ∧ DEnv K c (T' ++ T) σ Γ Ω H, hw, ⟨Γ, Ω1, p0, e1⟩, fun i σ H _ ⟨Γ, Ω, _, e⟩ => hG σ Γ Ω H e, fun i x σ H H' hi ⟨Γ, Ω, p, e⟩ y => ?_, fun σ H ⟨Γ, Ω, p, e⟩ => ?_⟩
    · obtain ⟨w, hw, e2⟩ := hY [] i x σ Γ Ω H H' hi e y
      refine s1.run e2.drop e2.hd (ps i w Γ Ω hw p) fun σ2 Γ2 Ω2 H2 q2 e3 _ => ?_
      obtain ⟨Γ3, Ω3, h3, e4⟩ := LaterD.run q2 e3
      exact s2.run e4 h3 ⟨fun σ' Γ' Ω' H' p' e' => ⟨Γ', Ω', p', e'⟩, om.rt, om.nx, fun σ' Γ' Ω' H' p' e' => ⟨Γ', Ω', p', e'⟩⟩
    · obtain ⟨Γ3, Ω3, h3, e4⟩ := LaterD.run (pe Γ Ω p) e
      exact om.nx _ _ _ _ h3 e4⟩
/-! comprehensions -/
def wipeG (Γ : Gm) : List Nat → Gm
  | [] => Γ
  | v :: vs => (wipeG Γ vs).set v none
theorem wipeG_len (Γ : Gm) : ∀ vs, (wipeG Γ vs).length = Γ.length
  | [] => rfl
  | v :: vs => by unfold wipeG; rw [List.length_set, wipeG_len Γ vs]
theorem wipeG_some {Γ : Gm} {i : Nat} {w : W} : ∀ {vs : List Nat}, (wipeG Γ vs)[i]? = some (some w) → Γ[i]? = some (some w) ∧ i ∉ vs
  | [], h => ⟨h, by simp⟩
  | v :: vs, h => by
    unfold wipeG at h
    rw [List.getElem?_set] at h
    by_cases z : v = i
    · subst z
      rw [if_pos rfl] at h
      split at h <;> cases h
    · rw [if_neg z] at h
      obtain ⟨h1, h2⟩ := wipeG_some h
      exact ⟨h1, by simp only [List.mem_cons, not_or]; exact ⟨fun e => z e.symm, h2⟩⟩
theorem DEnv.wipe {c : Cq am} {T : List Tp} {σ : L2.St} {Γ : Gm} {Ω : Om} {H : Hp} (e : DEnv K c T σ Γ Ω H) (vs : List Nat) : DEnv K c T (L2.wipe σ vs) (wipeG Γ vs) Ω H := ⟨by rw [wipeG_len, wipe_length]; exact e.len, fun i w h => by
  obtain ⟨h1, h2⟩ := wipeG_some h
  obtain ⟨v, h3, h4⟩ := e.sl i w h1
  exact ⟨v, by rw [wipe_at, if_neg h2]; exact h3, h4⟩, e.tm, e.ob, e.nd, e.fr, e.el, e.frm, e.inv⟩
/-- the slots' things kept beside, while other slots are about -/
theorem DEnv.save {c : Cq am} {T : List Tp} {σ : L2.St} {Γ : Gm} {Ω : Om} {H : Hp} (e : DEnv K c T σ Γ Ω H) : ∃ S : List Tp, DEnv K c (S ++ T) σ Γ Ω H ∧ ∀ {σ' : L2.St} {Γ' : Gm} {Ω' : Om} {H' : Hp}, DEnv K c (S ++ T) σ' Γ' Ω' H' → DEnv K c T σ Γ Ω' H' := by
  have key : ∀ n, ∃ S : List Tp, DEnv K c (S ++ T) σ Γ Ω H ∧ ∀ {σ' : L2.St} {Γ' : Gm} {Ω' : Om} {H' : Hp}, DEnv K c (S ++ T) σ' Γ' Ω' H' → ∀ (i : Nat) (w : W), i < n → Γ[i]? = some (some w) → ∃ v, σ[i]? = some (some v) ∧ VOk K H' (Ex c Ω') w v := by
    intro n
    induction n with
    | zero => exact ⟨[], e, fun _ i w h => absurd h (Nat.not_lt_zero _)⟩
    | succ n ih =>
      obtain ⟨S, e1, h1⟩ := ih
      cases q : Γ[n]? with
      | none => exact ⟨S, e1, fun e' i w hi h => by
          rcases Nat.lt_succ_iff_lt_or_eq.mp hi with z | z
          · exact h1 e' i w z h
          · rw [z, q] at h; cases h⟩
      | some o =>
        cases o with
        | none => exact ⟨S, e1, fun e' i w hi h => by
            rcases Nat.lt_succ_iff_lt_or_eq.mp hi with z | z
            · exact h1 e' i w z h
            · rw [z, q] at h; cases h⟩
        | some w0 =>
          obtain ⟨v, h3, h4⟩ := e1.sl n w0 q
          refine ⟨.v w0 v :: S, e1.addv h4, fun e' i w hi h => ?_⟩
          rcases Nat.lt_succ_iff_lt_or_eq.mp hi with z | z
          · exact h1 e'.drop i w z h
          · rw [z, q] at h
            cases h
            rw [z]
            exact ⟨v, h3, e'.hd⟩
  obtain ⟨S, e1, h1⟩ := key Γ.length
  refine ⟨S, e1, fun e' => ⟨e.len, fun i w h => ?_, e'.drops.tm, e'.ob, e'.nd, e'.fr, e'.el, e'.frm, e'.inv⟩⟩
  exact h1 e' i w (by
    rcases Nat.lt_or_ge i Γ.length with z | z
    · exact z
    · rw [List.getElem?_eq_none z] at h; cases h) h
def lenLt {α : Type} (l : List α) : Prop := l.length < sizeLine
def dLcP (n : Nat) (ws : List W) (g : DG) (dq : DB) (de : DT) (vs : List Nat) (Γ : Gm) (Ω1 : Om) (Pv : Nat → List W → Prop) : Prop :=
  Pv 0 [] ∧ ∀ i w acc p, ws[i]? = some w → Pv i acc → notin p Ω1 → g w (wipeG Γ vs) ((p, .lst acc) :: Ω1) fun Γ2 Ω2 => Ω2 = (p, .lst acc) :: Ω1 ∧ dq Γ2 ((p, .lst acc) :: Ω1) fun b Ω3 => Ω3 = (p, .lst acc) :: Ω1 ∧
    if b = true then de Γ2 ((p, .lst acc) :: Ω1) fun y Ω4 => Ω4 = (p, .lst acc) :: Ω1 ∧ lenLt acc ∧ Pv (i + 1) (acc ++ [y]) else Pv (i + 1) acc
def dLc (ix : List Nat) (di : DI) (g : DG) (dq : DB) (de : DT) (vs : List Nat) (Γ : Gm) (Ω : Om) (Q : DQ) : Prop := (∀ i ∈ ix, i ∈ vs) ∧ di Γ Ω fun ws Ω1 => ∃ Pv : Nat → List W → Prop, dLcP ws.length ws g dq de vs Γ Ω1 Pv ∧ ∀ acc, Pv ws.length acc → shsW acc fun ds => Q (.sh (.lst ds)) Ω1
def dLcO (ix : List Nat) (di : DI) (g : DG) (dq : DB) (de : DT) (vs : List Nat) (Γ : Gm) (Ω : Om) (Q : DQ) : Prop := (∀ i ∈ ix, i ∈ vs) ∧ di Γ Ω fun ws Ω1 => ∃ Pv : Nat → List W → Prop, dLcP ws.length ws g dq de vs Γ Ω1 Pv ∧ ∀ acc p, Pv ws.length acc → notin p Ω1 → Q (.pt p) ((p, .lst acc) :: Ω1)
theorem look_hd {p : Addr} {od : OD} {Ω : Om} : look ((p, od) :: Ω) p = some od := by simp [look, List.find?_cons]
theorem put_hd {p : Addr} {od od' : OD} {Ω : Om} (h : notin p Ω) : OA.put ((p, od) :: Ω) p od' = (p, od') :: Ω := by
  unfold OA.put
  rw [List.map_cons]
  simp only [if_true]
  congr 1
  have : ∀ q ∈ Ω, (if q.1 = p then (q.1, od') else q) = q := fun q hq => if_neg fun z => h (List.mem_map.mpr ⟨q, hq, z⟩)
  rw [List.map_congr_left this, List.map_id']
theorem lc_run {wi : TI} {di : DI} {g : TG} {d : DG} {ix vs : List Nat} (hix : ∀ i ∈ ix, i ∈ vs) [s0 : SI K am wi di] [s1 : SG K am g d ix] [s2 : ST K am tq dq] [s3 : SE K am te de]
    {c : Cq am} {T : List Tp} {σ : L2.St} {Γ : Gm} {Ω : Om} {H : Hp} {Z : List W → Om → (Nat → List W → Prop) → Prop} {R : VK} (e : DEnv K c T σ Γ Ω H)
    (h : di Γ Ω fun ws Ω1 => ∃ Pv : Nat → List W → Prop, dLcP ws.length ws d dq de vs Γ Ω1 Pv ∧ Z ws Ω1 Pv)
    (k : ∀ ws Ω1 Pv acc D H', Z ws Ω1 Pv → Pv ws.length acc → notin D Ω1 → DEnv K c (.v (.pt D) (.ref D) :: T) σ Γ ((D, .lst acc) :: Ω1) H' → R (.ref D) H') : vLc wi g tq te vs σ H R :=
  s0.run e h fun J H1 ws Ω1 T' G Y ⟨Pv, ⟨p0, ps⟩, hz⟩ e1 hw hG hY => fun D hD => by
    obtain ⟨S, e2, back⟩ := e1.save
    have nD : notin D Ω1 := fun z => e1.noEx hD (.inr z)
    have e3 : DEnv K c (.v (.pt D) (.ref D) :: (S ++ (T' ++ T))) σ Γ ((D, .lst []) :: Ω1) (upd H1 D (.lst [])) := e2.own hD (e2.new hD) (.inl ⟨[], [], rfl, rfl, rfl⟩)
    have to' : ∀ {σ : L2.St} {Γ : Gm} {Ω : Om} {H : Hp}, DEnv K c (.v (.pt D) (.ref D) :: (S ++ (T' ++ T))) σ Γ Ω H → DEnv K c (T' ++ T) σ Γ Ω H := fun e => e.drop.drops
    refine ⟨ws.length, G, Y, fun i H => ∃ acc σ2 Γ2, Pv i acc ∧ DEnv K c (.v (.pt D) (.ref D) :: (S ++ (T' ++ T))) σ2 Γ2 ((D, .lst acc) :: Ω1) H, hw, ⟨[], σ, Γ, p0, e3⟩, fun i H _ ⟨acc, σ2, Γ2, _, e⟩ => hG _ _ _ _ (to' e), fun i x H H' hi ⟨acc, σ2, Γ2, p, e⟩ y => ?_, fun H ⟨acc, σ2, Γ2, p, e⟩ => ?_⟩
    · have eW : DEnv K c (.v (.pt D) (.ref D) :: (S ++ (T' ++ T))) (L2.wipe σ vs) (wipeG Γ vs) ((D, .lst acc) :: Ω1) H := by
        have b1 := (back e.drop).wipe vs
        exact ⟨b1.len, b1.sl, e.tm, e.ob, e.nd, e.fr, e.el, e.frm, e.inv⟩
      obtain ⟨w, hw', e5⟩ := hY (.v (.pt D) (.ref D) :: S) i x _ _ _ H H' hi eW y
      refine s1.run e5.drop e5.hd (ps i w acc D hw' p nD) fun σ3 Γ3 Ω3 H3 ⟨z3, q3⟩ e6 hwp => ⟨by rw [hwp vs hix, wipe_wipe], ?_⟩
      subst z3
      refine s2.run e6 q3 fun b Ω4 H4 ⟨z4, q4⟩ e7 => ?_
      subst z4
      cases b with
      | false => exact ⟨acc, _, _, q4, e7⟩
      | true =>
        refine s3.run e7 q4 fun y wy Ω5 H5 ⟨z5, hl, p'⟩ e8 => ?_
        subst z5
        obtain ⟨vs', a1, a2⟩ := e8.ob (D, .lst acc) List.mem_cons_self
        show lstO (H5 D) _
        rw [a1]
        have e9 := e8.drop.putL (vs' := vs' ++ [y]) (ws' := acc ++ [wy]) look_hd (a2.app (.one e8.hd))
        rw [put_hd nD] at e9
        exact ⟨by rw [← a2.len]; exact hl, acc ++ [wy], _, _, p', e9⟩
    · have b1 := back e.drop
      exact k ws Ω1 Pv acc D H hz p nD ⟨b1.len, b1.sl, fun t ht => by
        rcases List.mem_cons.mp ht with rfl | ht
        · exact rfl
        · exact b1.drops.tm t ht, b1.ob, b1.nd, b1.fr, b1.el, b1.frm, b1.inv⟩
instance s_lc {wi : TI} {di : DI} {g : TG} {d : DG} {ix vs : List Nat} [s0 : SI K am wi di] [s1 : SG K am g d ix] [s2 : ST K am tq dq] [s3 : SE K am te de] : SE K am (vLc wi g tq te vs) (dLc ix di d dq de vs) := ⟨fun {c T σ Γ Ω H Q R} e ⟨hx, h⟩ k =>
  lc_run hx e (Z := fun ws Ω1 Pv => ∀ acc, Pv ws.length acc → shsW acc fun ds => Q (.sh (.lst ds)) Ω1) h fun ws Ω1 Pv acc D H' hz p nD e' => by
    obtain ⟨ds, rfl, h2⟩ := shsW_el (hz acc p)
    exact k _ _ _ _ h2 (e'.drop.unown nD)⟩
instance s_lcO {wi : TI} {di : DI} {g : TG} {d : DG} {ix vs : List Nat} [s0 : SI K am wi di] [s1 : SG K am g d ix] [s2 : ST K am tq dq] [s3 : SE K am te de] : SE K am (ownE (vLc wi g tq te vs)) (dLcO ix di d dq de vs) := ⟨fun {c T σ Γ Ω H Q R} e ⟨hx, h⟩ k =>
  lc_run hx e (Z := fun ws Ω1 Pv => ∀ acc p, Pv ws.length acc → notin p Ω1 → Q (.pt p) ((p, .lst acc) :: Ω1)) h fun ws Ω1 Pv acc D H' hz p nD e' => k _ _ _ _ (hz acc D p nD) e'⟩
end
end OA

namespace OA
open PySem PySem.Spec PyProof.Rows L2
/-! operators over data -/
def flV : D → Option V
  | .non => some .non
  | .bl b => some (.bl b)
  | .int i => some (.int i)
  | .str s => some (.str s)
  | _ => none
def cWR (v : V) (k : W → Prop) : Prop := match cW v with | some w => k w | none => False
def flW (w : W) (k : V → Prop) : Prop := match w with | .sh x => (match flV x with | some v => k v | none => False) | _ => False
def intsD : List D → (List Int → Prop) → Prop
  | [], k => k []
  | .int x :: r, k => intsD r fun ds => k (x :: ds)
  | _ :: _, _ => False
def strsD : List D → (List Str → Prop) → Prop
  | [], k => k []
  | .str x :: r, k => strsD r fun ds => k (x :: ds)
  | _ :: _, _ => False
theorem intsD_el : ∀ {ds : List D} {k : List Int → Prop}, intsD ds k → ∃ ns, ds = ns.map .int ∧ k ns
  | [], k, h => ⟨[], rfl, h⟩
  | .int x :: r, k, h => by
    obtain ⟨ds, e, z⟩ := intsD_el (ds := r) h
    exact ⟨x :: ds, by rw [e]; rfl, z⟩
  | .non :: _, _, h => (show False from h).elim
  | .bl _ :: _, _, h => (show False from h).elim
  | .str _ :: _, _, h => (show False from h).elim
  | .tup _ :: _, _, h => (show False from h).elim
  | .lst _ :: _, _, h => (show False from h).elim
  | .dic _ _ :: _, _, h => (show False from h).elim
  | .py _ :: _, _, h => (show False from h).elim
theorem strsD_el : ∀ {ds : List D} {k : List Str → Prop}, strsD ds k → ∃ ns, ds = ns.map .str ∧ k ns
  | [], k, h => ⟨[], rfl, h⟩
  | .str x :: r, k, h => by
    obtain ⟨ds, e, z⟩ := strsD_el (ds := r) h
    exact ⟨x :: ds, by rw [e]; rfl, z⟩
  | .non :: _, _, h => (show False from h).elim
  | .bl _ :: _, _, h => (show False from h).elim
  | .int _ :: _, _, h => (show False from h).elim
  | .tup _ :: _, _, h => (show False from h).elim
  | .lst _ :: _, _, h => (show False from h).elim
  | .dic _ _ :: _, _, h => (show False from h).elim
  | .py _ :: _, _, h => (show False from h).elim
theorem intsD_map (ns : List Int) (k : List Int → Prop) : intsD (ns.map .int) k = k ns := by
  induction ns generalizing k with
  | nil => rfl
  | cons d ds ih => exact ih _
theorem strsD_map (ns : List Str) (k : List Str → Prop) : strsD (ns.map .str) k = k ns := by
  induction ns generalizing k with
  | nil => rfl
  | cons d ds ih => exact ih _
section
variable {K : PySem.W.Frag} {am : Am} {H : Hp} {E : Addr → Prop}
theorem lay_ints : ∀ {ns : List Int} {vs : List V}, LayL K H E (ns.map .int) vs → vs = ns.map V.int
  | [], _, h => h
  | n :: ns, _, ⟨v, r, e, h1, h2⟩ => by rw [e, show v = .int n from h1, lay_ints h2]; rfl
theorem lay_strs : ∀ {ns : List Str} {vs : List V}, LayL K H E (ns.map .str) vs → vs = ns.map V.str
  | [], _, h => h
  | n :: ns, _, ⟨v, r, e, h1, h2⟩ => by rw [e, show v = .str n from h1, lay_strs h2]; rfl
theorem ints_lay (ns : List Int) : LayL K H E (ns.map .int) (ns.map V.int) := by
  induction ns with
  | nil => exact rfl
  | cons n ns ih => exact ⟨_, _, rfl, rfl, ih⟩
theorem strs_lay (ns : List Str) : LayL K H E (ns.map .str) (ns.map V.str) := by
  induction ns with
  | nil => exact rfl
  | cons n ns ih => exact ⟨_, _, rfl, rfl, ih⟩
theorem flW_el {w : W} {v : V} {k : V → Prop} (h : flW w k) (hv : VOk K H E w v) : k v ∧ flatV v = true := by
  unfold flW at h
  split at h
  · rename_i x
    split at h
    · rename_i u hu
      cases x <;> first | (cases hu; obtain rfl : v = _ := hv; exact ⟨h, rfl⟩) | cases hu
    · exact h.elim
  · exact h.elim
theorem cWR_el {v : V} {k : W → Prop} (h : cWR v k) : ∃ w, VOk K H E w v ∧ k w := by
  unfold cWR at h
  split at h
  · rename_i w hw
    refine ⟨w, ?_, h⟩
    cases v <;> first | (cases hw; exact rfl) | cases hw
  · exact h.elim
def dI0 (g : Int → Int → V) (x : W) (y : W) (Ω : Om) (Q : DQ) : Prop := intW x fun i => intW y fun j => cWR (g i j) fun w => Q w Ω
instance r_I0 {g : Int → Int → V} : SR2 K am (wI0 g) (dI0 g) := ⟨fun {c T σ Γ Ω H x y wx wy Q R} e hx hy h k => by
  obtain ⟨i, rfl, h_1⟩ := intW_el h
  obtain ⟨j, rfl, h_2⟩ := intW_el h_1
  obtain ⟨w, hw, q⟩ := cWR_el (K := K) (H := H) (E := Ex c Ω) h_2
  obtain rfl : x = .int i := hx
  obtain rfl : y = .int j := hy
  exact k _ _ _ _ q (e.addv hw)⟩
def dIC (C : Int → Int → Prop) (g : Int → Int → V) (x : W) (y : W) (Ω : Om) (Q : DQ) : Prop := intW x fun i => intW y fun j => C i j ∧ cWR (g i j) fun w => Q w Ω
instance r_IC {C : Int → Int → Prop} {g : Int → Int → V} : SR2 K am (wIC C g) (dIC C g) := ⟨fun {c T σ Γ Ω H x y wx wy Q R} e hx hy h k => by
  obtain ⟨i, rfl, h_1⟩ := intW_el h
  obtain ⟨j, rfl, h0, h_2⟩ := intW_el h_1
  obtain ⟨w, hw, q⟩ := cWR_el (K := K) (H := H) (E := Ex c Ω) h_2
  obtain rfl : x = .int i := hx
  obtain rfl : y = .int j := hy
  exact ⟨h0, k _ _ _ _ q (e.addv hw)⟩⟩
def dEq (neg : Bool) (x : W) (y : W) (Ω : Om) (Q : DQ) : Prop := flW x fun u => flW y fun v => scal u v = true ∧ Q (.sh (.bl (if neg then !decide (u = v) else decide (u = v)))) Ω
instance r_eq : SR2 K am rEq (dEq false) := ⟨fun {c T σ Γ Ω H x y wx wy Q R} e hx hy h k => by
  obtain ⟨h, _⟩ := flW_el h hx
  obtain ⟨h, _⟩ := flW_el h hy
  exact ⟨h.1, k _ _ _ _ h.2 (e.addv rfl)⟩⟩
instance r_ne : SR2 K am rNe (dEq true) := ⟨fun {c T σ Γ Ω H x y wx wy Q R} e hx hy h k => by
  obtain ⟨h, _⟩ := flW_el h hx
  obtain ⟨h, _⟩ := flW_el h hy
  exact ⟨h.1, k _ _ _ _ h.2 (e.addv rfl)⟩⟩
def wIsN (neg : Bool) : R2 := fun x y H Q => y = .non ∧ Q (.bl (if neg then !decide (x = .non) else decide (x = .non))) H
theorem o_isN {X : Cx} : OpR X (compareOp .Is) (wIsN false) := op_isN
theorem o_notN {X : Cx} : OpR X (compareOp .IsNot) (wIsN true) := op_notN
def isNonW : W → Bool
  | .sh .non => true
  | _ => false
theorem isNon_iff {w : W} {v : V} (h : VOk K H E w v) (hp : ∀ d, w ≠ .sh (.py d)) : decide (v = .non) = isNonW w := by
  cases w with
  | pt p => rw [show v = .ref p from h]; rfl
  | ty n => rw [show v = .ty n from h]; rfl
  | sh x =>
    cases x with
    | non => rw [show v = .non from h]; rfl
    | bl b => rw [show v = .bl b from h]; rfl
    | int b => rw [show v = .int b from h]; rfl
    | str b => rw [show v = .str b from h]; rfl
    | tup xs => obtain ⟨a, vs, rfl, _⟩ := h; rfl
    | lst xs => obtain ⟨a, vs, rfl, _⟩ := h; rfl
    | dic ks xs => obtain ⟨a, vs, rfl, _⟩ := h; rfl
    | py d => exact absurd rfl (hp d)
    | nt ns => obtain ⟨a, ob, rfl, _⟩ := h; rfl
def noPy (w : W) : Prop := match w with | .sh (.py _) => False | _ => True
def dIsN (neg : Bool) (x : W) (y : W) (Ω : Om) (Q : DQ) : Prop := (isNonW y = true ∧ noPy x) ∧ Q (.sh (.bl (if neg then !isNonW x else isNonW x))) Ω
instance r_isN {neg : Bool} : SR2 K am (wIsN neg) (dIsN neg) := ⟨fun {c T σ Γ Ω H x y wx wy Q R} e hx hy h k => by
  obtain ⟨⟨h1, hp⟩, h_1⟩ := h
  have hp' : ∀ d, wx ≠ .sh (.py d) := fun d z => by rw [z] at hp; exact hp
  have hy' : wy = .sh .non := by
    cases wy with
    | sh y' => cases y' <;> first | rfl | cases h1
    | pt p => cases h1
    | ty n => cases h1
  rw [hy'] at hy
  refine ⟨hy, ?_⟩
  rw [isNon_iff hx hp']
  exact k _ _ _ _ h_1 (e.addv rfl)⟩
def dAddS (x : W) (y : W) (Ω : Om) (Q : DQ) : Prop := strW x fun i => strW y fun j => i.length + j.length ≤ sizeLine ∧ Q (.sh (.str (i ++ j))) Ω
instance r_addS : SR2 K am wAddS dAddS := ⟨fun {c T σ Γ Ω H x y wx wy Q R} e hx hy h k => by
  obtain ⟨i, rfl, h_1⟩ := strW_el h
  obtain ⟨j, rfl, h0, h_2⟩ := strW_el h_1
  obtain rfl : x = .str i := hx
  obtain rfl : y = .str j := hy
  exact ⟨h0, k _ _ _ _ h_2 (e.addv rfl)⟩⟩
def dMulS (x : W) (y : W) (Ω : Om) (Q : DQ) : Prop := strW x fun i => intW y fun j => MulOk i j ∧ Q (.sh (.str (Txt.mul i j))) Ω
instance r_mulS : SR2 K am wMulS dMulS := ⟨fun {c T σ Γ Ω H x y wx wy Q R} e hx hy h k => by
  obtain ⟨i, rfl, h_1⟩ := strW_el h
  obtain ⟨j, rfl, h0, h_2⟩ := intW_el h_1
  obtain rfl : x = .str i := hx
  obtain rfl : y = .int j := hy
  exact ⟨h0, k _ _ _ _ h_2 (e.addv rfl)⟩⟩
def dCat (x : W) (y : W) (Ω : Om) (Q : DQ) : Prop := seqW Ω x fun ws => seqW Ω y fun us => shsW ws fun ds => shsW us fun es => lenOk (ds ++ es) ∧ Q (.sh (.lst (ds ++ es))) Ω
instance r_cat : SR2 K am wCat dCat := ⟨fun {c T σ Γ Ω H x y wx wy Q R} e hx hy h k => by
  obtain ⟨a, vs, ws, rfl, ha, hv, h_1⟩ := seqW_el e hx h
  obtain ⟨b, ts, us, rfl, hb, ht, h_2⟩ := seqW_el e hy h_1
  obtain ⟨ds, rfl, h_3⟩ := shsW_el h_2
  obtain ⟨es, rfl, hl, h_4⟩ := shsW_el h_3
  have n1 := hv.lay.len
  have n2 := ht.lay.len
  show lstO (H a) _
  rw [ha]
  show lstO (H b) _
  rw [hb]
  refine ⟨by rw [← n1, ← n2, ← List.length_append]; exact hl, fun p hp => k _ _ _ _ h_4 (e.lst hp ?_)⟩
  have := hv.app ht
  rw [← List.map_append] at this
  exact this.lay⟩
def dCatT (x : W) (y : W) (Ω : Om) (Q : DQ) : Prop := tup0W x fun ds => tup0W y fun es => lenOk (ds ++ es) ∧ Q (.sh (.tup (ds ++ es))) Ω
instance r_catA : SR2 K am (rCatA K) dCatT := ⟨fun {c T σ Γ Ω H x y wx wy Q R} e hx hy h k => by
  obtain ⟨ds, rfl, h_1⟩ := tup0W_el h
  obtain ⟨es, rfl, hl, h_2⟩ := tup0W_el h_1
  obtain ⟨a, vs, rfl, na, ha, hv⟩ := hx
  obtain ⟨b, ts, rfl, nb, hb, ht⟩ := hy
  have n1 := hv.len
  have n2 := ht.len
  refine ⟨a, b, vs, ts, rfl, rfl, SqT.of ha, SqT.of hb, by rw [← n1, ← n2, ← List.length_append]; exact hl, fun z => ?_, fun _ z => ?_, fun _ _ p hp => k _ _ _ _ h_2 (e.tup hp ?_)⟩
  · subst z
    have : ds = [] := List.eq_nil_of_length_eq_zero n1
    subst this
    exact k _ _ _ _ h_2 (e.addv ⟨b, ts, rfl, nb, hb, ht⟩)
  · subst z
    have : es = [] := List.eq_nil_of_length_eq_zero n2
    subst this
    rw [List.append_nil] at h_2
    exact k _ _ _ _ h_2 (e.addv ⟨a, vs, rfl, na, ha, hv⟩)
  · have := (VOks.sh_of hv).app (VOks.sh_of ht)
    rw [← List.map_append] at this
    exact this.lay⟩
/-- x in a tuple of flat things -/
def dInT (neg : Bool) (x : W) (y : W) (Ω : Om) (Q : DQ) : Prop := flW x fun u => tupW y fun ds => flsD ds fun vs => Q (.sh (.bl (if neg then !inV u vs else inV u vs))) Ω
where flsD : List D → (List V → Prop) → Prop
  | [], k => k []
  | x :: r, k => match flV x with
    | some v => flsD r fun vs => k (v :: vs)
    | none => False
theorem flsD_el : ∀ {ds : List D} {vs : List V} {k : List V → Prop}, dInT.flsD ds k → LayL K H E ds vs → k vs ∧ vs.all flatV = true
  | [], _, k, h, hv => by rw [show _ = [] from hv]; exact ⟨h, rfl⟩
  | x :: r, _, k, h, ⟨v, rs, e, h1, h2⟩ => by
    unfold dInT.flsD at h
    cases q : flV x with
    | none => rw [q] at h; exact h.elim
    | some u =>
      rw [q] at h
      obtain ⟨a, b⟩ := flsD_el h h2
      have eu : u = v ∧ flatV v = true := by cases x <;> first | (cases q; exact ⟨Eq.symm h1, by rw [show v = _ from h1]; rfl⟩) | cases q
      rw [e, ← eu.1]
      refine ⟨a, ?_⟩
      rw [List.all_cons, b, eu.1, eu.2]
      rfl
instance r_inT {neg : Bool} : SR2 K am (wInT neg) (dInT neg) := ⟨fun {c T σ Γ Ω H x y wx wy Q R} e hx hy h k => by
  obtain ⟨g1, f1⟩ := flW_el h hx
  obtain ⟨a, vs, ds, rfl, ha, hl, g2⟩ := tupW_at hy g1
  obtain ⟨g3, f2⟩ := flsD_el g2 hl
  show tupO (H a) _
  exact rd_tupO ha ⟨⟨f1, f2⟩, k _ _ _ _ g3 (e.addv rfl)⟩⟩
/-- x in a list of ints -/
def wInLI : R2 := fun x y H Q => intR x fun i => refR y fun p => lstO (H p) fun xs => ∃ ns : List Int, xs = ns.map V.int ∧ Q (.bl (decide (i ∈ ns))) H
theorem inV_ints (i : Int) (ns : List Int) : inV (.int i) (ns.map V.int) = decide (i ∈ ns) := by
  unfold inV
  induction ns with
  | nil => rfl
  | cons n ns ih =>
    rw [List.map_cons, List.any_cons, ih]
    have : eqV (.int n) (.int i) = decide (n = i) := by
      rw [Bool.eq_iff_iff]
      simp [eqV]
    rw [this]
    by_cases z : n = i
    · simp [z]
    · have : ¬ i = n := fun h => z h.symm
      simp [z, this]
theorem flat_ints (ns : List Int) : (ns.map V.int).all flatV = true := by
  induction ns with
  | nil => rfl
  | cons n ns ih => rw [List.map_cons, List.all_cons, ih]; rfl
theorem o_inLI {X : Cx} : OpR X (compareOp .In) wInLI := im_op op_in_seq fun x y H Q z => by
  obtain ⟨i, rfl, z⟩ := intR_el z
  obtain ⟨p, rfl, z⟩ := refR_el z
  obtain ⟨xs, e, ns, rfl, z⟩ := lstO_el z
  refine ⟨p, _, rfl, .inl (SqL.of e), rfl, flat_ints ns, ?_⟩
  simp only [Bool.false_eq_true, if_false, inV_ints]
  exact z
def dInLI (x : W) (y : W) (Ω : Om) (Q : DQ) : Prop := intW x fun i => seqW Ω y fun ws => shsW ws fun ds => intsD ds fun ns => Q (.sh (.bl (decide (i ∈ ns)))) Ω
instance r_inLI : SR2 K am wInLI dInLI := ⟨fun {c T σ Γ Ω H x y wx wy Q R} e hx hy h k => by
  obtain ⟨i, rfl, h_1⟩ := intW_el h
  obtain ⟨a, vs, ws, rfl, ha, hv, h_2⟩ := seqW_el e hy h_1
  obtain ⟨ds, rfl, h_3⟩ := shsW_el h_2
  obtain ⟨ns, rfl, h_4⟩ := intsD_el h_3
  obtain rfl : x = .int i := hx
  show lstO (H a) _
  rw [ha]
  exact ⟨ns, lay_ints hv.lay, k _ _ _ _ h_4 (e.addv rfl)⟩⟩
/-- x in a tuple of ints -/
def wInTI : R2 := fun x y H Q => intR x fun i => refR y fun p => tupO (H p) fun xs => ∃ ns : List Int, xs = ns.map V.int ∧ Q (.bl (decide (i ∈ ns))) H
theorem o_inTI {X : Cx} : OpR X (compareOp .In) wInTI := im_op op_in_seq fun x y H Q z => by
  obtain ⟨i, rfl, z⟩ := intR_el z
  obtain ⟨p, rfl, z⟩ := refR_el z
  obtain ⟨xs, e, ns, rfl, z⟩ := tupO_el z
  refine ⟨p, _, rfl, .inr (.inl e), rfl, flat_ints ns, ?_⟩
  simp only [Bool.false_eq_true, if_false, inV_ints]
  exact z
def dInTI (x : W) (y : W) (Ω : Om) (Q : DQ) : Prop := intW x fun i => tupW y fun ds => intsD ds fun ns => Q (.sh (.bl (decide (i ∈ ns)))) Ω
instance r_inTI : SR2 K am wInTI dInTI := ⟨fun {c T σ Γ Ω H x y wx wy Q R} e hx hy h k => by
  obtain ⟨i, rfl, h_1⟩ := intW_el h
  obtain ⟨a, vs, ds, rfl, ha, hv, h_2⟩ := tupW_at hy h_1
  obtain ⟨ns, rfl, h_3⟩ := intsD_el h_2
  obtain rfl : x = .int i := hx
  show tupO (H a) _
  exact rd_tupO ha ⟨ns, lay_ints hv, k _ _ _ _ h_3 (e.addv rfl)⟩⟩
def wInS : R2 := fun x y H Q => ∃ i j, x = .str i ∧ y = .str j ∧ Q (.bl (!(Builtin.Str.occurrences j i 0 j.length 1).isEmpty)) H
theorem o_inS {X : Cx} : OpR X (compareOp .In) wInS := op_in_str
def dInS (x : W) (y : W) (Ω : Om) (Q : DQ) : Prop := strW x fun i => strW y fun j => Q (.sh (.bl (!(Builtin.Str.occurrences j i 0 j.length 1).isEmpty))) Ω
instance r_inS : SR2 K am wInS dInS := ⟨fun {c T σ Γ Ω H x y wx wy Q R} e hx hy h k => by
  obtain ⟨i, rfl, h_1⟩ := strW_el h
  obtain ⟨j, rfl, h_2⟩ := strW_el h_1
  exact ⟨i, j, hx, hy, k _ _ _ _ h_2 (e.addv rfl)⟩⟩
/-! subscripts -/
def atR {α : Type} (xs : List α) (i : Int) (k : α → Prop) : Prop := match L2.atI xs i with | some v => k v | none => False
theorem atR_el {α : Type} {xs : List α} {i : Int} {k : α → Prop} (h : atR xs i k) : ∃ v, L2.atI xs i = some v ∧ k v := by
  unfold atR at h
  split at h
  · exact ⟨_, ‹_›, h⟩
  · exact h.elim
def dIxL (x : W) (y : W) (Ω : Om) (Q : DQ) : Prop := seqW Ω x fun ws => intW y fun i => atR ws i fun w => Q w Ω
instance r_ixL : SR2 K am wIxL dIxL := ⟨fun {c T σ Γ Ω H x y wx wy Q R} e hx hy h k => by
  obtain ⟨a, vs, ws, rfl, ha, hv, h_1⟩ := seqW_el e hx h
  obtain ⟨i, rfl, h_2⟩ := intW_el h_1
  obtain ⟨w, hw, h_3⟩ := atR_el h_2
  obtain rfl : y = .int i := hy
  obtain ⟨v, h1, h2⟩ := hv.atI hw
  show lstO (H a) _
  rw [ha]
  show optR _ _
  rw [h1]
  exact k _ _ _ _ h_3 (e.addv h2)⟩
def dIxT (x : W) (y : W) (Ω : Om) (Q : DQ) : Prop := tupW x fun ds => intW y fun i => atR ds i fun d => Q (.sh d) Ω
theorem atI_map {α β : Type} (f : α → β) (xs : List α) (i : Int) : L2.atI (xs.map f) i = (L2.atI xs i).map f := by
  unfold L2.atI
  rw [List.length_map]
  cases ixN xs.length i with
  | none => rfl
  | some j => simp
instance r_ixT : SR2 K am wIxT dIxT := ⟨fun {c T σ Γ Ω H x y wx wy Q R} e hx hy h k => by
  obtain ⟨a, vs, ds, rfl, ha, hv, h_1⟩ := tupW_at hx h
  obtain ⟨i, rfl, h_2⟩ := intW_el h_1
  obtain ⟨d, hw, h_3⟩ := atR_el h_2
  obtain rfl : y = .int i := hy
  obtain ⟨v, h1, h2⟩ := (VOks.sh_of hv).atI (w := .sh d) (i := i) (by rw [atI_map, hw]; rfl)
  show tupO (H a) _
  refine rd_tupO ha ?_
  show optR _ _
  rw [h1]
  exact k _ _ _ _ h_3 (e.addv h2)⟩
def dIxS (x : W) (y : W) (Ω : Om) (Q : DQ) : Prop := strW x fun z => intW y fun i => z.length ≤ sizeLine ∧ atR z.cps.toList i fun c => Q (.sh (.str ⟨#[c]⟩)) Ω
instance r_ixS : SR2 K am wIxS dIxS := ⟨fun {c T σ Γ Ω H x y wx wy Q R} e hx hy h k => by
  obtain ⟨z, rfl, h_1⟩ := strW_el h
  obtain ⟨i, rfl, h0, h_2⟩ := intW_el h_1
  obtain ⟨d, hw, h_3⟩ := atR_el h_2
  obtain rfl : x = .str z := hx
  obtain rfl : y = .int i := hy
  refine ⟨h0, ?_⟩
  show optR _ _
  rw [hw]
  exact k _ _ _ _ h_3 (e.addv rfl)⟩
def dNeg (x : W) (Ω : Om) (Q : DQ) : Prop := intW x fun i => Q (.sh (.int (-i))) Ω
instance r_neg : SR1 K am wNeg dNeg := ⟨fun {c T σ Γ Ω H x wx Q R} e hx h k => by
  obtain ⟨i, rfl, h_1⟩ := intW_el h
  obtain rfl : x = .int i := hx
  exact k _ _ _ _ h_1 (e.addv rfl)⟩
theorem q_setOwn {X : Cx} {st : Stmt} {te : TE} {g : TG} (h : PS X st (tAsg te g)) : PS X st (tAsg (ownE te) g) := h
theorem q_starT {X : Cx} {e : Expr} {es : List Expr} {te : TE} {t : TA} {p : Pos} (he : PE X e te) (hr : PA X es t) (hs : starEach (.Starred e p :: es) X.env = (true, eval e X.env) :: starEach es X.env := by rfl) : PA X (.Starred e p :: es) (vStarT te t) := by
  refine ⟨fun pos pins s σ H Q I h => PySem.W.items_star (thn (he.run pins s σ H _ I h) fun v s1 z => ?_) hs⟩
  obtain ⟨y, H1, I1, ry, z1⟩ := z
  obtain ⟨a, ey, z2⟩ := refR_el z1
  obtain ⟨xs, hx, q⟩ := tupO_el z2
  subst ey
  obtain rfl : v = Value.ref a := ry
  refine StX.star_any I1 (.inl (.inl hx)) fun us s2 I2 rv => thn (hr.run pos pins s2 σ H1 _ I2 q) fun ws s3 z => ?_
  obtain ⟨vs, H3, I3, r3, q3⟩ := z
  exact ⟨xs ++ vs, H3, I3, rv.append r3, q3⟩
/-! slices -/
class SO (K : PySem.W.Frag) (am : Am) (to : TO) (d : outParam (Gm → Om → (Option Int → Om → Prop) → Prop)) : Prop where
  run : ∀ {c : Cq am} {T : List Tp} {σ : L2.St} {Γ : Gm} {Ω : Om} {H : Hp} {Q : Option Int → Om → Prop} {R : Option Int → Hp → Prop}, DEnv K c T σ Γ Ω H → d Γ Ω Q → (∀ o Ω' H', Q o Ω' → DEnv K c T σ Γ Ω' H' → R o H') → to σ H R
def dNoPart (_Γ0 : Gm) (Ω : Om) (Q : Option Int → Om → Prop) : Prop := Q none Ω
instance s_nopart : SO K am tNoPart dNoPart := ⟨fun {c T σ Γ Ω H Q R} e h k => k _ _ _ h e⟩
def dPart (da : DT) (Γ : Gm) (Ω : Om) (Q : Option Int → Om → Prop) : Prop := da Γ Ω fun x Ω1 => intW x fun i => Q (some i) Ω1
instance s_part {ta : TE} {da : DT} [s1 : SE K am ta da] : SO K am (vPart ta) (dPart da) := ⟨fun {c T σ Γ Ω H Q R} e h k =>
  s1.run e h fun x wx Ω1 H1 h1 e1 => by
    obtain ⟨i, rfl, h2⟩ := intW_el h1
    obtain rfl : x = .int i := e1.hd
    exact k _ _ _ h2 e1.drop⟩
class SRS (K : PySem.W.Frag) (am : Am) (r : V → Option Int → Option Int → Hp → VK → Prop) (d : outParam (W → Option Int → Option Int → Om → DQ → Prop)) : Prop where
  run : ∀ {c : Cq am} {T : List Tp} {σ : L2.St} {Γ : Gm} {Ω : Om} {H : Hp} {x : V} {wx : W} {lo hi : Option Int} {Q : DQ} {R : VK}, DEnv K c T σ Γ Ω H → VOk K H (Ex c Ω) wx x → d wx lo hi Ω Q → (∀ v w Ω' H', Q w Ω' → DEnv K c (.v w v :: T) σ Γ Ω' H' → R v H') → r x lo hi H R
def dSl (r : W → Option Int → Option Int → Om → DQ → Prop) (da : DT) (dl dh : Gm → Om → (Option Int → Om → Prop) → Prop) (Γ : Gm) (Ω : Om) (Q : DQ) : Prop := da Γ Ω fun x Ω1 => dl Γ Ω1 fun l Ω2 => dh Γ Ω2 fun u Ω3 => r x l u Ω3 Q
instance s_sl {r : V → Option Int → Option Int → Hp → VK → Prop} {d : W → Option Int → Option Int → Om → DQ → Prop} {ta : TE} {da : DT} {tl th : TO} {dl dh : Gm → Om → (Option Int → Om → Prop) → Prop} [s1 : SE K am ta da] [s2 : SO K am tl dl] [s3 : SO K am th dh] [s4 : SRS K am r d] : SE K am (tSl r ta tl th) (dSl d da dl dh) := ⟨fun {c T σ Γ Ω H Q R} e h k =>
  s1.run e h fun x wx Ω1 H1 h1 e1 => s2.run e1 h1 fun l Ω2 H2 h2 e2 => s3.run e2 h2 fun u Ω3 H3 h3 e3 => s4.run e3.drop e3.hd h3 k⟩
def cutA {α : Type} (xs : List α) (lo hi : Option Int) : List α := (xs.drop (HT.sIx xs.length 0 lo)).take (HT.sIx xs.length xs.length hi - HT.sIx xs.length 0 lo)
theorem cut_oks {ws : List W} {vs : List V} (h : VOks K H E ws vs) (lo hi : Option Int) : VOks K H E (cutA ws lo hi) (cutV vs lo hi) := by
  unfold cutA cutV
  rw [h.len]
  exact (h.drop _).take _
theorem cutA_map {α β : Type} (f : α → β) (xs : List α) (lo hi : Option Int) : cutA (xs.map f) lo hi = (cutA xs lo hi).map f := by
  unfold cutA
  rw [List.length_map, List.map_take, List.map_drop]
def dSlL (x : W) (lo : Option Int) (hi : Option Int) (Ω : Om) (Q : DQ) : Prop := seqW Ω x fun ws => shsW ws fun ds => Q (.sh (.lst (cutA ds lo hi))) Ω
instance r_slL : SRS K am wSlL dSlL := ⟨fun {c T σ Γ Ω H x wx lo hi Q R} e hx h k => by
  obtain ⟨a, vs, ws, rfl, ha, hv, h_1⟩ := seqW_el e hx h
  obtain ⟨ds, rfl, h_2⟩ := shsW_el h_1
  show lstO (H a) _
  rw [ha]
  intro p hp
  have := cut_oks hv lo hi
  rw [cutA_map] at this
  exact k _ _ _ _ h_2 (e.lst hp this.lay)⟩
def dSlT (x : W) (lo : Option Int) (hi : Option Int) (Ω : Om) (Q : DQ) : Prop := tup0W x fun ds => Q (.sh (.tup (cutA ds lo hi))) Ω
instance r_slA : SRS K am (rSlA K) dSlT := ⟨fun {c T σ Γ Ω H x wx lo hi Q R} e hx h k => by
  obtain ⟨ds, rfl, h_1⟩ := tup0W_el h
  obtain ⟨a, vs, rfl, na, ha, hv⟩ := hx
  have n1 := hv.len
  refine ⟨a, vs, rfl, SqT.of ha, fun z => ?_, fun z p hp => ?_⟩
  · have e1 : cutA ds lo hi = ds := by
      unfold cutA
      rw [n1, z.1, z.2, List.drop_zero, Nat.sub_zero, ← n1, List.take_length]
    rw [e1] at h_1
    exact k _ _ _ _ h_1 (e.addv ⟨a, vs, rfl, na, ha, hv⟩)
  · have := cut_oks (VOks.sh_of hv) lo hi
    rw [cutA_map] at this
    exact k _ _ _ _ h_1 (e.tup hp this.lay)⟩
def dSlS (x : W) (lo : Option Int) (hi : Option Int) (Ω : Om) (Q : DQ) : Prop := strW x fun z => z.length ≤ sizeLine ∧ Q (.sh (.str (cutS z lo hi))) Ω
instance r_slS : SRS K am rSlS dSlS := ⟨fun {c T σ Γ Ω H x wx lo hi Q R} e hx h k => by
  obtain ⟨z, rfl, h0, h_1⟩ := strW_el h
  exact ⟨z, hx, h0, k _ _ _ _ h_1 (e.addv rfl)⟩⟩
def dRev (da : DT) (Γ : Gm) (Ω : Om) (Q : DQ) : Prop := da Γ Ω fun x Ω1 => seqW Ω1 x fun ws => shsW ws fun ds => Q (.sh (.lst ds.reverse)) Ω1
instance s_rev {ta : TE} {da : DT} [s1 : SE K am ta da] : SE K am (vRev ta) (dRev da) := ⟨fun {c T σ Γ Ω H Q R} e h k =>
  s1.run e h fun x wx Ω1 H1 h1 e1 => by
    obtain ⟨a, vs, ws, rfl, ha, hv, h⟩ := seqW_el e1.drop e1.hd h1
    obtain ⟨ds, rfl, h_1⟩ := shsW_el h
    show lstO (H1 a) _
    rw [ha]
    intro p hp
    have := hv.rev
    rw [← List.map_reverse] at this
    exact k _ _ _ _ h_1 (e1.drop.lst hp this.lay)⟩
/-! dicts -/
def dvalR (ks : List Key) (ws : List W) (x : Key) (k : W → Prop) : Prop := match dval ks ws x with | some w => k w | none => False
def dDGet (da db : DT) (Γ : Gm) (Ω : Om) (Q : DQ) : Prop := da Γ Ω fun x Ω1 => db Γ Ω1 fun y Ω2 => dicW Ω2 x fun ks ws => keyW y fun q => dvalR ks ws q fun w => Q w Ω2
theorem rd_dkR {a : Addr} {kvs : List (Key × V)} {k : List (Key × V) → Prop} (h : Rd H a (.dK kvs)) (z : k kvs) : dkR (H a) k := by
  rcases h with h | ⟨o, h⟩
  · rw [h]; exact z
  · rw [h]; exact z
theorem keyR_k {k : Key → Prop} (q : Key) (h : k q) : keyR (kV q) k := by cases q <;> exact h
instance s_dget {ta tb : TE} {da db : DT} [s1 : SE K am ta da] [s2 : SE K am tb db] : SE K am (vDGet ta tb) (dDGet da db) := ⟨fun {c T σ Γ Ω H Q R} e h k =>
  s1.run e h fun x wx Ω1 H1 h1 e1 => s2.run e1 h1 fun y wy Ω2 H2 h2 e2 => by
    obtain ⟨a, ks, vs, ws, rfl, ha, hn, hv, h⟩ := dicW_el e2.drop.drop e2.drop.hd h2
    obtain ⟨q, rfl, h_1⟩ := keyW_el h e2.hd
    unfold dvalR at h_1
    split at h_1
    · rename_i w hw
      obtain ⟨v, g1, g2⟩ := valV_zip hv hw
      refine rd_dkR ha (keyR_k q ?_)
      show optR _ _
      rw [g1]
      exact k _ _ _ _ h_1 (e2.drop.drop.addv g2)
    · exact h_1.elim⟩
def hasK (ks : List Key) (q : Key) : Bool := ks.any fun x => decide (x = q)
def dDIn (neg : Bool) (da db : DT) (Γ : Gm) (Ω : Om) (Q : DQ) : Prop := da Γ Ω fun y Ω1 => db Γ Ω1 fun x Ω2 => dicW Ω2 x fun ks ws => keyW y fun q => Q (.sh (.bl (if neg then !hasK ks q else hasK ks q))) Ω2
instance s_din {ta tb : TE} {da db : DT} [s1 : SE K am ta da] [s2 : SE K am tb db] : SE K am (vDIn ta tb) (dDIn false da db) := ⟨fun {c T σ Γ Ω H Q R} e h k =>
  s1.run e h fun y wy Ω1 H1 h1 e1 => s2.run e1 h1 fun x wx Ω2 H2 h2 e2 => by
    obtain ⟨a, ks, vs, ws, rfl, ha, hn, hv, h⟩ := dicW_el e2.drop.drop e2.hd h2
    obtain ⟨q, rfl, h_1⟩ := keyW_el h e2.drop.hd
    refine rd_dkR ha (keyR_k q ?_)
    rw [valV_zipN hn hv]
    exact k _ _ _ _ h_1 (e2.drop.drop.addv rfl)⟩
instance s_dnotin {ta tb : TE} {da db : DT} [s1 : SE K am ta da] [s2 : SE K am tb db] : SE K am (vDNotIn ta tb) (dDIn true da db) := ⟨fun {c T σ Γ Ω H Q R} e h k =>
  s1.run e h fun y wy Ω1 H1 h1 e1 => s2.run e1 h1 fun x wx Ω2 H2 h2 e2 => by
    obtain ⟨a, ks, vs, ws, rfl, ha, hn, hv, h⟩ := dicW_el e2.drop.drop e2.hd h2
    obtain ⟨q, rfl, h_1⟩ := keyW_el h e2.drop.hd
    refine rd_dkR ha (keyR_k q ?_)
    rw [valV_zipN hn hv]
    exact k _ _ _ _ h_1 (e2.drop.drop.addv rfl)⟩
def dDNew (_Γ0 : Gm) (Ω : Om) (Q : DQ) : Prop := ∀ p, notin p Ω → Q (.pt p) ((p, .dic [] []) :: Ω)
instance s_dnew : SE K am (ownE tDNewK) dDNew := ⟨fun {c T σ Γ Ω H Q R} e h k => fun p hp =>
  k _ _ _ _ (h p fun z => e.noEx hp (.inr z)) (e.own hp (e.new hp) (.inr ⟨[], [], [], rfl, rfl, rfl, rfl⟩))⟩
def dDNewS (_Γ0 : Gm) (Ω : Om) (Q : DQ) : Prop := Q (.sh (.dic [] [])) Ω
instance s_dnewS : SE K am tDNewK dDNewS := ⟨fun {c T σ Γ Ω H Q R} e h k => fun p hp =>
  k _ _ _ _ h (e.alloc hp |>.addv ⟨p, [], rfl, e.noEx hp, upd_same, rfl, rfl⟩)⟩
/-- a dict's pairs, one put -/
def putA (ks : List Key) (ws : List W) (q : Key) (w : W) : List Key × List W := if hasK ks q = true then (ks, (ks.zip ws).map fun p => if p.1 = q then w else p.2) else (ks ++ [q], ws ++ [w])
theorem putA_ok : ∀ {ks : List Key} {ws : List W} {vs : List V} (q : Key) {w : W} {v : V}, ks.length = ws.length → VOks K H E ws vs → VOk K H E w v →
    ∃ vs', putK (ks.zip vs) q v = (putA ks ws q w).1.zip vs' ∧ (putA ks ws q w).1.length = (putA ks ws q w).2.length ∧ VOks K H E (putA ks ws q w).2 vs' := by
  intro ks ws vs q w v hn hv hw
  have any_eq : ∀ {ks : List Key} {vs : List V}, ks.length = vs.length → ((ks.zip vs).any fun kv => decide (kv.1 = q)) = hasK ks q := by
    intro ks
    induction ks with
    | nil => intro vs _; rfl
    | cons k ks ih =>
      intro vs h
      cases vs with
      | nil => simp at h
      | cons v vs =>
        unfold hasK at ih ⊢
        rw [List.zip_cons_cons, List.any_cons, List.any_cons, ih (by simpa using h)]
  have n2 : ks.length = vs.length := by rw [hn, hv.len]
  unfold putK putA
  rw [any_eq n2]
  by_cases hb : hasK ks q = true
  · rw [if_pos hb, if_pos hb]
    refine ⟨(ks.zip vs).map fun kv => if kv.1 = q then v else kv.2, ?_, ?_, ?_⟩
    · clear hb hv hw any_eq hn
      induction ks generalizing vs with
      | nil => rfl
      | cons k ks ih =>
        cases vs with
        | nil => simp at n2
        | cons u us =>
          rw [List.zip_cons_cons, List.map_cons, List.map_cons, List.zip_cons_cons, ← ih (by simpa using n2)]
          congr 1
          by_cases z : k = q <;> simp [z]
    · simp [List.length_zip, hn]
    · clear hb any_eq n2
      induction ks generalizing ws vs with
      | nil => exact rfl
      | cons k ks ih =>
        cases ws with
        | nil => simp at hn
        | cons w0 ws =>
          obtain ⟨u, us, rfl, h1, h2⟩ := hv
          rw [List.zip_cons_cons, List.map_cons, List.zip_cons_cons, List.map_cons]
          refine ⟨_, _, rfl, ?_, ih (by simpa using hn) h2⟩
          by_cases z : k = q
          · simp only [z, if_true]; exact hw
          · simp only [z, if_false]; exact h1
  · rw [if_neg hb, if_neg hb]
    exact ⟨vs ++ [v], by rw [List.zip_append n2]; rfl, by simp [hn], hv.app (.one hw)⟩
def dsDPut (dd dk dv : DT) (N : DN) (Γ : Gm) (Ω : Om) : Prop := dv Γ Ω fun v Ω1 => dd Γ Ω1 fun x Ω2 => dk Γ Ω2 fun y Ω3 => ownD Ω3 x fun p ks ws => keyW y fun q => lenLt ks ∧ N.nx Γ (OA.put Ω3 p (.dic (putA ks ws q v).1 (putA ks ws q v).2))
instance s_dput {td ty tv : TE} {dd dk dv : DT} [s1 : SE K am tv dv] [s2 : SE K am td dd] [s3 : SE K am ty dk] : SS K am (vsDPut td ty tv) (dsDPut dd dk dv) := ⟨fun {c T σ Γ Ω H D N} e h o =>
  s1.run e h fun v wv Ω1 H1 h1 e1 => s2.run e1 h1 fun x wx Ω2 H2 h2 e2 => s3.run e2 h2 fun y wy Ω3 H3 h3 e3 => by
    obtain ⟨a, ks, vs, ws, rfl, hl, ha, hn, hv, h⟩ := ownD_el e3 e3.drop.hd h3
    obtain ⟨q, rfl, h0, h_1⟩ := keyW_el h e3.hd
    obtain ⟨vs', g1, g2, g3⟩ := putA_ok q hn hv e3.drop.drop.hd
    show dkO (H3 a) _
    rw [ha]
    refine keyR_k (k := fun q => (ks.zip vs).length < sizeLine ∧ D.nx σ (upd H3 a (.dK (putK (ks.zip vs) q v)))) q ⟨?_, o.nx _ _ _ _ h_1 (e3.drop.drop.drop.putD hl g1 g2 g3)⟩
    rw [List.length_zip, ← hv.len, hn, Nat.min_self, ← hn]
    exact h0⟩
/-! stores into lists -/
def dgSub (r : W → W → W → Om → (Om → Prop) → Prop) (do_ di : DT) (w : W) (Γ : Gm) (Ω : Om) (Q : Gm → Om → Prop) : Prop := do_ Γ Ω fun x Ω1 => di Γ Ω1 fun y Ω2 => r x y w Ω2 fun Ω3 => Q Γ Ω3
def dSetL (x : W) (y : W) (w : W) (Ω : Om) (Q : Om → Prop) : Prop := ownL Ω x fun p ws => intW y fun i => match ixN ws.length i with | some j => Q (OA.put Ω p (.lst (ws.set j w))) | none => False
instance s_gsub {to ti : TE} {do_ di : DT} [s1 : SE K am to do_] [s2 : SE K am ti di] : SG K am (gSub to ti wSetL) (dgSub dSetL do_ di) [] := ⟨fun {c T σ Γ Ω H v w Q R} e hv h k =>
  s1.run (T := .v w v :: T) (e.addv hv) h fun x wx Ω1 H1 h1 e1 => s2.run e1 h1 fun y wy Ω2 H2 h2 e2 => by
    obtain ⟨a, vs, ws, rfl, hl, ha, hs, h⟩ := ownL_el e2 e2.drop.hd h2
    obtain ⟨i, rfl, h_1⟩ := intW_el h
    obtain rfl : y = .int i := e2.hd
    show lstO (H2 a) _
    rw [ha]
    show optR _ _
    rw [← hs.len]
    split at h_1
    · rename_i j hj
      rw [hj]
      exact k _ _ _ _ h_1 (e2.drop.drop.drop.putL hl (hs.set j e2.drop.drop.hd)) (fun _ _ => rfl)
    · exact h_1.elim⟩
/-! methods of lists -/
def isLW (Ω : Om) (w : W) : Prop := seqW Ω w fun _ => True
theorem isL_of {c : Cq am} {T : List Tp} {σ : L2.St} {Γ : Gm} {Ω : Om} {w : W} {v : V} (e : DEnv K c T σ Γ Ω H) (hv : VOk K H (Ex c Ω) w v) (h : isLW Ω w) : isLst H v := by
  obtain ⟨a, vs, ws, rfl, ha, _, _⟩ := seqW_el e hv h
  show lstO (H a) _
  rw [ha]
  exact True.intro
def dLM (r : DRM) (do_ : DT) (das : DA) (Γ : Gm) (Ω : Om) (Q : DQ) : Prop := do_ Γ Ω fun w Ω1 => isLW Ω1 w ∧ das Γ Ω1 fun ws Ω2 => r w ws Ω2 Q
instance s_lm {r : V → List V → Hp → VK → Prop} {d : DRM} {to : TE} {do_ : DT} {t : TA} {das : DA} [s1 : SE K am to do_] [s2 : SA K am t das] [s3 : SRM K am r d] : SE K am (vLM r to t) (dLM d do_ das) := ⟨fun {c T σ Γ Ω H Q R} e h k =>
  s1.run e h fun x wx Ω1 H1 h1 e1 => ⟨isL_of e1 e1.hd h1.1, s2.run e1 h1.2 fun vs ws Ω2 H2 h2 e2 hv => s3.run e2.drop e2.hd hv h2 k⟩⟩
def dLM0 (r : DRM) (do_ : DT) (Γ : Gm) (Ω : Om) (Q : DQ) : Prop := do_ Γ Ω fun w Ω1 => isLW Ω1 w ∧ r w [] Ω1 Q
instance s_lm0 {r : V → List V → Hp → VK → Prop} {d : DRM} {to : TE} {do_ : DT} [s1 : SE K am to do_] [s3 : SRM K am r d] : SE K am (vLM0 r to) (dLM0 d do_) := ⟨fun {c T σ Γ Ω H Q R} e h k =>
  s1.run e h fun x wx Ω1 H1 h1 e1 => ⟨isL_of e1 e1.hd h1.1, s3.run (ws := []) e1.drop e1.hd rfl h1.2 k⟩⟩
def dAppend (w : W) (ws : List W) (Ω : Om) (Q : DQ) : Prop := ownL Ω w fun p xs => one1W ws fun y => lenLt xs ∧ Q (.sh .non) (OA.put Ω p (.lst (xs ++ [y])))
instance r_append : SRM K am wAppend dAppend := ⟨fun {c T σ Γ Ω H x w xs ws Q R} e hx hs h k => by
  obtain ⟨a, vs, us, rfl, hl, ha, hv, h_1⟩ := ownL_el e hx h
  obtain ⟨y, v, rfl, hy, h0, h_2⟩ := one1W_el h_1 hs
  show lstO (H a) _
  rw [ha]
  exact ⟨by rw [← hv.len]; exact h0, k _ _ _ _ h_2 ((e.putL hl (hv.app (.one hy))).addv rfl)⟩⟩
def dPopAt (w : W) (ws : List W) (Ω : Om) (Q : DQ) : Prop := ownL Ω w fun p xs => one1W ws fun y => intW y fun i => (0 ≤ i ∧ i < 2 ^ 63) ∧ match xs[i.toNat]? with | some u => Q u (OA.put Ω p (.lst (xs.eraseIdx i.toNat))) | none => False
instance r_popAt : SRM K am wPopAt dPopAt := ⟨fun {c T σ Γ Ω H x w xs ws Q R} e hx hs h k => by
  obtain ⟨a, vs, us, rfl, hl, ha, hv, h_1⟩ := ownL_el e hx h
  obtain ⟨y, v, rfl, hy, h_2⟩ := one1W_el h_1 hs
  obtain ⟨i, rfl, h0, h_3⟩ := intW_el h_2
  obtain rfl : v = .int i := hy
  show lstO (H a) _
  rw [ha]
  refine ⟨h0, ?_⟩
  split at h_3
  · rename_i u hu
    obtain ⟨z, g1, g2⟩ := hv.to _ hu
    show optR _ _
    rw [g1]
    have e2 := (e.addv (w := u) (v := z) g2).putL (ws' := us.eraseIdx i.toNat) (vs' := vs.eraseIdx i.toNat) hl (hv.erase _)
    exact k _ _ _ _ h_3 e2
  · exact h_3.elim⟩
/-! calls of built-ins -/
def lenW (Ω : Om) (w : W) (k : Nat → Prop) : Prop := match w with
  | .sh (.lst xs) => k xs.length
  | .sh (.tup xs) => k xs.length
  | .sh (.nt ns) => k ns.length
  | .sh (.str s) => s.length ≤ sizeLine ∧ k s.length
  | .sh (.dic ks _) => k ks.length
  | .pt p => match look Ω p with
    | some (.lst ws) => k ws.length
    | some (.dic ks _) => k ks.length
    | _ => False
  | _ => False
def dLen (ws : List W) (Ω : Om) (Q : DQ) : Prop := one1W ws fun w => lenW Ω w fun n => Q (.sh (.int n)) Ω
instance r_len : SRC K am lenR dLen := ⟨fun {c T σ Γ Ω H xs ws Q R} e hs h k => by
  obtain ⟨w, v, rfl, hw, h_1⟩ := one1W_el h hs
  unfold lenW at h_1
  split at h_1
  · obtain ⟨a, vs, rfl, n, ha, hl⟩ := hw
    rw [len_r, ha]
    show R (.int vs.length) H
    rw [← hl.len]
    exact k _ _ _ _ h_1 (e.addv rfl)
  · obtain ⟨a, vs, rfl, n, ha, hl⟩ := hw
    rw [len_r, ha]
    show R (.int vs.length) H
    rw [← hl.len]
    exact k _ _ _ _ h_1 (e.addv rfl)
  · obtain ⟨a, ob, rfl, n, ha, _⟩ := hw
    rw [len_r, ha]
    show R (.int (List.length (List.map V.int _))) H
    rw [List.length_map]
    exact k _ _ _ _ h_1 (e.addv rfl)
  · obtain rfl : v = .str _ := hw
    exact ⟨h_1.1, k _ _ _ _ h_1.2 (e.addv rfl)⟩
  · rename_i ks xs
    obtain ⟨a, vs, rfl, n, ha, hn, hl⟩ := hw
    rw [len_r, ha]
    show R (.int (ks.zip vs).length) H
    have : (ks.zip vs).length = ks.length := by rw [List.length_zip, ← hl.len, hn, Nat.min_self]
    rw [this]
    exact k _ _ _ _ h_1 (e.addv rfl)
  · split at h_1
    · rename_i us hl
      obtain ⟨vs, h1, h2⟩ := e.ob _ (look_mem hl)
      obtain rfl : v = .ref _ := hw
      rw [len_r, h1]
      show R (.int vs.length) H
      rw [← h2.len]
      exact k _ _ _ _ h_1 (e.addv rfl)
    · rename_i ks us hl
      obtain ⟨vs, h1, hn, h2⟩ := e.ob _ (look_mem hl)
      obtain rfl : v = .ref _ := hw
      rw [len_r, h1]
      show R (.int (ks.zip vs).length) H
      have : (ks.zip vs).length = ks.length := by rw [List.length_zip, ← h2.len, hn, Nat.min_self]
      rw [this]
      exact k _ _ _ _ h_1 (e.addv rfl)
    · exact h_1.elim
  · exact h_1.elim⟩
def dTupL (ws : List W) (Ω : Om) (Q : DQ) : Prop := one1W ws fun w => seqW Ω w fun us => shsW us fun ds => Q (.sh (.tup ds)) Ω
instance r_tupL : SRC K am wTupL dTupL := ⟨fun {c T σ Γ Ω H xs ws Q R} e hs h k => by
  obtain ⟨w, v, rfl, hw, h_1⟩ := one1W_el h hs
  obtain ⟨a, vs, us, rfl, ha, hv, h_2⟩ := seqW_el e hw h_1
  obtain ⟨ds, rfl, h_3⟩ := shsW_el h_2
  show lstO (H a) _
  rw [ha]
  exact fun l hl => k _ _ _ _ h_3 (e.tup hl hv.lay)⟩
def dLstL (ws : List W) (Ω : Om) (Q : DQ) : Prop := one1W ws fun w => seqW Ω w fun us => shsW us fun ds => Q (.sh (.lst ds)) Ω
instance r_lstL : SRC K am wLstL dLstL := ⟨fun {c T σ Γ Ω H xs ws Q R} e hs h k => by
  obtain ⟨w, v, rfl, hw, h_1⟩ := one1W_el h hs
  obtain ⟨a, vs, us, rfl, ha, hv, h_2⟩ := seqW_el e hw h_1
  obtain ⟨ds, rfl, h_3⟩ := shsW_el h_2
  show lstO (H a) _
  rw [ha]
  exact fun l hl => k _ _ _ _ h_3 (e.lst hl hv.lay)⟩
def dAbs (ws : List W) (Ω : Om) (Q : DQ) : Prop := one1W ws fun w => intW w fun i => Q (.sh (.int (if i < 0 then -i else i))) Ω
instance r_abs : SRC K am wAbs dAbs := ⟨fun {c T σ Γ Ω H xs ws Q R} e hs h k => by
  obtain ⟨w, v, rfl, hw, h_1⟩ := one1W_el h hs
  obtain ⟨i, rfl, h_2⟩ := intW_el h_1
  obtain rfl : v = .int i := hw
  exact k _ _ _ _ h_2 (e.addv rfl)⟩
def dIntB (ws : List W) (Ω : Om) (Q : DQ) : Prop := one1W ws fun w => blW w fun i => Q (.sh (.int (if i then 1 else 0))) Ω
instance r_intB : SRC K am wIntB dIntB := ⟨fun {c T σ Γ Ω H xs ws Q R} e hs h k => by
  obtain ⟨w, v, rfl, hw, h_1⟩ := one1W_el h hs
  obtain ⟨i, rfl, h_2⟩ := blW_el h_1
  obtain rfl : v = .bl i := hw
  exact k _ _ _ _ h_2 (e.addv rfl)⟩
def dMin2 (ws : List W) (Ω : Om) (Q : DQ) : Prop := two2W ws fun x y => intW x fun i => intW y fun j => Q (.sh (.int (if j < i then j else i))) Ω
instance r_min2 : SRC K am wMin2 dMin2 := ⟨fun {c T σ Γ Ω H xs ws Q R} e hs h k => by
  obtain ⟨w, v, w2, v2, rfl, hw, hw2, h_1⟩ := two2W_el h hs
  obtain ⟨i, rfl, h_2⟩ := intW_el h_1
  obtain ⟨j, rfl, h_3⟩ := intW_el h_2
  obtain rfl : v = .int i := hw
  obtain rfl : v2 = .int j := hw2
  exact k _ _ _ _ h_3 (e.addv rfl)⟩
def dMax2 (ws : List W) (Ω : Om) (Q : DQ) : Prop := two2W ws fun x y => intW x fun i => intW y fun j => Q (.sh (.int (if j > i then j else i))) Ω
instance r_max2 : SRC K am wMax2 dMax2 := ⟨fun {c T σ Γ Ω H xs ws Q R} e hs h k => by
  obtain ⟨w, v, w2, v2, rfl, hw, hw2, h_1⟩ := two2W_el h hs
  obtain ⟨i, rfl, h_2⟩ := intW_el h_1
  obtain ⟨j, rfl, h_3⟩ := intW_el h_2
  obtain rfl : v = .int i := hw
  obtain rfl : v2 = .int j := hw2
  exact k _ _ _ _ h_3 (e.addv rfl)⟩
def maxI (d0 : Int) : List Int → Int
  | [] => d0
  | x :: r => r.foldl max x
theorem foldl_max (r : List Int) : ∀ x : Int, r.foldl max x ∈ x :: r ∧ ∀ y ∈ x :: r, y ≤ r.foldl max x := by
  induction r with
  | nil => intro x; simp
  | cons a r ih =>
    intro x
    rw [List.foldl_cons]
    obtain ⟨h1, h2⟩ := ih (max x a)
    have h3 := h2 (max x a) List.mem_cons_self
    refine ⟨?_, fun y hy => ?_⟩
    · rcases List.mem_cons.mp h1 with h | h
      · rw [h]
        rcases Int.le_total x a with z | z
        · rw [Int.max_eq_right z]; simp
        · rw [Int.max_eq_left z]; simp
      · simp [h]
    · rcases List.mem_cons.mp hy with rfl | hy
      · omega
      · rcases List.mem_cons.mp hy with rfl | hy
        · omega
        · exact h2 y (List.mem_cons_of_mem _ hy)
theorem maxI_eq {ns : List Int} {m d0 : Int} (h0 : ns = [] → m = d0) (h1 : ns ≠ [] → m ∈ ns ∧ ∀ y ∈ ns, y ≤ m) : m = maxI d0 ns := by
  cases ns with
  | nil => exact h0 rfl
  | cons x r =>
    obtain ⟨a, b⟩ := h1 (by simp)
    obtain ⟨c, d⟩ := foldl_max r x
    have := b _ c
    have := d _ a
    show m = r.foldl max x
    omega
def dMaxL (ws : List W) (Ω : Om) (Q : DQ) : Prop := one1W ws fun w => seqW Ω w fun us => shsW us fun ds => intsD ds fun ns => ns ≠ [] ∧ Q (.sh (.int (maxI 0 ns))) Ω
instance r_maxL : SRC K am (rMax K) dMaxL := ⟨fun {c T σ Γ Ω H xs ws Q R} e hs h k => by
  obtain ⟨w, v, rfl, hw, h_1⟩ := one1W_el h hs
  obtain ⟨a, vs, us, rfl, ha, hv, h_2⟩ := seqW_el e hw h_1
  obtain ⟨ds, rfl, h_3⟩ := shsW_el h_2
  obtain ⟨ns, rfl, h0, h_4⟩ := intsD_el h_3
  rw [lay_ints hv.lay] at ha
  refine ⟨a, ns, rfl, SqL.of ha, List.length_pos_iff.mpr h0, fun m h1 h2 => ?_⟩
  rw [maxI_eq (d0 := 0) (fun z => absurd z h0) fun _ => ⟨h1, h2⟩]
  exact k _ _ _ _ h_4 (e.addv rfl)⟩
/-- max(tuple of ints, default=n) -/
def wMaxT : List V → List V → Hp → VK → Prop := fun vs zs H Q => one1 vs fun x => one1 zs fun z => refR x fun p => intR z fun d0 => tupO (H p) fun xs => ∃ ns : List Int, xs = ns.map V.int ∧ ∀ m, (ns = [] → m = d0) → (ns ≠ [] → m ∈ ns ∧ ∀ y ∈ ns, y ≤ m) → Q (.int m) H
theorem c_maxT {X : Cx} (hc : X.calm = true) : CallRK X (.builtin "max") [Str.ofString "default"] wMaxT := by
  intro pins s σ H xs zs us ws Q I rx rz h
  obtain ⟨x, rfl, h_1⟩ := one1_el h
  obtain ⟨z, rfl, h_2⟩ := one1_el h_1
  obtain ⟨p, rfl, h_3⟩ := refR_el h_2
  obtain ⟨d0, rfl, h_4⟩ := intR_el h_3
  obtain ⟨vs, hp, ns, rfl, q⟩ := tupO_el h_4
  obtain ⟨u, rfl, ru⟩ := rx.one
  obtain ⟨w1, rfl, t0, rfl⟩ := rz.one
  cases ru
  obtain ⟨its, rv, ht, _⟩ := I.tuple (X := X) (.inl hp)
  have hl := rv.length
  rw [List.length_map] at hl
  have hplt : p < s.heap.objs.size := by obtain ⟨_, e, _⟩ := ht; exact Heap.lt_size e
  have val : ∀ (i : Nat) (v : Value), its.toArray[i]? = some v → ∃ t, v = .int (ns.getD i 0) t := by
    intro i v hv
    have hv' : its[i]? = some v := by simpa using hv
    have hi : i < its.length := (List.getElem?_eq_some_iff.mp hv').1
    have gen : ∀ {as : List Int} {bs : List Value} (j : Nat), Vals (as.map V.int) bs → ∀ {v : Value}, bs[j]? = some v → ∃ t, v = .int (as.getD j 0) t := by
      intro as
      induction as with
      | nil => intro bs j r v hv; cases r; simp at hv
      | cons a as ih =>
        intro bs j r v hv
        cases r with
        | cons r1 r2 =>
          cases j with
          | zero => cases hv; exact r1
          | succ j => simpa using ih j r2 (v := v) (by simpa using hv)
    exact gen i rv hv'
  have ne : p ≠ s.heap.objs.size := Nat.ne_of_lt hplt
  show wpAny _ _ (call (.builtin "max") [.ref p] [(Str.ofString "default", .int d0 t0)]) _ _ _
  refine call_max_walkD (wpAny_pyIter_tuple (show s.heap.IsTuple p its.toArray from ht) ⟨s.heap.objs.size, [s.heap.objs.size, p], [s.heap.objs.size], _, its.toArray.size, _, _, s.heap, (fun i j => decide (ns.getD i 0 > ns.getD j 0)), rfl, (Walks.tuple (A := X.A.in1) (I.ok.hd hc) s.heap.objs.size p ne its.toArray).toS, ⟨⟨_, Heap.get?_push_size _ rfl, rfl, rfl⟩, ?_⟩, fun b hb => ?_, fun b o e hb => ?_, fun b o e => Heap.get?_push_of_some _ e, fun hz s' m => ?_, fun hp0 => ⟨fun i j vi vj s' Q' E' _ hi hj hq => CmpOf.ints_gt (fun i => ns.getD i 0) val i j vi vj s' Q' E' hi hj hq, fun v s' hP m => ?_⟩⟩)
  · obtain ⟨o, e, r⟩ := ht
    exact ⟨o, Heap.get?_push_of_some _ e, r⟩
  · show b < (s.heap.push _).objs.size
    rw [Heap.size_push]
    rcases List.mem_cons.mp hb with rfl | hb
    · exact Nat.lt_succ_self _
    · rcases List.mem_cons.mp hb with rfl | hb
      · exact Nat.lt_succ_of_lt hplt
      · cases hb
  · exact absurd (Heap.lt_size e) ((List.mem_singleton.mp hb) ▸ Nat.lt_irrefl _)
  · obtain ⟨h', tk, rfl, hk'⟩ := PySem.W.moved_old rfl rfl m
    have hn0 : ns = [] := List.eq_nil_of_length_eq_zero (by simp at hz; rw [hz] at hl; simpa using hl)
    exact ⟨.int d0, H, I.kept hk', ⟨t0, rfl⟩, q d0 (fun _ => rfl) fun h => absurd hn0 h⟩
  · obtain ⟨h', tk, rfl, hk'⟩ := PySem.W.moved_old rfl rfl m
    obtain ⟨t, rfl⟩ := val _ v hP
    obtain ⟨h1, h2⟩ := argBest_gt (fun i => ns.getD i 0) (its.toArray.size - 1)
    have es : its.toArray.size = ns.length := by rw [List.size_toArray, hl]
    rw [es] at h1 h2 hp0 ⊢
    refine ⟨.int _, H, I.kept hk', ⟨t, rfl⟩, q _ (fun h => by rw [h] at hp0; simp at hp0) fun _ => ⟨?_, fun y hy => ?_⟩⟩
    · have hb : argBest (fun i j => decide (ns.getD i 0 > ns.getD j 0)) (ns.length - 1) < ns.length := by
        have h1' : argBest (fun i j => decide (ns.getD i 0 > ns.getD j 0)) (ns.length - 1) ≤ ns.length - 1 := h1
        omega
      generalize argBest (fun i j => decide (ns.getD i 0 > ns.getD j 0)) (ns.length - 1) = b at hb ⊢
      simp [hb]
    · obtain ⟨j, hj, rfl⟩ := List.getElem_of_mem hy
      have := h2 j (by omega)
      rw [show ns.getD j 0 = ns[j] by simp [hj]] at this
      exact this
class SRK (K : PySem.W.Frag) (am : Am) (r : List V → List V → Hp → VK → Prop) (d : outParam (List W → List W → Om → DQ → Prop)) : Prop where
  run : ∀ {c : Cq am} {T : List Tp} {σ : L2.St} {Γ : Gm} {Ω : Om} {H : Hp} {xs zs : List V} {ws us : List W} {Q : DQ} {R : VK}, DEnv K c T σ Γ Ω H → VOks K H (Ex c Ω) ws xs → VOks K H (Ex c Ω) us zs → d ws us Ω Q → (∀ v w Ω' H', Q w Ω' → DEnv K c (.v w v :: T) σ Γ Ω' H' → R v H') → r xs zs H R
def dCKw (r : List W → List W → Om → DQ → Prop) (da dk : DA) (Γ : Gm) (Ω : Om) (Q : DQ) : Prop := da Γ Ω fun ws Ω1 => dk Γ Ω1 fun us Ω2 => r ws us Ω2 Q
instance s_ckw {r : List V → List V → Hp → VK → Prop} {d : List W → List W → Om → DQ → Prop} {t tk : TA} {da dk : DA} [s1 : SA K am t da] [s2 : SA K am tk dk] [s3 : SRK K am r d] : SE K am (tCKw r t tk) (dCKw d da dk) := ⟨fun {c T σ Γ Ω H Q R} e h k =>
  s1.run e h fun vs ws Ω1 H1 h1 e1 hv => by
    obtain ⟨S, e2, h3⟩ := oks_keep e1 hv
    exact s2.run e2 h1 fun zs us Ω2 H2 h4 e3 hz => s3.run e3.drops (h3 e3) hz h4 k⟩
def dMaxT (ws : List W) (us : List W) (Ω : Om) (Q : DQ) : Prop := one1W ws fun w => one1W us fun u => intW u fun d0 => tupW w fun ds => intsD ds fun ns => Q (.sh (.int (maxI d0 ns))) Ω
instance r_maxT : SRK K am wMaxT dMaxT := ⟨fun {c T σ Γ Ω H xs zs ws us Q R} e hs hz h k => by
  obtain ⟨w, v, rfl, hw, h_1⟩ := one1W_el h hs
  obtain ⟨u, z, rfl, hu, h_2⟩ := one1W_el h_1 hz
  obtain ⟨d0, rfl, h_3⟩ := intW_el h_2
  obtain ⟨a, vs, ds, rfl, ha, hl, h_4⟩ := tupW_at hw h_3
  obtain ⟨ns, rfl, h_5⟩ := intsD_el h_4
  obtain rfl : z = .int d0 := hu
  show tupO (H a) _
  refine rd_tupO ha ⟨ns, lay_ints hl, fun m h0 h1 => ?_⟩
  rw [maxI_eq h0 h1]
  exact k _ _ _ _ h_5 (e.addv rfl)⟩
/-! isinstance -/
def tnW (Ω : Om) (w : W) (k : String → Prop) : Prop := match w with
  | .sh .non => k "NoneType"
  | .sh (.bl _) => k "bool"
  | .sh (.int _) => k "int"
  | .sh (.str _) => k "str"
  | .sh (.tup _) => k "tuple"
  | .sh (.nt _) => k "tuple"
  | .sh (.lst _) => k "list"
  | .pt p => match look Ω p with
    | some (.lst _) => k "list"
    | some (.dic _ _) => k "dict"
    | _ => False
  | _ => False
def kitR (a b : String) (k : Bool → Prop) : Prop := match kitB a b with | some r => k r | none => False
end
end OA

namespace OA
open PySem PySem.Spec PyProof.Rows L2
/-! defs by data -/
def ExN (E : Addr → Prop) (Ωn : Om) : Addr → Prop := fun b => E b ∨ b ∈ Ωn.map (·.1)
abbrev DSp := List W → DQ → Prop
def spD (K : PySem.W.Frag) (am : Am) (sp : DSp) : Sp := fun vs H Q _ => ∃ (E : Addr → Prop) (ws : List W) (Qd : DQ), (∀ b, E b → EOk H b) ∧ (∀ b, am.M b → E b) ∧ am.I H ∧ VOks K H E ws vs ∧ sp ws Qd ∧
  ∀ v H' w Ωn, Qd w Ωn → VOk K H' (ExN E Ωn) w v → (∀ q ∈ Ωn, ObOk K H' (ExN E Ωn) q.1 q.2) → (∀ p ∈ Ωn.map (·.1), H p = none) → (Ωn.map (·.1)).Nodup → (∀ b o, ¬ am.M b → H b = some o → H' b = some o) → am.I H' → Q v H'
/-- what is told: a shared thing, or an own one given away -/
inductive RtD (Q : DQ) : W → Om → Prop
  | sh {d : D} {Ω : Om} : Q (.sh d) [] → RtD Q (.sh d) Ω
  | own {p : Addr} {Ω : Om} {od : OD} : look Ω p = some od → Q (.pt p) [(p, od)] → RtD Q (.pt p) Ω
  | frz {p : Addr} {d : D} {Ω : Om} : Fz1 Ω p d → Q (.sh d) [] → RtD Q (.pt p) Ω
def startG (n : Nat) (ws : List W) : Gm := ws.map some ++ List.replicate (n - ws.length) none
section
variable {K : PySem.W.Frag} {am : Am}
theorem spD_run {X : Cx} {body : List Stmt} {ts : TS} {td : DS} {sp : DSp} {vs : List V} {H : Hp} {Q : VK} {E0 : XK} {N : List Str} (h : spD K am sp vs H Q E0) (hP : PSs X body ts) (hs : SS K am ts td)
    (hD : ∀ ws Qd, sp ws Qd → td ⟨fun _ _ => Qd (.sh .non) [], RtD Qd, fun _ _ => False, fun _ _ => False⟩ (startG N.length ws) []) :
    ∃ t, PSs X body t ∧ t { nx := fun _ H' => Q .non H', rt := Q } (start N vs) H := by
  obtain ⟨E, ws, Qd, hE, hM, hI, hv, hsp, k⟩ := h
  let c : Cq am := ⟨E, hM, H⟩
  have ex : Ex c [] = E := by
    funext b
    unfold Ex
    simp [c]
  have e0 : DEnv K c [] (start N vs) (startG N.length ws) [] H := by
    refine ⟨?_, fun i w hw => ?_, fun t ht => by simp at ht, fun q hq => by simp at hq, List.nodup_nil, fun p hp => by simp at hp, hE, fun b o _ hb => hb, hI⟩
    · unfold L2.start startG
      simp [hv.len]
    · rw [ex]
      unfold startG at hw
      rcases Nat.lt_or_ge i ws.length with z | z
      · rw [List.getElem?_append_left (by simpa using z), List.getElem?_map] at hw
        cases q : ws[i]? with
        | none => rw [q] at hw; cases hw
        | some w0 =>
          rw [q] at hw
          cases hw
          obtain ⟨v, h1, h2⟩ := hv.to i q
          refine ⟨v, ?_, h2⟩
          unfold L2.start
          rw [List.getElem?_append_left (by rw [List.length_map, ← hv.len]; exact z), List.getElem?_map, h1]
          rfl
      · rw [List.getElem?_append_right (by simpa using z)] at hw
        rw [List.getElem?_replicate] at hw
        split at hw <;> cases hw
  have fin : ∀ v w H' (Ωn : Om), Qd w Ωn → VOk K H' (ExN E Ωn) w v → (∀ q ∈ Ωn, ObOk K H' (ExN E Ωn) q.1 q.2) → (∀ p ∈ Ωn.map (·.1), H p = none) → (Ωn.map (·.1)).Nodup → (∀ b o, ¬ am.M b → H b = some o → H' b = some o) → am.I H' → Q v H' := fun v w H' Ωn => k v H' w Ωn
  have sub : ∀ {Ω : Om} {H' : Hp} {p : Addr} {od : OD}, look Ω p = some od → ∀ b o, ¬ Ex c Ω b → H' b = some o → ¬ ExN E [(p, od)] b ∧ H' b = some o := fun hl b o n h => ⟨fun z => n (z.elim .inl fun z => .inr (by
    have zz : b = _ := List.mem_singleton.mp z
    rw [zz]
    exact List.mem_map.mpr ⟨_, look_mem hl, rfl⟩)), h⟩
  have sub0 : ∀ {Ω : Om} {H' : Hp}, ∀ b o, ¬ Ex c Ω b → H' b = some o → ¬ ExN E [] b ∧ H' b = some o := fun b o n h => ⟨fun z => n (z.elim .inl fun z => by simp at z), h⟩
  refine ⟨ts, hP, hs.run (c := c) (T := []) e0 (hD ws Qd hsp) ⟨fun σ Γ Ω H' q e => fin .non _ H' [] q rfl (fun q hq => by simp at hq) (fun p hp => by simp at hp) List.nodup_nil e.frm e.inv, fun v w σ Γ Ω H' q e => ?_, fun _ _ _ _ q _ => q, fun _ _ _ _ q _ => q⟩⟩
  cases q with
  | sh q => exact fin v _ H' [] q (e.hd.mono sub0) (fun q hq => by simp at hq) (fun p hp => by simp at hp) List.nodup_nil e.frm e.inv
  | own hl q =>
    rename_i p od
    have hob := e.ob _ (look_mem hl)
    refine fin v _ H' [(p, od)] q e.hd (fun q hq => ?_) (fun p' hp => ?_) (by simp) e.frm e.inv
    · have : q = (p, od) := by simpa using hq
      rw [this]
      exact ObOk.mono (sub hl) (fun _ h => h) hob
    · have : p' = p := by simpa using hp
      rw [this]
      exact (e.fr p (List.mem_map.mpr ⟨_, look_mem hl, rfl⟩)).1
  | frz f q =>
    rename_i p d
    obtain rfl : v = .ref p := e.hd
    have e2 := e.frz f
    have hin : p ∈ Ω.map (·.1) := by cases f with
      | lst h => exact List.mem_map.mpr ⟨_, look_mem h, rfl⟩
      | dic h => exact List.mem_map.mpr ⟨_, look_mem h, rfl⟩
    have lay : Lay K H' (ExN E []) d (.ref p) := by
      have np : ¬ ExN E [] p := fun z => z.elim (e.fr p hin).2 fun z => by simp at z
      cases f with
      | lst h =>
        obtain ⟨vs, h1, h2⟩ := e.ob _ (look_mem h)
        exact ⟨p, vs, rfl, np, h1, (h2.mono sub0).lay⟩
      | dic h =>
        obtain ⟨vs, h1, hn, h2⟩ := e.ob _ (look_mem h)
        exact ⟨p, vs, rfl, np, h1, by rw [List.length_map] at hn; exact hn, (h2.mono sub0).lay⟩
    exact fin _ _ H' [] q lay (fun q hq => by simp at hq) (fun p hp => by simp at hp) List.nodup_nil e.frm e.inv
def notins (Ωn Ω : Om) : Prop := ∀ p ∈ Ωn.map (·.1), p ∉ Ω.map (·.1)
theorem DEnv.call {a : Am} [le : AmLe a am] {c : Cq am} {T : List Tp} {σ : L2.St} {Γ : Gm} {Ω Ωn : Om} {H H' : Hp} {w : W} {v : V} (e : DEnv K c T σ Γ Ω H) (hv : VOk K H' (ExN (Ex c Ω) Ωn) w v) (ho : ∀ q ∈ Ωn, ObOk K H' (ExN (Ex c Ω) Ωn) q.1 q.2)
    (hn : ∀ p ∈ Ωn.map (·.1), H p = none) (nd : (Ωn.map (·.1)).Nodup) (k : ∀ b o, ¬ a.M b → H b = some o → H' b = some o) (i : a.I H') : notins Ωn Ω ∧ DEnv K c (.v w v :: T) σ Γ (Ωn ++ Ω) H' := by
  have hi := le.back H H' e.inv k i
  have kam : ∀ b o, ¬ am.M b → H b = some o → H' b = some o := fun b o n h => k b o (fun m => n (le.M b m)) h
  have e1 := e.step kam hi
  have exe : Ex c (Ωn ++ Ω) = ExN (Ex c Ω) Ωn := by
    funext b
    unfold Ex ExN
    rw [List.map_append]
    simp only [List.mem_append, eq_iff_iff]
    constructor
    · rintro (h | h | h)
      · exact .inl (.inl h)
      · exact .inr h
      · exact .inl (.inr h)
    · rintro ((h | h) | h)
      · exact .inl h
      · exact .inr (.inr h)
      · exact .inr (.inl h)
  have ni : notins Ωn Ω := fun p hp z => e.noEx (hn p hp) (.inr z)
  have kx : ∀ b o, ¬ Ex c Ω b → H b = some o → ¬ Ex c (Ωn ++ Ω) b ∧ H' b = some o := fun b o n h => by
    refine ⟨fun z => ?_, kam b o (fun m => n (.inl (c.ME b m))) h⟩
    rw [exe] at z
    rcases z with z | z
    · exact n z
    · rw [hn b z] at h
      cases h
  refine ⟨ni, ⟨e.len, fun j w h => ?_, fun t ht => ?_, fun q hq => ?_, ?_, fun p hp => ?_, e1.el, e1.frm, e1.inv⟩⟩
  · obtain ⟨v, h1, h2⟩ := e.sl j w h
    exact ⟨v, h1, h2.mono kx⟩
  · rcases List.mem_cons.mp ht with rfl | ht
    · show VOk K H' _ w v
      rw [exe]
      exact hv
    · exact (e.tm t ht).mono kx
  · rcases List.mem_append.mp hq with hq | hq
    · rw [exe]
      exact ho q hq
    · refine (e.ob q hq).mono kx fun o h => kam _ _ (fun m => ?_) h
      exact (e.fr q.1 (List.mem_map.mpr ⟨q, hq, rfl⟩)).2 (c.ME _ m)
  · rw [List.map_append, List.nodup_append]
    exact ⟨nd, e.nd, fun a ha b hb z => ni a ha (by rw [z]; exact hb)⟩
  · rw [List.map_append] at hp
    rcases List.mem_append.mp hp with hp | hp
    · exact ⟨e.new (hn p hp), fun z => (e.el p z).some (hn p hp)⟩
    · exact e.fr p hp
def dFn (sp : DSp) (das : DA) (Γ : Gm) (Ω : Om) (Q : DQ) : Prop := das Γ Ω fun ws Ω1 => sp ws fun w Ωn => notins Ωn Ω1 → Q w (Ωn ++ Ω1)
theorem call_run {a : Am} [le : AmLe a am] {sp : DSp} {E0 : XK} {c : Cq am} {T : List Tp} {σ : L2.St} {Γ : Gm} {Ω : Om} {H : Hp} {vs : List V} {ws : List W} {Q : DQ} {R : VK} (e1 : DEnv K c T σ Γ Ω H) (hv : VOks K H (Ex c Ω) ws vs)
    (h : sp ws fun w Ωn => notins Ωn Ω → Q w (Ωn ++ Ω)) (k : ∀ v w Ω' H', Q w Ω' → DEnv K c (.v w v :: T) σ Γ Ω' H' → R v H') : spD K a sp vs H R E0 := by
  refine ⟨Ex c Ω, ws, _, fun b hb => e1.eok hb, fun b m => .inl (c.ME b (le.M b m)), le.I _ e1.inv, hv, h, fun v H' w Ωn q hw ho hn nd kk i => ?_⟩
  obtain ⟨ni, e2⟩ := e1.call (a := a) hw ho hn nd kk i
  exact k v w _ H' (q ni) e2
instance s_call {a : Am} {sp : DSp} {E0 : XK} {tas : TA} {das : DA} [le : AmLe a am] [s1 : SA K am tas das] : SE K am (vCall (spD K a sp) E0 tas) (dFn sp das) := ⟨fun {c T σ Γ Ω H Q R} e h k =>
  s1.run e h fun vs ws Ω1 H1 h1 e1 hv => call_run e1 hv h1 k⟩
/-! what is walked -/
def dList (da : DT) (Γ : Gm) (Ω : Om) (Q : List W → Om → Prop) : Prop := da Γ Ω fun w Ω1 => shW w fun x => match x with | .lst ds => Q (ds.map .sh) Ω1 | _ => False
def dTupI (da : DT) (Γ : Gm) (Ω : Om) (Q : List W → Om → Prop) : Prop := da Γ Ω fun w Ω1 => tupW w fun ds => Q (ds.map .sh) Ω1
instance i_list {tl : TE} {da : DT} [s1 : SE K am tl da] : SI K am (viList K tl) (dList da) := ⟨fun {c T σ Γ Ω H Q R} e h k =>
  s1.run e h fun x wx Ω1 H1 h1 e1 => by
    obtain ⟨d, rfl, h2⟩ := shW_el h1
    cases d with
    | lst ds =>
      obtain ⟨a, vs, rfl, n, ha, hl⟩ := e1.hd
      show lstO (H1 a) _
      rw [ha]
      have hx : VOk K H1 (Ex c Ω1) (.sh (.lst ds)) (.ref a) := ⟨a, vs, rfl, n, ha, hl⟩
      have hlen : (ds.map W.sh).length = vs.length := by rw [List.length_map]; exact hl.len
      refine k (Itl K a) H1 (ds.map .sh) Ω1 [.pin a (.lst vs), .v (.sh (.lst ds)) (.ref a)] _ _ h2 (e1.add (t := .pin a (.lst vs)) ⟨(fun u z => by cases z), n, ha⟩) (by rw [hlen]; exact walk_list) (fun σ Γ Ω H e => SqL.of (e.tm (.pin a (.lst vs)) (by simp)).2.2) fun S i x σ Γ Ω H H' hi e y => ?_
      obtain ⟨rfl, hx⟩ := y
      have hp := (e.tm (.pin a (.lst vs)) (by simp)).2.2
      obtain ⟨a', vs', e1, _, ha', hl'⟩ := (e.tm (.v (.sh (.lst ds)) (.ref a)) (by simp))
      cases e1
      rw [hp] at ha'
      cases ha'
      obtain ⟨w, h1, h2⟩ := (VOks.sh_of hl').at i hx
      exact ⟨w, h1, e.addv h2⟩
    | _ => exact (show False from h2).elim⟩
instance i_tup {tl : TE} {da : DT} [s1 : SE K am tl da] : SI K am (viTup K tl) (dTupI da) := ⟨fun {c T σ Γ Ω H Q R} e h k =>
  s1.run e h fun x wx Ω1 H1 h1 e1 => by
    unfold tupW at h1
    split at h1
    · rename_i ds
      have h2 := h1
      obtain ⟨a, vs, rfl, n, ha, hl⟩ := e1.hd
      show tupO (H1 a) _
      refine rd_tupO (.inl ha) ?_
      have hx : VOk K H1 (Ex c Ω1) (.sh (.tup ds)) (.ref a) := ⟨a, vs, rfl, n, ha, hl⟩
      have hlen : (ds.map W.sh).length = vs.length := by rw [List.length_map]; exact hl.len
      refine k (Itt K a) H1 (ds.map .sh) Ω1 [.pin a (.tup vs), .v (.sh (.tup ds)) (.ref a)] _ _ h2 (e1.add (t := .pin a (.tup vs)) ⟨(fun u z => by cases z), n, ha⟩) (by rw [hlen]; exact walk_tup) (fun σ Γ Ω H e => SqT.of (e.tm (.pin a (.tup vs)) (by simp)).2.2) fun S i x σ Γ Ω H H' hi e y => ?_
      obtain ⟨rfl, hx⟩ := y
      have hp := (e.tm (.pin a (.tup vs)) (by simp)).2.2
      obtain ⟨a', vs', e1, _, ha', hl'⟩ := (e.tm (.v (.sh (.tup ds)) (.ref a)) (by simp))
      cases e1
      rw [hp] at ha'
      cases ha'
      obtain ⟨w, h1, h2⟩ := (VOks.sh_of hl').at i hx
      exact ⟨w, h1, e.addv h2⟩
    · rename_i ns
      have h2 := h1
      obtain ⟨a, ob, rfl, n, ha, hd⟩ := e1.hd
      show tupO (H1 a) _
      refine rd_tupO (.inr ⟨ob, ha⟩) ?_
      have hlen : ((ns.map D.int).map W.sh).length = (ns.map V.int).length := by rw [List.length_map, List.length_map, List.length_map]
      refine k (Itt K a) H1 ((ns.map D.int).map .sh) Ω1 [.pin a (.frz ob (.tup (ns.map V.int))), .v (.sh (.nt ns)) (.ref a)] _ _ h2 (e1.add (t := .pin a (.frz ob (.tup (ns.map V.int)))) ⟨(fun u z => by cases z), n, ha⟩) (by rw [hlen]; exact walk_tup) (fun σ Γ Ω H e => (show SqT K H a (ns.map V.int) from .inl (.inr ⟨ob, (e.tm (.pin a (.frz ob (.tup (ns.map V.int)))) (by simp)).2.2⟩))) fun S i x σ Γ Ω H H' hi e y => ?_
      obtain ⟨rfl, hx⟩ := y
      obtain ⟨w, h1, h2⟩ := (VOks.sh_of (nt_lay (K := K) (H := H') (E := Ex c Ω) ns)).at i hx
      exact ⟨w, h1, e.addv h2⟩
    · exact h1.elim⟩
def dStrI (da : DT) (Γ : Gm) (Ω : Om) (Q : List W → Om → Prop) : Prop := da Γ Ω fun w Ω1 => strW w fun z => Q (z.cps.toList.map fun c => .sh (.str ⟨#[c]⟩)) Ω1
instance i_str {tl : TE} {da : DT} [s1 : SE K am tl da] : SI K am (viStr tl) (dStrI da) := ⟨fun {c T σ Γ Ω H Q R} e h k =>
  s1.run e h fun x wx Ω1 H1 h1 e1 => by
    obtain ⟨z, rfl, h2⟩ := strW_el h1
    obtain rfl : x = .str z := e1.hd
    have hlen : (z.cps.toList.map fun c => W.sh (.str ⟨#[c]⟩)).length = z.cps.size := by rw [List.length_map, Array.length_toList]
    refine k (Its z) H1 _ Ω1 [] _ _ h2 e1.drop (by rw [hlen]; exact walk_str) (fun _ _ _ _ _ => True.intro) fun S i x σ Γ Ω H H' hi e y => ?_
    obtain ⟨rfl, ch, hc, rfl⟩ := y
    have hc' : z.cps.toList[i]? = some ch := by rw [Array.getElem?_toList]; exact hc
    exact ⟨.sh (.str ⟨#[ch]⟩), by rw [List.getElem?_map, hc']; rfl, e.addv rfl⟩⟩
def natsW (n : Nat) : List W := (List.range n).map fun i => W.sh (.int (i : Nat))
def dR1 (das : DA) (Γ : Gm) (Ω : Om) (Q : List W → Om → Prop) : Prop := das Γ Ω fun ws Ω1 => one1W ws fun w => intW w fun j => (-(2 ^ 62) ≤ j ∧ j < 2 ^ 62) ∧ Q (natsW j.toNat) Ω1
instance i_r1 {ta : TA} {das : DA} [s1 : SA K am ta das] : SI K am (viR1 ta) (dR1 das) := ⟨fun {c T σ Γ Ω H Q R} e h k =>
  s1.run e h fun vs ws Ω1 H1 h1 e1 hv => by
    obtain ⟨w, v, rfl, hw, h2⟩ := one1W_el h1 hv
    obtain ⟨j, rfl, hj, h3⟩ := intW_el h2
    obtain rfl : v = .int j := hw
    have hlen : (natsW j.toNat).length = j.toNat := by unfold natsW; rw [List.length_map, List.length_range]
    refine ⟨hj, k (Itr 0 j.toNat) H1 _ Ω1 [] _ _ h3 e1 (by rw [hlen]; exact walk_range) (fun _ _ _ _ _ => True.intro) fun S i x σ Γ Ω H H' hi e y => ?_⟩
    obtain ⟨rfl, rfl⟩ := y
    rw [hlen] at hi
    refine ⟨.sh (.int (i : Nat)), by unfold natsW; rw [List.getElem?_map, List.getElem?_range hi]; rfl, e.addv ?_⟩
    show V.int (0 + (i : Nat)) = _
    rw [Int.zero_add]⟩
def dEnum (das : DA) (Γ : Gm) (Ω : Om) (Q : List W → Om → Prop) : Prop := das Γ Ω fun ws Ω1 => one1W ws fun w => shW w fun x => match x with | .lst ds => Q (ds.mapIdx fun i d => .sh (.tup [.int (i : Nat), d])) Ω1 | _ => False
instance i_enum {ta : TA} {das : DA} [s1 : SA K am ta das] : SI K am (viEnum K ta) (dEnum das) := ⟨fun {c T σ Γ Ω H Q R} e h k =>
  s1.run e h fun vs ws Ω1 H1 h1 e1 hv => by
    obtain ⟨w, v, rfl, hw, h2⟩ := one1W_el h1 hv
    obtain ⟨d, rfl, h3⟩ := shW_el h2
    cases d with
    | lst ds =>
      obtain ⟨a, vs, rfl, n, ha, hl⟩ := hw
      show lstO (H1 a) _
      rw [ha]
      have hx : VOk K H1 (Ex c Ω1) (.sh (.lst ds)) (.ref a) := ⟨a, vs, rfl, n, ha, hl⟩
      have hlen : (ds.mapIdx fun i d => W.sh (.tup [.int (i : Nat), d])).length = vs.length := by rw [List.length_mapIdx]; exact hl.len
      refine k (Ite K a) H1 _ Ω1 [.pin a (.lst vs), .v (.sh (.lst ds)) (.ref a)] _ _ h3 ((e1.addv hx).add (t := .pin a (.lst vs)) ⟨(fun u z => by cases z), n, ha⟩) (by rw [hlen]; exact walk_enum) (fun σ Γ Ω H e => SqL.of (e.tm (.pin a (.lst vs)) (by simp)).2.2) fun S i x σ Γ Ω H H' hi e y => ?_
      obtain ⟨T0, x1, x2, rfl, hT, rfl, e1, e2⟩ := y
      cases e1
      have e2 : vs[i]? = some x2 := e2
      have hp := (e.tm (.pin a (.lst vs)) (by simp)).2.2
      obtain ⟨a', vs', e3, _, ha', hl'⟩ := (e.tm (.v (.sh (.lst ds)) (.ref a)) (by simp))
      cases e3
      rw [hp] at ha'
      cases ha'
      obtain ⟨w, g1, g2⟩ := (VOks.sh_of hl').at i e2
      rw [List.getElem?_map] at g1
      cases q : ds[i]? with
      | none => rw [q] at g1; cases g1
      | some d =>
        rw [q] at g1
        cases g1
        refine ⟨.sh (.tup [.int (i : Nat), d]), by rw [List.getElem?_mapIdx, q]; rfl, e.tup hT ⟨_, _, rfl, rfl, _, _, rfl, g2, rfl⟩⟩
    | _ => exact (show False from h3).elim⟩
end
end OA

namespace OA
open PySem PySem.Spec PyProof.Rows L2
section
variable {K : PySem.W.Frag} {am : Am}
/-! two clauses -/
def dLc2P (ws : List W) (g : DG) (dq : DB) (di1 : DI) (g1 : DG) (dq1 : DB) (de : DT) (vs vs1 : List Nat) (Γ : Gm) (Ω1 : Om) (Pv : Nat → List W → Prop) : Prop :=
  Pv 0 [] ∧ ∀ i w acc p, ws[i]? = some w → Pv i acc → notin p Ω1 → g w (wipeG Γ vs) ((p, .lst acc) :: Ω1) fun Γ2 Ω2 => Ω2 = (p, .lst acc) :: Ω1 ∧ dq Γ2 ((p, .lst acc) :: Ω1) fun b Ω3 => Ω3 = (p, .lst acc) :: Ω1 ∧
    if b = true then di1 Γ2 ((p, .lst acc) :: Ω1) fun us Ω4 => Ω4 = (p, .lst acc) :: Ω1 ∧ ∃ Pw : Nat → List W → Prop, Pw 0 acc ∧
      (∀ j u acc', us[j]? = some u → Pw j acc' → g1 u (wipeG Γ2 vs1) ((p, .lst acc') :: Ω1) fun Γ3 Ω5 => Ω5 = (p, .lst acc') :: Ω1 ∧ dq1 Γ3 ((p, .lst acc') :: Ω1) fun b Ω6 => Ω6 = (p, .lst acc') :: Ω1 ∧
        if b = true then de Γ3 ((p, .lst acc') :: Ω1) fun y Ω7 => Ω7 = (p, .lst acc') :: Ω1 ∧ lenLt acc' ∧ Pw (j + 1) (acc' ++ [y]) else Pw (j + 1) acc') ∧ ∀ acc', Pw us.length acc' → Pv (i + 1) acc'
    else Pv (i + 1) acc
def dLc2 (ix ix1 : List Nat) (di : DI) (g : DG) (dq : DB) (di1 : DI) (g1 : DG) (dq1 : DB) (de : DT) (vs vs1 : List Nat) (Γ : Gm) (Ω : Om) (Q : DQ) : Prop := (∀ i ∈ ix, i ∈ vs) ∧ (∀ i ∈ ix1, i ∈ vs1) ∧ di Γ Ω fun ws Ω1 => ∃ Pv : Nat → List W → Prop, dLc2P ws g dq di1 g1 dq1 de vs vs1 Γ Ω1 Pv ∧ ∀ acc, Pv ws.length acc → shsW acc fun ds => Q (.sh (.lst ds)) Ω1
theorem DEnv.reslot {c : Cq am} {T T' : List Tp} {σ σ' : L2.St} {Γ Γ' : Gm} {Ω Ω' : Om} {H H' : Hp} (a : DEnv K c T σ Γ Ω H) (b : DEnv K c T' σ' Γ' Ω H) : DEnv K c T' σ Γ Ω H := ⟨a.len, a.sl, b.tm, b.ob, b.nd, b.fr, b.el, b.frm, b.inv⟩
instance s_lc2 {wi wi1 : TI} {di di1 : DI} {g g1 : TG} {d d1 : DG} {ix ix1 vs vs1 : List Nat} {tq tq1 : TT} {dq dq1 : DB} {te : TE} {de : DT} [s0 : SI K am wi di] [s1 : SG K am g d ix] [s2 : ST K am tq dq] [s3 : SE K am te de] [s4 : SI K am wi1 di1] [s5 : SG K am g1 d1 ix1] [s6 : ST K am tq1 dq1]
    : SE K am (tLc2 wi g tq wi1 g1 tq1 te vs vs1) (dLc2 ix ix1 di d dq di1 d1 dq1 de vs vs1) := ⟨fun {c T σ Γ Ω H Q R} e ⟨hx, hx1, h⟩ k =>
  s0.run e h fun J H1 ws Ω1 T' G Y ⟨Pv, ⟨p0, ps⟩, hz⟩ e1 hw hG hY => fun D hD => by
    obtain ⟨S, e2, back⟩ := e1.save
    have nD : notin D Ω1 := fun z => e1.noEx hD (.inr z)
    have e3 : DEnv K c (.v (.pt D) (.ref D) :: (S ++ (T' ++ T))) σ Γ ((D, .lst []) :: Ω1) (upd H1 D (.lst [])) := e2.own hD (e2.new hD) (.inl ⟨[], [], rfl, rfl, rfl⟩)
    have to' : ∀ {σ : L2.St} {Γ : Gm} {Ω : Om} {H : Hp}, DEnv K c (.v (.pt D) (.ref D) :: (S ++ (T' ++ T))) σ Γ Ω H → DEnv K c (T' ++ T) σ Γ Ω H := fun e => e.drop.drops
    refine ⟨fun i m H => m = ws.length - i ∧ i ≤ ws.length ∧ ∃ acc σ2 Γ2, Pv i acc ∧ DEnv K c (.v (.pt D) (.ref D) :: (S ++ (T' ++ T))) σ2 Γ2 ((D, .lst acc) :: Ω1) H, ⟨_, rfl, Nat.zero_le _, [], σ, Γ, p0, e3⟩, ?_⟩
    rintro i m H ⟨rfl, hi, acc, σ2, Γ2, p, e⟩
    by_cases hlt : i < ws.length
    · refine .inr ⟨hw.goes i H hlt (hG _ _ _ _ (to' e)), fun H' => ∃ acc σ2 Γ2, Pv (i + 1) acc ∧ DEnv K c (.v (.pt D) (.ref D) :: (S ++ (T' ++ T))) σ2 Γ2 ((D, .lst acc) :: Ω1) H', fun H' ⟨acc, σ2, Γ2, p', e'⟩ => ⟨_, by omega, rfl, hlt, acc, σ2, Γ2, p', e'⟩, fun x H' y => ?_⟩
      have eW : DEnv K c (.v (.pt D) (.ref D) :: (S ++ (T' ++ T))) (L2.wipe σ vs) (wipeG Γ vs) ((D, .lst acc) :: Ω1) H := by
        have b1 := (back e.drop).wipe vs
        exact ⟨b1.len, b1.sl, e.tm, e.ob, e.nd, e.fr, e.el, e.frm, e.inv⟩
      obtain ⟨w, hw', e5⟩ := hY (.v (.pt D) (.ref D) :: S) i x _ _ _ H H' hlt eW (hw.yields i H x H' hlt (hG _ _ _ _ (to' e)) y)
      refine s1.run e5.drop e5.hd (ps i w acc D hw' p nD) fun σ3 Γ3 Ω3 H3 ⟨z3, q3⟩ e6 hwp => ⟨by rw [hwp vs hx, wipe_wipe], ?_⟩
      subst z3
      refine s2.run e6 q3 fun b Ω4 H4 ⟨z4, q4⟩ e7 => ?_
      subst z4
      cases b with
      | false => exact ⟨acc, _, _, q4, e7⟩
      | true =>
        refine s4.run e7 q4 fun J1 H5 us Ω5 T1 G1 Y1 ⟨z5, Pw, pw0, pws, pwe⟩ e8 hw1 hG1 hY1 => ?_
        subst z5
        obtain ⟨S1, e9, back1⟩ := e8.save
        have to1 : ∀ {σ : L2.St} {Γ : Gm} {Ω : Om} {H : Hp}, DEnv K c (S1 ++ (T1 ++ (.v (.pt D) (.ref D) :: (S ++ (T' ++ T))))) σ Γ Ω H → DEnv K c (.v (.pt D) (.ref D) :: (S ++ (T' ++ T))) σ Γ Ω H := fun e => e.drops.drops
        refine ⟨fun j m H => m = us.length - j ∧ j ≤ us.length ∧ ∃ acc' σ2 Γ2, Pw j acc' ∧ DEnv K c (S1 ++ (T1 ++ (.v (.pt D) (.ref D) :: (S ++ (T' ++ T))))) σ2 Γ2 ((D, .lst acc') :: Ω1) H, ⟨_, rfl, Nat.zero_le _, acc, _, _, pw0, e9⟩, ?_⟩
        rintro j m H ⟨rfl, hj, acc', σ4, Γ4, p', e10⟩
        by_cases hjl : j < us.length
        · refine .inr ⟨hw1.goes j H hjl (hG1 _ _ _ _ e10.drops), fun H' => ∃ acc' σ2 Γ2, Pw (j + 1) acc' ∧ DEnv K c (S1 ++ (T1 ++ (.v (.pt D) (.ref D) :: (S ++ (T' ++ T))))) σ2 Γ2 ((D, .lst acc') :: Ω1) H', fun H' ⟨acc, σ2, Γ2, p', e'⟩ => ⟨_, by omega, rfl, hjl, acc, σ2, Γ2, p', e'⟩, fun x1 H6 y1 => ?_⟩
          have eW1 : DEnv K c (S1 ++ (T1 ++ (.v (.pt D) (.ref D) :: (S ++ (T' ++ T))))) (L2.wipe σ3 vs1) (wipeG Γ3 vs1) ((D, .lst acc') :: Ω1) H := by
            have b1 := (back1 e10).wipe vs1
            exact ⟨b1.len, b1.sl, e10.tm, e10.ob, e10.nd, e10.fr, e10.el, e10.frm, e10.inv⟩
          obtain ⟨u, hu', e11⟩ := hY1 S1 j x1 _ _ _ H H6 hjl eW1 (hw1.yields j H x1 H6 hjl (hG1 _ _ _ _ e10.drops) y1)
          refine s5.run e11.drop e11.hd (pws j u acc' hu' p') fun σ5 Γ5 Ω6 H7 ⟨z6, q6⟩ e12 hwp1 => ⟨by rw [hwp1 vs1 hx1, wipe_wipe], ?_⟩
          subst z6
          refine s6.run e12 q6 fun b Ω7 H8 ⟨z7, q7⟩ e13 => ?_
          subst z7
          cases b with
          | false => exact ⟨acc', _, _, q7, e13⟩
          | true =>
            refine s3.run e13 q7 fun y wy Ω8 H9 ⟨z8, hl, p''⟩ e14 => ?_
            subst z8
            obtain ⟨vs', a1, a2⟩ := e14.ob (D, .lst acc') List.mem_cons_self
            have e15 := e14.drop.putL (vs' := vs' ++ [y]) (ws' := acc' ++ [wy]) look_hd (a2.app (.one e14.hd))
            rw [put_hd nD] at e15
            exact ⟨vs', a1, by rw [← a2.len]; exact hl, acc' ++ [wy], _, _, p'', e15⟩
        · have ej : j = us.length := by omega
          subst ej
          exact .inl ⟨hw1.stops H (hG1 _ _ _ _ e10.drops), acc', _, _, pwe acc' p', to1 e10⟩
    · have ei : i = ws.length := by omega
      subst ei
      have b1 := back e.drop
      obtain ⟨ds, rfl, h2⟩ := shsW_el (hz acc p)
      have e' : DEnv K c T σ Γ ((D, .lst (ds.map .sh)) :: Ω1) H := ⟨b1.len, b1.sl, b1.drops.tm, b1.ob, b1.nd, b1.fr, b1.el, b1.frm, b1.inv⟩
      exact .inl ⟨hw.stops H (hG _ _ _ _ (to' e)), k _ _ _ _ h2 (e'.unown nD)⟩⟩
def dTAnd (dt du : DB) (Γ : Gm) (Ω : Om) (Q : Bool → Om → Prop) : Prop := dt Γ Ω fun c Ω1 => if c = true then du Γ Ω1 Q else Q false Ω1
instance s_tand {t u : TT} {dt du : DB} [s1 : ST K am t dt] [s2 : ST K am u du] : ST K am (tAnd t u) (dTAnd dt du) := ⟨fun {c T σ Γ Ω H Q R} e h k =>
  s1.run e h fun b Ω1 H1 h1 e1 => by
    show if b = true then _ else _
    cases b with
    | true => exact s2.run e1 h1 k
    | false => exact k _ _ _ h1 e1⟩
def dTOr (dt du : DB) (Γ : Gm) (Ω : Om) (Q : Bool → Om → Prop) : Prop := dt Γ Ω fun c Ω1 => if c = true then Q true Ω1 else du Γ Ω1 Q
instance s_tor {t u : TT} {dt du : DB} [s1 : ST K am t dt] [s2 : ST K am u du] : ST K am (tOr t u) (dTOr dt du) := ⟨fun {c T σ Γ Ω H Q R} e h k =>
  s1.run e h fun b Ω1 H1 h1 e1 => by
    show if b = true then _ else _
    cases b with
    | false => exact s2.run e1 h1 k
    | true => exact k _ _ _ h1 e1⟩
def dTNot (dt : DB) (Γ : Gm) (Ω : Om) (Q : Bool → Om → Prop) : Prop := dt Γ Ω fun c Ω1 => Q (!c) Ω1
instance s_tnot {t : TT} {dt : DB} [s1 : ST K am t dt] : ST K am (tNot t) (dTNot dt) := ⟨fun {c T σ Γ Ω H Q R} e h k =>
  s1.run e h fun b Ω1 H1 h1 e1 => k _ _ _ h1 e1⟩
/-! list.extend -/
def wExtend : V → List V → Hp → VK → Prop := fun x vs H Q => refR x fun l => lstO (H l) fun xs => one1 vs fun y => refR y fun b => lstO (H b) fun zs => xs.length + zs.length ≤ sizeLine ∧ Q .non (upd H l (.lst (xs ++ zs)))
theorem m_extend {X : Cx} : MtR X "list.extend" wExtend := im_mt (r := rExtend) mt_extend fun x vs H Q z => by
  obtain ⟨l, e1, z1⟩ := refR_el z
  obtain ⟨xs, e2, z2⟩ := lstO_el z1
  obtain ⟨y, e3, z3⟩ := one1_el z2
  obtain ⟨b, e4, z4⟩ := refR_el z3
  obtain ⟨zs, e5, z5, z6⟩ := lstO_el z4
  exact ⟨l, b, xs, zs, e1, by rw [e3, e4], e2, e5, z5, z6⟩
def dExtend (w : W) (ws : List W) (Ω : Om) (Q : DQ) : Prop := ownL Ω w fun p xs => one1W ws fun y => seqW Ω y fun us => lenOk (xs ++ us) ∧ Q (.sh .non) (OA.put Ω p (.lst (xs ++ us)))
instance r_extend : SRM K am wExtend dExtend := ⟨fun {c T σ Γ Ω H x w xs ws Q R} e hx hs h k => by
  obtain ⟨a, vs, us, rfl, hl, ha, hv, h1⟩ := ownL_el e hx h
  obtain ⟨y, v, rfl, hy, h2⟩ := one1W_el h1 hs
  obtain ⟨b, ts, us', rfl, hb, ht, h3⟩ := seqW_el e hy h2
  show lstO (H a) _
  rw [ha]
  show lstO (H b) _
  rw [hb]
  refine ⟨?_, k _ _ _ _ h3.2 ((e.putL hl (hv.app ht)).addv rfl)⟩
  rw [← hv.len, ← ht.len, ← List.length_append]
  exact h3.1⟩
def dPop (w : W) (ws : List W) (Ω : Om) (Q : DQ) : Prop := ownL Ω w fun p xs => ws = [] ∧ match xs[xs.length - 1]? with | some u => Q u (OA.put Ω p (.lst xs.dropLast)) | none => False
/-! range(a, b) -/
def viR2 (ta : TA) : TI := fun σ H R => ta σ H fun vs H1 => two2 vs fun x y => intR x fun i => intR y fun j => (-(2 ^ 62) ≤ i ∧ i < 2 ^ 62 ∧ -(2 ^ 62) ≤ j ∧ j < 2 ^ 62) ∧ R (Itr i (j - i).toNat) H1
theorem up_rng2 {tg a b : Expr} {ta : TA} {p pos : Pos} {X : Cx} (hg : Gl X "range") (hm : X.mg "range" = none) (ha : PA X [a, b] ta) (hs : starEach [a, b] X.env = [(false, eval a X.env), (false, eval b X.env)] := by rfl) (hs2 : starEach [b] X.env = [(false, eval b X.env)] := by rfl) :
    PI X tg (.Call (.Name "range" p) [a, b] [] pos) (viR2 ta) := im_pi (pi_range2 hg hm (up_pa ha) hs hs2) fun σ H R h => ⟨_, h, fun vs H1 z => by
  obtain ⟨x, y, e, z1⟩ := two2_el z
  obtain ⟨i, e1, z2⟩ := intR_el z1
  obtain ⟨j, e2, z3⟩ := intR_el z2
  exact ⟨i, j, by rw [e, e1, e2], z3.1, z3.2⟩⟩
def intsFrom (i : Int) (n : Nat) : List W := (List.range n).map fun (k : Nat) => W.sh (.int (i + k))
def dR2 (das : DA) (Γ : Gm) (Ω : Om) (Q : List W → Om → Prop) : Prop := das Γ Ω fun ws Ω1 => two2W ws fun x y => intW x fun i => intW y fun j => (-(2 ^ 62) ≤ i ∧ i < 2 ^ 62 ∧ -(2 ^ 62) ≤ j ∧ j < 2 ^ 62) ∧ Q (intsFrom i (j - i).toNat) Ω1
instance i_r2 {ta : TA} {das : DA} [s1 : SA K am ta das] : SI K am (viR2 ta) (dR2 das) := ⟨fun {c T σ Γ Ω H Q R} e h k =>
  s1.run e h fun vs ws Ω1 H1 h1 e1 hv => by
    obtain ⟨w, v, w2, v2, rfl, hw, hw2, h2⟩ := two2W_el h1 hv
    obtain ⟨i, rfl, h3⟩ := intW_el h2
    obtain ⟨j, rfl, hj, h4⟩ := intW_el h3
    obtain rfl : v = .int i := hw
    obtain rfl : v2 = .int j := hw2
    have hlen : (intsFrom i (j - i).toNat).length = (j - i).toNat := by unfold intsFrom; rw [List.length_map, List.length_range]
    refine ⟨hj, k (Itr i (j - i).toNat) H1 _ Ω1 [] _ _ h4 e1 (by rw [hlen]; exact walk_range) (fun _ _ _ _ _ => True.intro) fun S n x σ Γ Ω H H' hi e y => ?_⟩
    obtain ⟨rfl, rfl⟩ := y
    rw [hlen] at hi
    exact ⟨.sh (.int (i + n)), by unfold intsFrom; rw [List.getElem?_map, List.getElem?_range hi]; rfl, e.addv rfl⟩⟩
/-! dict comprehensions -/
def dDcP (ws : List W) (g : DG) (dq : DB) (dk dv : DT) (vs : List Nat) (Γ : Gm) (Ω1 : Om) (Pv : Nat → List Key → List W → Prop) : Prop :=
  Pv 0 [] [] ∧ ∀ i w ks us p, ws[i]? = some w → Pv i ks us → notin p Ω1 → g w (wipeG Γ vs) ((p, .dic ks us) :: Ω1) fun Γ2 Ω2 => Ω2 = (p, .dic ks us) :: Ω1 ∧ dq Γ2 ((p, .dic ks us) :: Ω1) fun b Ω3 => Ω3 = (p, .dic ks us) :: Ω1 ∧
    if b = true then dk Γ2 ((p, .dic ks us) :: Ω1) fun y Ω4 => Ω4 = (p, .dic ks us) :: Ω1 ∧ dv Γ2 ((p, .dic ks us) :: Ω1) fun z Ω5 => Ω5 = (p, .dic ks us) :: Ω1 ∧ lenLt ks ∧ keyW y fun q => Pv (i + 1) (putA ks us q z).1 (putA ks us q z).2 else Pv (i + 1) ks us
def dDc (ix : List Nat) (di : DI) (g : DG) (dq : DB) (dk dv : DT) (vs : List Nat) (Γ : Gm) (Ω : Om) (Q : DQ) : Prop := (∀ i ∈ ix, i ∈ vs) ∧ di Γ Ω fun ws Ω1 => ∃ Pv : Nat → List Key → List W → Prop, dDcP ws g dq dk dv vs Γ Ω1 Pv ∧ ∀ ks us, Pv ws.length ks us → shsW us fun ds => Q (.sh (.dic ks ds)) Ω1
theorem DEnv.unownD {c : Cq am} {T : List Tp} {σ : L2.St} {Γ : Gm} {Ω : Om} {H : Hp} {p : Addr} {ks : List Key} {ds : List D} (e : DEnv K c T σ Γ ((p, .dic ks (ds.map .sh)) :: Ω) H) (n : notin p Ω) : DEnv K c (.v (.sh (.dic ks ds)) (.ref p) :: T) σ Γ Ω H := by
  have kx : ∀ b o, ¬ Ex c ((p, .dic ks (ds.map .sh)) :: Ω) b → H b = some o → ¬ Ex c Ω b ∧ H b = some o := fun b o n h => ⟨fun z => n (z.elim .inl fun z => .inr (List.mem_cons_of_mem _ z)), h⟩
  obtain ⟨vs, a1, an, a2⟩ := e.ob _ List.mem_cons_self
  have np : ¬ Ex c Ω p := fun z => z.elim (e.fr p List.mem_cons_self).2 n
  refine ⟨e.len, fun j w h => ?_, fun t ht => ?_, fun q hq => (e.ob q (List.mem_cons_of_mem _ hq)).mono kx fun _ h => h, (List.nodup_cons.mp e.nd).2, fun q hq => e.fr q (List.mem_cons_of_mem _ hq), e.el, e.frm, e.inv⟩
  · obtain ⟨v, h1, h2⟩ := e.sl j w h
    exact ⟨v, h1, h2.mono kx⟩
  · rcases List.mem_cons.mp ht with rfl | ht
    · exact ⟨p, vs, rfl, np, a1, by rw [List.length_map] at an; exact an, (a2.mono kx).lay⟩
    · exact (e.tm t ht).mono kx
instance s_dc {wi : TI} {di : DI} {g : TG} {d : DG} {ix vs : List Nat} {tq : TT} {dq : DB} {tk tv : TE} {dk dv : DT} [s0 : SI K am wi di] [s1 : SG K am g d ix] [s2 : ST K am tq dq] [s3 : SE K am tk dk] [s4 : SE K am tv dv] : SE K am (vDc wi g tq tk tv vs) (dDc ix di d dq dk dv vs) := ⟨fun {c T σ Γ Ω H Q R} e ⟨hx, h⟩ k =>
  s0.run e h fun J H1 ws Ω1 T' G Y ⟨Pv, ⟨p0, ps⟩, hz⟩ e1 hw hG hY => fun D hD => by
    obtain ⟨S, e2, back⟩ := e1.save
    have nD : notin D Ω1 := fun z => e1.noEx hD (.inr z)
    have e3 : DEnv K c (.v (.pt D) (.ref D) :: (S ++ (T' ++ T))) σ Γ ((D, .dic [] []) :: Ω1) (upd H1 D (.dK [])) := e2.own hD (e2.new hD) (.inr ⟨[], [], [], rfl, rfl, rfl, rfl⟩)
    have to' : ∀ {σ : L2.St} {Γ : Gm} {Ω : Om} {H : Hp}, DEnv K c (.v (.pt D) (.ref D) :: (S ++ (T' ++ T))) σ Γ Ω H → DEnv K c (T' ++ T) σ Γ Ω H := fun e => e.drop.drops
    refine ⟨ws.length, G, Y, fun i H => ∃ ks us σ2 Γ2, Pv i ks us ∧ DEnv K c (.v (.pt D) (.ref D) :: (S ++ (T' ++ T))) σ2 Γ2 ((D, .dic ks us) :: Ω1) H, hw, ⟨[], [], σ, Γ, p0, e3⟩, fun i H _ ⟨ks, us, σ2, Γ2, _, e⟩ => hG _ _ _ _ (to' e), fun i x H H' hi ⟨ks, us, σ2, Γ2, p, e⟩ y => ?_, fun H ⟨ks, us, σ2, Γ2, p, e⟩ => ?_⟩
    · have eW : DEnv K c (.v (.pt D) (.ref D) :: (S ++ (T' ++ T))) (L2.wipe σ vs) (wipeG Γ vs) ((D, .dic ks us) :: Ω1) H := by
        have b1 := (back e.drop).wipe vs
        exact ⟨b1.len, b1.sl, e.tm, e.ob, e.nd, e.fr, e.el, e.frm, e.inv⟩
      obtain ⟨w, hw', e5⟩ := hY (.v (.pt D) (.ref D) :: S) i x _ _ _ H H' hi eW y
      refine s1.run e5.drop e5.hd (ps i w ks us D hw' p nD) fun σ3 Γ3 Ω3 H3 ⟨z3, q3⟩ e6 hwp => ⟨by rw [hwp vs hx, wipe_wipe], ?_⟩
      subst z3
      refine s2.run e6 q3 fun b Ω4 H4 ⟨z4, q4⟩ e7 => ?_
      subst z4
      cases b with
      | false => exact ⟨ks, us, _, _, q4, e7⟩
      | true =>
        refine s3.run e7 q4 fun y wy Ω5 H5 ⟨z5, q5⟩ e8 => ?_
        subst z5
        refine s4.run e8 q5 fun z wz Ω6 H6 ⟨z6, hl, q6⟩ e9 => ?_
        subst z6
        obtain ⟨q, rfl, p'⟩ := keyW_el q6 e9.drop.hd
        obtain ⟨vs', a1, an, a2⟩ := e9.ob (D, .dic ks us) List.mem_cons_self
        obtain ⟨vs2, g1, g2, g3⟩ := putA_ok q an a2 e9.hd
        refine keyR_k (k := fun k => dkO (H6 D) fun kvs => kvs.length < sizeLine ∧ ∃ ks us σ2 Γ2, Pv (i + 1) ks us ∧ DEnv K c (.v (.pt D) (.ref D) :: (S ++ (T' ++ T))) σ2 Γ2 ((D, .dic ks us) :: Ω1) (upd H6 D (.dK (putK kvs k z)))) q ?_
        rw [a1]
        have e10 := e9.drop.drop.putD (look_hd (od := .dic ks us)) g1 g2 g3
        rw [put_hd nD] at e10
        refine ⟨?_, _, _, _, _, p', e10⟩
        rw [List.length_zip, ← a2.len, an, Nat.min_self, ← an]
        exact hl
    · have b1 := back e.drop
      obtain ⟨ds, rfl, h2⟩ := shsW_el (hz ks us p)
      have e' : DEnv K c T σ Γ ((D, .dic ks (ds.map .sh)) :: Ω1) H := ⟨b1.len, b1.sl, b1.drops.tm, b1.ob, b1.nd, b1.fr, b1.el, b1.frm, b1.inv⟩
      exact k _ _ _ _ h2 (e'.unownD nD)⟩
end
/-! what evaluates -/
section
variable {Ω : Om} {k : W → Prop}
theorem varR_e {w : W} : varR (some (some w)) k = k w := rfl
theorem intW_e {i : Int} {k : Int → Prop} : intW (.sh (.int i)) k = k i := rfl
theorem blW_e {i : Bool} {k : Bool → Prop} : blW (.sh (.bl i)) k = k i := rfl
theorem strW_e {i : Str} {k : Str → Prop} : strW (.sh (.str i)) k = k i := rfl
theorem shW_e {i : D} {k : D → Prop} : shW (.sh i) k = k i := rfl
theorem tyW_e {i : String} {k : String → Prop} : tyW (.ty i) k = k i := rfl
theorem tupW_n {ns : List Int} {k : List D → Prop} : tupW (.sh (.nt ns)) k = k (ns.map .int) := rfl
theorem tup0W_e {i : List D} {k : List D → Prop} : tup0W (.sh (.tup i)) k = k i := rfl
theorem tupW_e {i : List D} {k : List D → Prop} : tupW (.sh (.tup i)) k = k i := rfl
def lookL (o : Option OD) (k : List W → Prop) : Prop := match o with | some (.lst ws) => k ws | _ => False
def lookD (o : Option OD) (k : List Key → List W → Prop) : Prop := match o with | some (.dic ks ws) => k ks ws | _ => False
def lookR (o : Option OD) (k : List Key → List W → Prop) : Prop := match o with | some (.dic ks ws) => k ks ws | some (.lk _ _ ks ws) => k ks ws | _ => False
theorem lookR_e {ks : List Key} {ws : List W} {k : List Key → List W → Prop} : lookR (some (.dic ks ws)) k = k ks ws := rfl
theorem lookR_l {o : Obj} {kvs : List (Key × V)} {ks : List Key} {ws : List W} {k : List Key → List W → Prop} : lookR (some (.lk o kvs ks ws)) k = k ks ws := rfl
theorem lookL_e {ws : List W} {k : List W → Prop} : lookL (some (.lst ws)) k = k ws := rfl
theorem lookD_e {ks : List Key} {ws : List W} {k : List Key → List W → Prop} : lookD (some (.dic ks ws)) k = k ks ws := rfl
theorem seqW_e {xs : List D} {k : List W → Prop} : seqW Ω (.sh (.lst xs)) k = k (xs.map .sh) := rfl
theorem seqW_p {p : Addr} {k : List W → Prop} : seqW Ω (.pt p) k = lookL (look Ω p) k := rfl
theorem dicW_e {ks : List Key} {xs : List D} {k : List Key → List W → Prop} : dicW Ω (.sh (.dic ks xs)) k = k ks (xs.map .sh) := rfl
theorem dicW_p {p : Addr} {k : List Key → List W → Prop} : dicW Ω (.pt p) k = lookR (look Ω p) k := rfl
theorem ownL_p {p : Addr} {k : Addr → List W → Prop} : ownL Ω (.pt p) k = lookL (look Ω p) (k p) := rfl
theorem ownD_p {p : Addr} {k : Addr → List Key → List W → Prop} : ownD Ω (.pt p) k = lookD (look Ω p) (k p) := rfl
theorem keyW_i {i : Int} {k : Key → Prop} : keyW (.sh (.int i)) k = k (.inl i) := rfl
theorem keyW_s {i : Str} {k : Key → Prop} : keyW (.sh (.str i)) k = k (.inr i) := rfl
theorem one1W_e {w : W} {k : W → Prop} : one1W [w] k = k w := rfl
theorem two2W_e {w v : W} {k : W → W → Prop} : two2W [w, v] k = k w v := rfl
theorem shsW_nil {k : List D → Prop} : shsW [] k = k [] := rfl
theorem shsW_cons {x : D} {r : List W} {k : List D → Prop} : shsW (.sh x :: r) k = shsW r fun ds => k (x :: ds) := rfl
theorem shsW_app {xs : List D} {r : List W} {k : List D → Prop} : shsW (xs.map .sh ++ r) k = shsW r fun ds => k (xs ++ ds) := by
  induction xs generalizing k with
  | nil => rfl
  | cons x xs ih => exact ih
theorem intsD_nil {k : List Int → Prop} : intsD [] k = k [] := rfl
theorem intsD_cons {i : Int} {r : List D} {k : List Int → Prop} : intsD (.int i :: r) k = intsD r fun ds => k (i :: ds) := rfl
theorem cWR_n {k : W → Prop} : cWR .non k = k (.sh .non) := rfl
theorem cWR_b {b : Bool} {k : W → Prop} : cWR (.bl b) k = k (.sh (.bl b)) := rfl
theorem cWR_i {b : Int} {k : W → Prop} : cWR (.int b) k = k (.sh (.int b)) := rfl
theorem cWR_s {b : Str} {k : W → Prop} : cWR (.str b) k = k (.sh (.str b)) := rfl
theorem dC_n {Γ : Gm} {Q : DQ} : dC .non Γ Ω Q = Q (.sh .non) Ω := rfl
theorem dC_b {b : Bool} {Γ : Gm} {Q : DQ} : dC (.bl b) Γ Ω Q = Q (.sh (.bl b)) Ω := rfl
theorem dC_i {b : Int} {Γ : Gm} {Q : DQ} : dC (.int b) Γ Ω Q = Q (.sh (.int b)) Ω := rfl
theorem dC_s {b : Str} {Γ : Gm} {Q : DQ} : dC (.str b) Γ Ω Q = Q (.sh (.str b)) Ω := rfl
theorem dC_t {b : String} {Γ : Gm} {Q : DQ} : dC (.ty b) Γ Ω Q = Q (.ty b) Ω := rfl
theorem dC_r {b : Addr} {Γ : Gm} {Q : DQ} : dC (.ref b) Γ Ω Q = Q (.pt b) Ω := rfl
theorem flW_n {k : V → Prop} : flW (.sh .non) k = k .non := rfl
theorem flW_b {b : Bool} {k : V → Prop} : flW (.sh (.bl b)) k = k (.bl b) := rfl
theorem flW_i {b : Int} {k : V → Prop} : flW (.sh (.int b)) k = k (.int b) := rfl
theorem flW_s {b : Str} {k : V → Prop} : flW (.sh (.str b)) k = k (.str b) := rfl
theorem fls_nil {k : List V → Prop} : dInT.flsD [] k = k [] := rfl
theorem fls_n {r : List D} {k : List V → Prop} : dInT.flsD (.non :: r) k = dInT.flsD r fun vs => k (.non :: vs) := rfl
theorem fls_b {b : Bool} {r : List D} {k : List V → Prop} : dInT.flsD (.bl b :: r) k = dInT.flsD r fun vs => k (.bl b :: vs) := rfl
theorem fls_i {b : Int} {r : List D} {k : List V → Prop} : dInT.flsD (.int b :: r) k = dInT.flsD r fun vs => k (.int b :: vs) := rfl
theorem fls_s {b : Str} {r : List D} {k : List V → Prop} : dInT.flsD (.str b :: r) k = dInT.flsD r fun vs => k (.str b :: vs) := rfl
theorem lenW_l {xs : List D} {k : Nat → Prop} : lenW Ω (.sh (.lst xs)) k = k xs.length := rfl
theorem lenW_n {ns : List Int} {k : Nat → Prop} : lenW Ω (.sh (.nt ns)) k = k ns.length := rfl
theorem lenW_d {ks : List Key} {xs : List D} {k : Nat → Prop} : lenW Ω (.sh (.dic ks xs)) k = k ks.length := rfl
theorem lenW_t {xs : List D} {k : Nat → Prop} : lenW Ω (.sh (.tup xs)) k = k xs.length := rfl
theorem lenW_s {x : Str} {k : Nat → Prop} : lenW Ω (.sh (.str x)) k = (x.length ≤ sizeLine ∧ k x.length) := rfl
def lenO' (o : Option OD) (k : Nat → Prop) : Prop := match o with | some (.lst ws) => k ws.length | some (.dic ks _) => k ks.length | _ => False
theorem lenW_p {p : Addr} {k : Nat → Prop} : lenW Ω (.pt p) k = lenO' (look Ω p) k := by
  show (match look Ω p with
    | some (.lst ws) => k ws.length
    | some (.dic ks _) => k ks.length
    | _ => False) = _
  cases look Ω p with
  | none => rfl
  | some o => cases o <;> rfl
theorem lenO'_l {ws : List W} {k : Nat → Prop} : lenO' (some (.lst ws)) k = k ws.length := rfl
theorem lenO'_d {ks : List Key} {ws : List W} {k : Nat → Prop} : lenO' (some (.dic ks ws)) k = k ks.length := rfl
theorem atR_some {α : Type} {xs : List α} {i : Int} {v : α} {k : α → Prop} (h : L2.atI xs i = some v) : atR xs i k = k v := by unfold atR; rw [h]
theorem atR_0 {α : Type} {x : α} {xs : List α} {k : α → Prop} : atR (x :: xs) 0 k = k x := atR_some (atI_nat (j := 0) rfl)
theorem atR_1 {α : Type} {x y : α} {xs : List α} {k : α → Prop} : atR (x :: y :: xs) 1 k = k y := atR_some (atI_nat (j := 1) rfl)
theorem atR_2 {α : Type} {x y z : α} {xs : List α} {k : α → Prop} : atR (x :: y :: z :: xs) 2 k = k z := atR_some (atI_nat (j := 2) rfl)
theorem atR_3 {α : Type} {x y z u : α} {xs : List α} {k : α → Prop} : atR (x :: y :: z :: u :: xs) 3 k = k u := atR_some (atI_nat (j := 3) rfl)
theorem atR_4 {α : Type} {x y z u v : α} {xs : List α} {k : α → Prop} : atR (x :: y :: z :: u :: v :: xs) 4 k = k v := atR_some (atI_nat (j := 4) rfl)
theorem lenOk_0 {α : Type} : lenOk ([] : List α) = True := eq_true (lenOk_of (by show 0 ≤ _; decide))
theorem lenOk_1 {α : Type} {a : α} : lenOk [a] = True := eq_true (lenOk_of (by show 1 ≤ _; decide))
theorem lenOk_2 {α : Type} {a b : α} : lenOk [a, b] = True := eq_true (lenOk_of (by show 2 ≤ _; decide))
theorem lenOk_3 {α : Type} {a b c : α} : lenOk [a, b, c] = True := eq_true (lenOk_of (by show 3 ≤ _; decide))
theorem lenOk_4 {α : Type} {a b c d : α} : lenOk [a, b, c, d] = True := eq_true (lenOk_of (by show 4 ≤ _; decide))
theorem lenOk_5 {α : Type} {a b c d e : α} : lenOk [a, b, c, d, e] = True := eq_true (lenOk_of (by show 5 ≤ _; decide))
theorem look_tl {p q : Addr} {od : OD} (h : p ≠ q) : look ((q, od) :: Ω) p = look Ω p := by
  unfold look
  rw [List.find?_cons]
  have : decide (q = p) = false := decide_eq_false fun z => h z.symm
  rw [this]
theorem put_c {p : Addr} {od od' : OD} : OA.put ((p, od) :: Ω) p od' = (p, od') :: OA.put Ω p od' := by
  unfold OA.put
  rw [List.map_cons]
  simp only [if_true]
theorem put_n {p : Addr} {od' : OD} : OA.put [] p od' = [] := rfl
theorem put_t {p q : Addr} {od od' : OD} (h : q ≠ p) : OA.put ((q, od) :: Ω) p od' = (q, od) :: OA.put Ω p od' := by
  unfold OA.put
  rw [List.map_cons, if_neg h]
theorem notins_nil {Ω : Om} : notins [] Ω = True := eq_true fun p hp => by simp at hp
theorem sgnil_e {Γ : Gm} {Q : Gm → Om → Prop} : dGnil [] Γ Ω Q = Q Γ Ω := by unfold dGnil; simp
theorem sgcons_e {g : DG} {gs : DGs} {w : W} {r : List W} {Γ : Gm} {Q : Gm → Om → Prop} : dGcons g gs (w :: r) Γ Ω Q = g w Γ Ω fun Γ1 Ω1 => gs r Γ1 Ω1 Q := rfl
theorem dList_l {ds : List D} {k : List W → Prop} : (shW (.sh (.lst ds)) fun x => match x with | .lst ds => k (ds.map .sh) | _ => False) = k (ds.map .sh) := rfl
end
/-- a comprehension whose element is a function of the thing walked -/
theorem dLcP_of {ws : List W} {g : DG} {dq : DB} {de : DT} {vs : List Nat} {Γ : Gm} {Ω1 : Om} (F : W → Option W)
    (h : ∀ w ∈ ws, ∀ acc p (Pn : List W → Prop), notin p Ω1 → acc.length < ws.length → (∀ y, F w = some y → Pn (acc ++ [y])) → (F w = none → Pn acc) → g w (wipeG Γ vs) ((p, .lst acc) :: Ω1) fun Γ2 Ω2 => Ω2 = (p, .lst acc) :: Ω1 ∧ dq Γ2 ((p, .lst acc) :: Ω1) fun b Ω3 => Ω3 = (p, .lst acc) :: Ω1 ∧
      if b = true then de Γ2 ((p, .lst acc) :: Ω1) fun y Ω4 => Ω4 = (p, .lst acc) :: Ω1 ∧ lenLt acc ∧ Pn (acc ++ [y]) else Pn acc) :
    dLcP ws.length ws g dq de vs Γ Ω1 fun i acc => acc = (ws.take i).filterMap F := by
  refine ⟨rfl, fun i w acc p hw ha hn => ?_⟩
  have hi : i < ws.length := (List.getElem?_eq_some_iff.mp hw).1
  have ht : ws.take (i + 1) = ws.take i ++ [w] := by rw [List.take_succ, hw]; rfl
  refine h w (List.mem_of_getElem? hw) acc p (fun a => a = (ws.take (i + 1)).filterMap F) hn ?_ (fun y hy => ?_) fun hy => ?_
  · rw [ha]
    exact Nat.lt_of_le_of_lt (List.length_filterMap_le _ _) (Nat.lt_of_le_of_lt (List.length_take_le _ _) hi)
  · rw [ht, List.filterMap_append, ← ha]
    simp [hy]
  · rw [ht, List.filterMap_append, ← ha]
    simp [hy]
end OA

namespace OA
open PySem PySem.Spec PyProof.Rows L2
section
variable {K : PySem.W.Frag} {am : Am}
def dIsi (ws : List W) (Ω : Om) (Q : DQ) : Prop := two2W ws fun x c => tyW c fun n => tnW Ω x fun t => kitR t n fun r => Q (.sh (.bl r)) Ω
instance r_isi : SRC K am wIsi dIsi := ⟨fun {c T σ Γ Ω H xs ws Q R} e hs h k => by
  obtain ⟨x, v, w2, v2, rfl, hx, hc, h1⟩ := two2W_el h hs
  obtain ⟨n, rfl, h2⟩ := tyW_el h1
  obtain rfl : v2 = .ty n := hc
  have fin : ∀ t, kitR t n (fun r => Q (.sh (.bl r)) Ω) → optR (kitB t n) fun r => R (.bl r) H := fun t h => by
    unfold kitR at h
    split at h
    · rename_i r hr
      rw [hr]
      exact k _ _ _ _ h (e.addv rfl)
    · exact h.elim
  show optR (tyN v H) _
  unfold tnW at h2
  split at h2
  · obtain rfl : v = .non := hx
    exact fin _ h2
  · obtain rfl : v = .bl _ := hx
    exact fin _ h2
  · obtain rfl : v = .int _ := hx
    exact fin _ h2
  · obtain rfl : v = .str _ := hx
    exact fin _ h2
  · obtain ⟨a, vs, rfl, _, ha, _⟩ := hx
    rw [tyN_r, ha]
    exact fin _ h2
  · obtain ⟨a, ob, rfl, _, ha, _⟩ := hx
    rw [tyN_r, ha]
    exact fin _ h2
  · obtain ⟨a, vs, rfl, _, ha, _⟩ := hx
    rw [tyN_r, ha]
    exact fin _ h2
  · obtain rfl : v = .ref _ := hx
    split at h2
    · rename_i ws hl
      obtain ⟨vs, h3, h4⟩ := e.ob _ (look_mem hl)
      rw [tyN_r, h3]
      exact fin _ h2
    · rename_i ks ws hl
      obtain ⟨vs, h3, h4⟩ := e.ob _ (look_mem hl)
      rw [tyN_r, h3]
      exact fin _ h2
    · exact h2.elim
  · exact h2.elim⟩
theorem tn_n {Ω : Om} {k : String → Prop} : tnW Ω (.sh .non) k = k "NoneType" := rfl
theorem tn_b {Ω : Om} {b : Bool} {k : String → Prop} : tnW Ω (.sh (.bl b)) k = k "bool" := rfl
theorem tn_i {Ω : Om} {b : Int} {k : String → Prop} : tnW Ω (.sh (.int b)) k = k "int" := rfl
theorem tn_s {Ω : Om} {b : Str} {k : String → Prop} : tnW Ω (.sh (.str b)) k = k "str" := rfl
theorem tn_t {Ω : Om} {b : List D} {k : String → Prop} : tnW Ω (.sh (.tup b)) k = k "tuple" := rfl
theorem tn_nt {Ω : Om} {b : List Int} {k : String → Prop} : tnW Ω (.sh (.nt b)) k = k "tuple" := rfl
theorem tn_l {Ω : Om} {b : List D} {k : String → Prop} : tnW Ω (.sh (.lst b)) k = k "list" := rfl
theorem kr_NoneType_bool {k : Bool → Prop} : kitR "NoneType" "bool" k = k false := by unfold kitR; rw [kit_NoneType_bool]
theorem kr_NoneType_int {k : Bool → Prop} : kitR "NoneType" "int" k = k false := by unfold kitR; rw [kit_NoneType_int]
theorem kr_NoneType_str {k : Bool → Prop} : kitR "NoneType" "str" k = k false := by unfold kitR; rw [kit_NoneType_str]
theorem kr_NoneType_list {k : Bool → Prop} : kitR "NoneType" "list" k = k false := by unfold kitR; rw [kit_NoneType_list]
theorem kr_NoneType_tuple {k : Bool → Prop} : kitR "NoneType" "tuple" k = k false := by unfold kitR; rw [kit_NoneType_tuple]
theorem kr_NoneType_dict {k : Bool → Prop} : kitR "NoneType" "dict" k = k false := by unfold kitR; rw [kit_NoneType_dict]
theorem kr_bool_bool {k : Bool → Prop} : kitR "bool" "bool" k = k true := by unfold kitR; rw [kit_bool_bool]
theorem kr_bool_int {k : Bool → Prop} : kitR "bool" "int" k = k true := by unfold kitR; rw [kit_bool_int]
theorem kr_bool_str {k : Bool → Prop} : kitR "bool" "str" k = k false := by unfold kitR; rw [kit_bool_str]
theorem kr_bool_list {k : Bool → Prop} : kitR "bool" "list" k = k false := by unfold kitR; rw [kit_bool_list]
theorem kr_bool_tuple {k : Bool → Prop} : kitR "bool" "tuple" k = k false := by unfold kitR; rw [kit_bool_tuple]
theorem kr_bool_dict {k : Bool → Prop} : kitR "bool" "dict" k = k false := by unfold kitR; rw [kit_bool_dict]
theorem kr_int_bool {k : Bool → Prop} : kitR "int" "bool" k = k false := by unfold kitR; rw [kit_int_bool]
theorem kr_int_int {k : Bool → Prop} : kitR "int" "int" k = k true := by unfold kitR; rw [kit_int_int]
theorem kr_int_str {k : Bool → Prop} : kitR "int" "str" k = k false := by unfold kitR; rw [kit_int_str]
theorem kr_int_list {k : Bool → Prop} : kitR "int" "list" k = k false := by unfold kitR; rw [kit_int_list]
theorem kr_int_tuple {k : Bool → Prop} : kitR "int" "tuple" k = k false := by unfold kitR; rw [kit_int_tuple]
theorem kr_int_dict {k : Bool → Prop} : kitR "int" "dict" k = k false := by unfold kitR; rw [kit_int_dict]
theorem kr_str_bool {k : Bool → Prop} : kitR "str" "bool" k = k false := by unfold kitR; rw [kit_str_bool]
theorem kr_str_int {k : Bool → Prop} : kitR "str" "int" k = k false := by unfold kitR; rw [kit_str_int]
theorem kr_str_str {k : Bool → Prop} : kitR "str" "str" k = k true := by unfold kitR; rw [kit_str_str]
theorem kr_str_list {k : Bool → Prop} : kitR "str" "list" k = k false := by unfold kitR; rw [kit_str_list]
theorem kr_str_tuple {k : Bool → Prop} : kitR "str" "tuple" k = k false := by unfold kitR; rw [kit_str_tuple]
theorem kr_str_dict {k : Bool → Prop} : kitR "str" "dict" k = k false := by unfold kitR; rw [kit_str_dict]
theorem kr_list_bool {k : Bool → Prop} : kitR "list" "bool" k = k false := by unfold kitR; rw [kit_list_bool]
theorem kr_list_int {k : Bool → Prop} : kitR "list" "int" k = k false := by unfold kitR; rw [kit_list_int]
theorem kr_list_str {k : Bool → Prop} : kitR "list" "str" k = k false := by unfold kitR; rw [kit_list_str]
theorem kr_list_list {k : Bool → Prop} : kitR "list" "list" k = k true := by unfold kitR; rw [kit_list_list]
theorem kr_list_tuple {k : Bool → Prop} : kitR "list" "tuple" k = k false := by unfold kitR; rw [kit_list_tuple]
theorem kr_list_dict {k : Bool → Prop} : kitR "list" "dict" k = k false := by unfold kitR; rw [kit_list_dict]
theorem kr_tuple_bool {k : Bool → Prop} : kitR "tuple" "bool" k = k false := by unfold kitR; rw [kit_tuple_bool]
theorem kr_tuple_int {k : Bool → Prop} : kitR "tuple" "int" k = k false := by unfold kitR; rw [kit_tuple_int]
theorem kr_tuple_str {k : Bool → Prop} : kitR "tuple" "str" k = k false := by unfold kitR; rw [kit_tuple_str]
theorem kr_tuple_list {k : Bool → Prop} : kitR "tuple" "list" k = k false := by unfold kitR; rw [kit_tuple_list]
theorem kr_tuple_tuple {k : Bool → Prop} : kitR "tuple" "tuple" k = k true := by unfold kitR; rw [kit_tuple_tuple]
theorem kr_tuple_dict {k : Bool → Prop} : kitR "tuple" "dict" k = k false := by unfold kitR; rw [kit_tuple_dict]
theorem kr_dict_bool {k : Bool → Prop} : kitR "dict" "bool" k = k false := by unfold kitR; rw [kit_dict_bool]
theorem kr_dict_int {k : Bool → Prop} : kitR "dict" "int" k = k false := by unfold kitR; rw [kit_dict_int]
theorem kr_dict_str {k : Bool → Prop} : kitR "dict" "str" k = k false := by unfold kitR; rw [kit_dict_str]
theorem kr_dict_list {k : Bool → Prop} : kitR "dict" "list" k = k false := by unfold kitR; rw [kit_dict_list]
theorem kr_dict_tuple {k : Bool → Prop} : kitR "dict" "tuple" k = k false := by unfold kitR; rw [kit_dict_tuple]
theorem kr_dict_dict {k : Bool → Prop} : kitR "dict" "dict" k = k true := by unfold kitR; rw [kit_dict_dict]
/-! list.pop(), list.remove(k) -/
def wPop : V → List V → Hp → VK → Prop := fun x vs H Q => refR x fun l => lstO (H l) fun xs => vs = [] ∧ optR (xs[xs.length - 1]?) fun v => Q v (upd H l (.lst xs.dropLast))
end
end OA

namespace OA
open PySem PySem.Spec PyProof.Rows L2
section
variable {K : PySem.W.Frag} {am : Am}
/-! a dict walked by its keys while it is locked -/
def keyD : Key → D
  | .inl i => .int i
  | .inr s => .str s
def dForK (i : Nat) (g : DG) (dt : DS) (N : DN) (Γ : Gm) (Ω : Om) : Prop := varR (Γ[i]?) fun w => ownD Ω w fun p ks ws => ∀ o kvs, ∃ Pv : Nat → Gm → Om → Prop, Pv 0 Γ (OA.put Ω p (.lk o kvs ks ws)) ∧
  (∀ j q Γ Ω', ks[j]? = some q → Pv j Γ Ω' → look Ω' p = some (.lk o kvs ks ws) ∧ g (.sh (keyD q)) Γ Ω' fun Γ2 Ω2 => LaterD (dt ⟨Pv (j + 1), fun w Ω' => look Ω' p = some (.lk o kvs ks ws) ∧ N.rt w (OA.put Ω' p (.dic ks ws)), fun _ _ => False, Pv (j + 1)⟩) Γ2 Ω2) ∧
  ∀ Γ Ω', Pv ks.length Γ Ω' → look Ω' p = some (.lk o kvs ks ws) ∧ LaterD N.nx Γ (OA.put Ω' p (.dic ks ws))
theorem look_put {Ω : Om} {p : Addr} {od od' : OD} (h : look Ω p = some od) : look (OA.put Ω p od') p = some od' := by
  induction Ω with
  | nil => simp [look] at h
  | cons q Ω ih =>
    obtain ⟨b, o⟩ := q
    by_cases z : b = p
    · subst z
      rw [put_c, look_hd]
    · rw [put_t z, look_tl (fun y => z y.symm)]
      rw [look_tl (fun y => z y.symm)] at h
      exact ih h
theorem DEnv.unlock {c : Cq am} {T : List Tp} {σ : L2.St} {Γ : Gm} {Ω : Om} {H : Hp} {p : Addr} {o : Obj} {kvs : List (Key × V)} {ks : List Key} {ws : List W} (e : DEnv K c T σ Γ Ω H) (hl : look Ω p = some (.lk o kvs ks ws)) : H p = some (.frz o (.dK kvs)) ∧ DEnv K c T σ Γ (OA.put Ω p (.dic ks ws)) (upd H p (.dK kvs)) := by
  obtain ⟨vs, h1, h2, h3, h4⟩ := e.ob _ (look_mem hl)
  exact ⟨h1, e.putD hl h2 h3 h4⟩
instance s_forK {i : Nat} {g : TG} {d : DG} {ix : List Nat} {ts : TS} {dt : DS} [s1 : SG K am g d ix] [s2 : SS K am ts dt] : SS K am (tLock (vFor (viKeys (vVar i)) g ts)) (dForK i d dt) := ⟨fun {c T σ Γ Ω H D N} e h o => by
  obtain ⟨w, h1, h2⟩ := varR_el h
  obtain ⟨v, h3, h4⟩ := e.sl i w h1
  obtain ⟨a, ks, vs, ws, rfl, hl, ha, hn, hv, h5⟩ := ownD_el e h4 h2
  refine ⟨a, _, ha, True.intro, fun od => ?_⟩
  obtain ⟨Pv, p0, ps, pe⟩ := h5 od (ks.zip vs)
  have hlk : look (OA.put Ω a (.lk od (ks.zip vs) ks ws)) a = some (.lk od (ks.zip vs) ks ws) := look_put hl
  have e1 : DEnv K c T σ Γ (OA.put Ω a (.lk od (ks.zip vs) ks ws)) (upd H a (.frz od (.dK (ks.zip vs)))) :=
    e.put hl ⟨vs, upd_same, rfl, hn, hv.mono fun b o n h => ⟨n, by rw [upd_ne fun z => n (.inr (by rw [z]; exact List.mem_map.mpr ⟨_, look_mem hl, rfl⟩))]; exact h⟩⟩
  show optR _ _
  rw [h3]
  show frzO (upd H a _ a) _
  rw [upd_same, frzO_e]
  have gets : ∀ j σ Γ Ω H, j ≤ ks.length → Pv j Γ Ω → DEnv K c T σ Γ Ω H → look Ω a = some (.lk od (ks.zip vs) ks ws) := fun j σ Γ Ω H hj p e => by
    rcases Nat.lt_or_eq_of_le hj with z | z
    · exact (ps j _ Γ Ω (List.getElem?_eq_getElem z) p).1
    · rw [z] at p
      exact (pe Γ Ω p).1
  have hz : (ks.zip vs).length = ks.length := by rw [List.length_zip, ← hv.len, hn, Nat.min_self]
  have wk : Walk (Itk a od (ks.zip vs)) ks.length (fun H => H a = some (.frz od (.dK (ks.zip vs)))) (fun i H x H' => H' = H ∧ ∃ k v, (ks.zip vs)[i]? = some (k, v) ∧ x = kV k) := by
    have z := walk_keys (d := a) (o := od) (kvs := ks.zip vs)
    rw [hz] at z
    exact z
  refine ⟨ks.length, _, _, fun j σ H => ∃ Γ Ω, Pv j Γ Ω ∧ DEnv K c T σ Γ Ω H, wk, ⟨Γ, _, p0, e1⟩, fun j σ H hj ⟨Γ, Ω, p, e⟩ => (e.unlock (gets j σ Γ Ω H hj p e)).1, fun j x σ H H' hj ⟨Γ, Ω, p, e⟩ y => ?_, fun σ H ⟨Γ, Ω, p, e⟩ => ?_⟩
  · obtain ⟨rfl, q, u, hq, rfl⟩ := y
    have hk : ks[j]? = some q := by
      have := congrArg (Option.map Prod.fst) hq
      rw [← List.getElem?_map, List.map_fst_zip (by rw [← hv.len, hn]; exact Nat.le_refl _)] at this
      exact this
    obtain ⟨g1, g2⟩ := ps j q Γ Ω hk p
    have hkv : VOk K H' (Ex c Ω) (.sh (keyD q)) (kV q) := by cases q <;> exact rfl
    refine s1.run e hkv g2 fun σ2 Γ2 Ω2 H2 q2 e2 _ => ?_
    obtain ⟨Γ3, Ω3, h3, e4⟩ := LaterD.run q2 e2
    refine s2.run e4 h3 ⟨fun σ' Γ' Ω' H' p' e' => ⟨Γ', Ω', p', e'⟩, fun v w σ' Γ' Ω' H' ⟨hl', q'⟩ e' => ?_, fun _ _ _ _ z _ => z.elim, fun σ' Γ' Ω' H' p' e' => ⟨Γ', Ω', p', e'⟩⟩
    obtain ⟨b1, b2⟩ := e'.unlock hl'
    exact ⟨b1, o.rt _ _ _ _ _ _ q' b2⟩
  · obtain ⟨hl', q'⟩ := pe Γ Ω p
    obtain ⟨b1, b2⟩ := e.unlock hl'
    obtain ⟨Γ3, Ω3, h3, e4⟩ := LaterD.run q' b2
    exact ⟨b1, o.nx _ _ _ _ h3 e4⟩⟩
end
end OA

namespace OA
open PySem PySem.Spec PyProof.Rows L2
theorem Same.new {H : Hp} {p : Addr} {o : HO} (h : H p = none) : Same H (upd H p o) := fun b u e => by
  rw [upd_ne (ne_of_none e h)]
  exact e
theorem atI_zero (x : V) (xs : List V) : atI (x :: xs) 0 = some x := by
  have := atI_nat (xs := x :: xs) (j := 0) (v := x) rfl
  exact this
theorem atI_one (x y : V) (xs : List V) : atI (x :: y :: xs) 1 = some y := atI_nat (xs := x :: y :: xs) (j := 1) (v := y) rfl
theorem atI_two (x y z : V) (xs : List V) : atI (x :: y :: z :: xs) 2 = some z := atI_nat (xs := x :: y :: z :: xs) (j := 2) (v := z) rfl
theorem Same.back {H H' : Hp} (e : Same H H') : ∀ b, H' b = none → H b = none := fun b h => by
  cases q : H b with
  | none => rfl
  | some o => rw [e b o q] at h; cases h
/-- wakes, by number and moment -/
abbrev WL := List (Nat × Nat)
def wkv (wl : WL) : List (Key × V) := wl.map fun x => (Sum.inl (x.1 : Int), V.int (x.2 : Nat))
theorem valV_wkv {wl : WL} {j : Nat} : valV (wkv wl) (Sum.inl (j : Int)) = (wl.lookup j).map fun t => V.int (t : Nat) := by
  unfold valV wkv
  induction wl with
  | nil => rfl
  | cons x wl ih =>
    rw [List.map_cons, List.find?_cons]
    by_cases h : x.1 = j
    · have h1 : (j == x.1) = true := by simp [h]
      simp [h, List.lookup]
    · have h1 : (j == x.1) = false := by simp; omega
      have h2 : ¬ ((x.1 : Int) = (j : Int)) := by omega
      simp only [List.lookup, h1, Sum.inl.injEq, h2, decide_false]
      exact ih
end OA

namespace OA
open PySem L2
local macro_rules
  | `(tactic| simp! [$a,*]) => `(tactic| simp -implicitDefEqProofs only [wNeD0, wRep, tDNewK, vDc, wSortDI, dkR_e, dkR_f, e_cut, wSetL, vLstRg, wLstD, e_lock, vVals, gSub, tCKw, frzO_e, viItems, viKeys, vRev, e_while, e_for, e_asgG, gName, vgTup, vgCons_e, vgNil_e, viList, viTup, viStr, viR1, viEnum, vLc, tYes, wipe, e_seq, e_next, e_drop, e_ret, e_retN, e_sfld, e_augI, e_aug, e_dput, vIf, vTest, wInT, vVar, vFld, tC, tOp, tUn, wI0, wIC, rEq, rNe, scal, wAddS, wMulS, wCat, wNeg, wIxL, wIxT, wIxS, vPart, tNoPart, tSl, wSlL, tCB, tCons, tNil, len_s, wTupL, wLstL, wAbs, wIntB, wMin2, wMax2, vAnd, vOr, vNot, vChain, vMeth, vCall, vMake, vLM0, vLM, isLst, wAppend, wPopAt, wInsert0, vStar, vDGet, vDIn, vDNotIn, tTup, tLst, tIf, tAnd, tOr, tNot, refR_e, intR_e, blR_e, strR_e, optR_e, keyR_i, keyR_s, insO_e, lstO_e, tupO_e, tupO_f, dkO_e, one1_e, two2_e, len_r, lenO_l, lenO_t, lenO_f, lenO_d, L2.start, List.map, List.replicate, List.length_cons, List.length_nil, List.cons_append, List.nil_append, List.append_nil, List.getElem?_cons_zero, List.getElem?_cons_succ, List.set_cons_zero, List.set_cons_succ, true_and, and_true, cx_K, cx_prog, cx_w, blkK, Int.toNat_natCast, upd_same, upd_upd, if_true, if_false, decide_eq_true_eq, reduceCtorEq, reduceIte, Bool.false_eq_true, decide_true, decide_false, Bool.true_and, Bool.false_and, Bool.and_true, Bool.and_false, Bool.not_true, Bool.not_false, V.int.injEq, V.str.injEq, V.bl.injEq, putF_nil, Nat.reduceAdd, Nat.reduceSub, Nat.reduceLT, Int.reduceEq, Int.reduceLT, Int.reduceLE, Int.reduceAdd, Int.reduceSub, Int.cast_ofNat_Int, wIsi, tyR_e, tyO_l, tyO_t, tyO_f, tyO_d, tyN_n, tyN_b, tyN_i, tyN_s, tyN_r, kit_NoneType_bool, kit_NoneType_int, kit_NoneType_str, kit_NoneType_list, kit_NoneType_tuple, kit_NoneType_dict, kit_bool_bool, kit_bool_int, kit_bool_str, kit_bool_list, kit_bool_tuple, kit_bool_dict, kit_int_bool, kit_int_int, kit_int_str, kit_int_list, kit_int_tuple, kit_int_dict, kit_str_bool, kit_str_int, kit_str_str, kit_str_list, kit_str_tuple, kit_str_dict, kit_list_bool, kit_list_int, kit_list_str, kit_list_list, kit_list_tuple, kit_list_dict, kit_tuple_bool, kit_tuple_int, kit_tuple_str, kit_tuple_list, kit_tuple_tuple, kit_tuple_dict, kit_dict_bool, kit_dict_int, kit_dict_str, kit_dict_list, kit_dict_tuple, kit_dict_dict, $a,*])
  | `(tactic| dsimp! [$a,*]) => `(tactic| ((try refine Later.mk ?_); simp! [$a,*]; repeat (refine Later.mk ?_; simp! [$a,*])))
def viListS (K : PySem.W.Frag) (tl : TE) : TI := fun σ H R => tl σ H fun x H1 => refR x fun a => (∃ xs, SqL K H1 a xs) ∧ R (Itl K a) H1
theorem qi_listS {X : Cx} {tg l : Expr} {tl : TE} (hl : PE X l tl) : PI X tg l (viListS X.K tl) := im_pi (pi_list (up_pe hl)) fun _ _ _ h => ⟨_, h, fun _ _ z => by
  obtain ⟨a, e1, z1, z2⟩ := refR_el z
  exact ⟨a, e1, z1, z2⟩⟩
/-- draws: numbers from 0 on, the first one below a line -/
structure DrawOk (ns : List Int) : Prop where
  l2 : 2 ≤ ns.length
  l100 : ns.length ≤ 100
  nn : ∀ z ∈ ns, 0 ≤ z
  hd : ns.headD 0 < 2147483647
section
variable {P : Program} {w : World} {K : PySem.W.Frag} {mg : Str → Option Value} {base : Heap} {A : Ad}
def DrawAt (H : Hp) (d : Addr) : Prop := ∃ ns : List Int, H d = some (.lst (ns.map V.int)) ∧ DrawOk ns
theorem abs_eq (z : Int) : (if z < 0 then -z else z) = (z.natAbs : Int) := by split <;> omega
theorem getInt {ns : List Int} {i : Nat} {x : V} (e : (ns.map V.int)[i]? = some x) : ∃ z, z ∈ ns ∧ x = .int z := by
  rw [List.getElem?_map] at e
  cases q : ns[i]? with
  | none => rw [q] at e; cases e
  | some z => rw [q] at e; exact ⟨z, List.mem_of_getElem? q, (Option.some.inj e).symm⟩
def spDice (K : PySem.W.Frag) : Sp := fun vs H Q _ => ∃ (a : Addr) (ns : List Int), vs = [.ref a, .int 0] ∧ SqL K H a (ns.map V.int) ∧ ns.length ≤ 63 ∧ ∀ d H', Same H H' → H d = none → DrawAt H' d → Q (.ref d) H'
theorem sc__law_dice : FnScope ["_law_script", "_law_k", "_law_found", "_law_cell"] ["_law_script", "_law_k"] (defScope s__law_dice) := ⟨rfl, rfl, rfl, by decide +kernel, rfl, by decide +kernel, by decide +kernel⟩
theorem ok__law_dice (T : Txt K mg base A) : FnOk P w K mg base CX0 2 A._law_dice A.d__law_dice ["_law_script", "_law_k"] (spDice K) := by
  refine T.F__law_dice.ok sc__law_dice (fun vs H Q E h => ?_) (fun cdv A' outer s H vs Q E hr h => ?_)
  · obtain ⟨a, ns, rfl, _⟩ := h
    rfl
  obtain ⟨a, ns, rfl, hS, hl, kk⟩ := h
  have hu := hu_of hr
  refine ⟨_, (qs_cons (ps_set (i := 2) sc__law_dice.nd rfl (Or.inl rfl) (qv 1))
    (qs_cons (q_for PassesOwn.never rfl (qi_listS (qv 0)) (pg_name (i := 3) sc__law_dice.nd rfl (Or.inl rfl)) (pss_one (ps_set (i := 2) sc__law_dice.nd rfl (Or.inl rfl) (pe_op o_mod (pe_op o_add (pe_op o_mul (qv 2) pe_int) (pe_callB c_abs (by rfl) T.m_abs (by decide +kernel) (pa_cons (qv 3) pa_nil))) pe_int))))
    (pss_one (ps_ret (pe_op o_cat (pe_lst (pa_cons (qv 2) (pa_cons pe_int pa_nil))) (q_lc (own := [("_law_cell", 3)]) (g := gName 3) rfl sc__law_dice.nd (qi_listS (qv 0)) (blkOk_by (own := [("_law_cell", 3)]) (N := ["_law_script", "_law_k", "_law_found", "_law_cell"]) (sc := defScope s__law_dice) (by decide +kernel)) (fun _ _ _ _ _ => (pg_name (i := 3) sc__law_dice.nd rfl (Or.inl rfl))) (fun _ _ _ _ _ => pts_one (q_cmp o_ge (qv 3) (pe_op op_pow pe_int pe_int) (nomark _))) (fun _ _ _ _ _ => (qv 3)))))))), ?_⟩
  dsimp! [viListS]
  refine ⟨⟨_, hS⟩, _, _, _, fun i σ H1 => H1 = H ∧ ∃ (z : Int) (v : Option V), σ = [some (.ref a), some (.int 0), some (.int z), v] ∧ 0 ≤ z ∧ z < 2147483647, walk_list (K := K) (a := a) (xs := ns.map V.int), ⟨rfl, 0, none, rfl, by decide, by decide⟩, ?_, ?_, ?_⟩
  · rintro i σ H1 _ ⟨rfl, _⟩
    exact hS
  · rintro i x σ H1 H2 hi ⟨rfl, z, v, rfl, h0, h1⟩ ⟨rfl, ex⟩
    obtain ⟨y, _, rfl⟩ := getInt ex
    dsimp! []
    refine ⟨.inr ⟨by decide, by decide⟩, _, _, rfl, ?_, ?_⟩
    · exact Int.emod_nonneg _ (by decide)
    · exact Int.emod_lt_of_pos _ (by decide)
  · rintro σ H1 ⟨rfl, z, v, rfl, h0, h1⟩
    dsimp! [viListS]
    refine ⟨by decide, fun p hp => ⟨⟨_, (Same.new hp).seq hS⟩, fun D hD => ?_⟩⟩
    have nD : p ≠ D := ne_of_none upd_same hD
    refine ⟨_, _, _, fun i H2 => Same (upd H1 p (.lst [V.int z, V.int 0])) H2 ∧ ∃ ms : List Int, H2 D = some (.lst (ms.map V.int)) ∧ ms.length ≤ i ∧ ∀ y ∈ ms, 0 ≤ y, walk_list (K := K) (a := a) (xs := ns.map V.int), ⟨Same.new hD, [], upd_same, Nat.le_refl _, fun y hy => by simp at hy⟩, fun i H2 _ h => ((Same.new hp).trans h.1).seq hS, ?_, ?_⟩
    · rintro i x H2 H3 hi ⟨sm, ms, hD2, hml, hms⟩ ⟨rfl, ex⟩
      obtain ⟨y, _, rfl⟩ := getInt ex
      refine ⟨10, 18, rfl, rfl, ⟨by decide, by decide, by decide⟩, ?_⟩
      rw [List.length_map] at hi
      dsimp! [hD2]
      refine ite2 (fun c => ?_) (fun c => ⟨sm, ms, by first | exact hD2 | rfl, by omega, hms⟩)
      have hy : 0 ≤ y := Int.le_trans (by decide) c
      refine ⟨by rw [List.length_map, sizeLine_eq]; omega, fun b o e => ?_, ms ++ [y], by rw [List.map_append]; rfl, by rw [List.length_append]; simp; omega, fun u hu => ?_⟩
      · have hnb : b ≠ D := ne_of_none e hD
        rw [upd_ne hnb]
        exact sm _ _ e
      · rcases List.mem_append.mp hu with h | h
        · exact hms u h
        · have : u = y := by simpa using h
          omega
    · rintro H2 ⟨sm, ms, hD2, hml, hms⟩
      have hp2 := sm _ _ upd_same
      rw [List.length_map] at hml
      dsimp! [hp2, hD2]
      refine ⟨by rw [List.length_map, sizeLine_eq]; omega, fun q hq => ?_⟩
      have s2 : Same H1 H2 := (Same.new hp).trans sm
      refine kk q _ (s2.trans (Same.new hq)) (Same.back s2 _ hq) ⟨z :: 0 :: ms, ?_, ⟨by simp, by simp; omega, fun y hy => ?_, h1⟩⟩
      · rw [upd_same]
        rfl
      · rcases List.mem_cons.mp hy with rfl | hy
        · exact h0
        · rcases List.mem_cons.mp hy with rfl | hy
          · exact Int.le_refl _
          · exact hms y hy
/-- all but d is kept -/
def KeptD (d : Addr) (H H' : Hp) : Prop := ∀ b o, H b = some o → b ≠ d → H' b = some o
def spOff (A : Ad) : Sp := fun vs H Q _ => ∃ (d : Addr) (most : Nat), vs = [.ref d, .int most] ∧ DrawAt H d ∧ 1 ≤ most ∧ most ≤ 1000 ∧ ∀ (x : Nat) H', x < most → KeptD d H H' → DrawAt H' d → Q (.int x) H'
theorem sc__law_off : FnScope ["_law_d", "_law_most", "_law_found"] ["_law_d", "_law_most"] (defScope s__law_off) := ⟨rfl, rfl, rfl, by decide +kernel, rfl, by decide +kernel, by decide +kernel⟩
theorem ok__law_off (T : Txt K mg base A) : FnOk P w K mg base CX0 1 A._law_off A.d__law_off ["_law_d", "_law_most"] (spOff A) := by
  refine T.F__law_off.ok sc__law_off (fun vs H Q E h => ?_) (fun cdv A' outer s H vs Q E hr h => ?_)
  · obtain ⟨d, most, rfl, _⟩ := h
    rfl
  obtain ⟨d, most, rfl, hD, h1, h2, kk⟩ := h
  have hu := hu_of hr
  refine ⟨_, (qs_cons (q_cut (q_if (PW.pt (pw_and (q_cmp op_eq (pe_ix ix_L (qv 0) pe_int (fun _ _ => rfl)) pe_int (nomark _)) (pw_and1 (q_cmp o_gt (pe_callB c_len (by rfl) T.m_len (by decide +kernel) (pa_cons (qv 0) pa_nil)) pe_int (nomark _))))) (pss_one (ps_asg (lm1 PySem.F.slot_list_pop PySem.F.type_list_pop m_popAt (qv 0) (pa_cons pe_int pa_nil)) (pg_sub (qv 0) pe_int s_setL))) pss_nil))
    (qs_cons (q_if (q_cmp o_gt (pe_ix ix_L (qv 0) pe_int (fun _ _ => rfl)) pe_int (nomark _)) (qs_cons (ps_set (i := 2) sc__law_off.nd rfl (Or.inl rfl) (pe_op o_mod (pe_ix ix_L (qv 0) pe_int (fun _ _ => rfl)) (qv 1)))
    (qs_cons (ps_asg (pe_op o_fdiv (pe_ix ix_L (qv 0) pe_int (fun _ _ => rfl)) (qv 1)) (pg_sub (qv 0) pe_int s_setL))
    (pss_one (ps_ret (qv 2))))) pss_nil)
    (qs_cons (ps_asg (pe_op o_mod (pe_op o_add (pe_op o_mul (pe_ix ix_L (qv 0) pe_int (fun _ _ => rfl)) pe_int) pe_int) pe_int) (pg_sub (qv 0) pe_int s_setL))
    (pss_one (ps_ret (pe_op o_mod (pe_op o_fdiv (pe_ix ix_L (qv 0) pe_int (fun _ _ => rfl)) pe_int) (qv 1))))))), ?_⟩
  have ixs : ∀ z0 z1 r, atI (V.int z0 :: V.int z1 :: r) 1 = some (V.int z1) := fun z0 z1 r => atI_one _ _ _
  dsimp! []
  refine ⟨fun σ H1 => σ = [some (.ref d), some (.int most), none] ∧ KeptD d H H1 ∧ DrawAt H1 d, ?_, ?_⟩
  · rintro σ H1 ⟨rfl, kd, ns, hd, ⟨l2, l100, nn, hh⟩⟩
    obtain ⟨z0, z1, r, rfl⟩ : ∃ z0 z1 r, ns = z0 :: z1 :: r := by
      match ns, l2 with
      | z0 :: z1 :: r, _ => exact ⟨z0, z1, r, rfl⟩
    have hz0 : 0 ≤ z0 := nn z0 (by simp)
    have hz1 : 0 ≤ z1 := nn z1 (by simp)
    have hz0' : z0 < 2147483647 := hh
    have nnr : ∀ z ∈ r, 0 ≤ z := fun z hz => nn z (by simp [hz])
    have hm : (0 : Int) < most := by omega
    have fin : ∀ (x : Int) (u0 u1 : Int), 0 ≤ x → x < most → 0 ≤ u0 → u0 < 2147483647 → 0 ≤ u1 → Q (.int x) (upd H1 d (.lst (V.int u0 :: V.int u1 :: List.map V.int r))) := fun x u0 u1 hx hxm a0 a1 b0 => by
      obtain ⟨n, rfl⟩ := Int.eq_ofNat_of_zero_le hx
      refine kk n _ (by omega) (fun b o e n => by rw [upd_ne n]; exact kd b o e n) ⟨u0 :: u1 :: r, upd_same, ⟨by simp, by simpa using l100, fun z hz => ?_, a1⟩⟩
      rcases List.mem_cons.mp hz with rfl | hz
      · exact a0
      · rcases List.mem_cons.mp hz with rfl | hz
        · exact b0
        · exact nnr z hz
    dsimp! [hd, atI_zero, ixs, ixN_one, ixN_zero]
    refine ite2 (fun c => ?_) (fun c => ?_)
    · dsimp! [hd, atI_zero, ixs, ixN_one, ixN_zero]
      refine ⟨hm, ?_⟩
      dsimp! [hd, atI_zero, ixs, ixN_one, ixN_zero]
      refine ⟨⟨hm, by omega⟩, ?_⟩
      dsimp! [hd, atI_zero, ixs, ixN_one, ixN_zero]
      exact fin _ z0 (z1 / most) (Int.emod_nonneg _ (by omega)) (Int.emod_lt_of_pos _ hm) hz0 hz0' (Int.ediv_nonneg hz1 (by omega))
    · (refine Later.mk ?_; simp! [])
      refine Later.mk ?_
      simp -implicitDefEqProofs only [e_seq, e_asgG, e_asg, tOp, vVar, tC, wIxL, gSub, optR_e, List.getElem?_cons_zero, refR_e, lstO_e, hd, intR_e, List.map, atI_zero]
      refine ⟨.inr ⟨by decide, by decide⟩, (by decide : (0 : Int) < 2147483647), ?_⟩
      show wSetL (.ref d) (.int 0) (.int ((z0 * 48271 + 11) % 2147483647)) H1 _
      generalize hu : (z0 * 48271 + 11) % 2147483647 = u
      have u0 : 0 ≤ u := by rw [← hu]; exact Int.emod_nonneg _ (by decide)
      have u1 : u < 2147483647 := by rw [← hu]; exact Int.emod_lt_of_pos _ (by decide)
      simp! [hd, atI_zero, ixs, ixN_one, ixN_zero]
      dsimp! [hd, atI_zero, ixs, ixN_one, ixN_zero]
      refine ⟨⟨by decide, by decide⟩, hm, ?_⟩
      exact fin _ _ z1 (Int.emod_nonneg _ (by omega)) (Int.emod_lt_of_pos _ hm) u0 u1 hz1
  · obtain ⟨ns, hd, ⟨l2, l100, nn, hh⟩⟩ := hD
    obtain ⟨z0, z1, r, rfl⟩ : ∃ z0 z1 r, ns = z0 :: z1 :: r := by
      match ns, l2 with
      | z0 :: z1 :: r, _ => exact ⟨z0, z1, r, rfl⟩
    have same : DrawAt H d := ⟨z0 :: z1 :: r, hd, ⟨l2, l100, nn, hh⟩⟩
    have kd : KeptD d H H := fun b o e _ => e
    dsimp! [hd, ixs]
    refine ite2 (fun c => ?_) (fun c => ?_)
    · refine ite2 (fun c2 => ?_) (fun c2 => ?_)
      · obtain ⟨z2, r, rfl⟩ : ∃ z2 r', r = z2 :: r' := by
          match r, c2 with
          | [], c2 => simp at c2
          | z2 :: r', _ => exact ⟨z2, r', rfl⟩
        have e2 : (2 : Int).toNat = 2 := rfl
        dsimp! [hd, ixs, e2, List.eraseIdx_cons_succ, List.eraseIdx_cons_zero, ixN_one]
        refine ⟨by decide, fun b o e n => by rw [upd_ne n]; exact e, z0 :: z2 :: r, upd_same, ⟨by simp, by simp at l100 ⊢; omega, fun z hz => nn z ?_, hh⟩⟩
        rcases List.mem_cons.mp hz with rfl | hz
        · simp
        · simp [hz]
      · dsimp! []
        exact ⟨kd, same⟩
    · dsimp! []
      exact ⟨kd, same⟩
end
end OA

namespace OA
open PySem L2
local macro_rules
  | `(tactic| simp! [$a,*]) => `(tactic| simp -implicitDefEqProofs only [wNeD0, wRep, tDNewK, vDc, wSortDI, dkR_e, dkR_f, e_cut, wSetL, vLstRg, wLstD, e_lock, vVals, gSub, tCKw, frzO_e, viItems, viKeys, vRev, e_while, e_for, e_asgG, gName, vgTup, vgCons_e, vgNil_e, viList, viTup, viStr, viR1, viEnum, vLc, tYes, wipe, e_seq, e_next, e_drop, e_ret, e_retN, e_sfld, e_augI, e_aug, e_dput, vIf, vTest, wInT, vVar, vFld, tC, tOp, tUn, wI0, wIC, rEq, rNe, scal, wAddS, wMulS, wCat, wNeg, wIxL, wIxT, wIxS, vPart, tNoPart, tSl, wSlL, tCB, tCons, tNil, len_s, wTupL, wLstL, wAbs, wIntB, wMin2, wMax2, vAnd, vOr, vNot, vChain, vMeth, vCall, vMake, vLM0, vLM, isLst, wAppend, wPopAt, wInsert0, vStar, vDGet, vDIn, vDNotIn, tTup, tLst, tIf, tAnd, tOr, tNot, refR_e, intR_e, blR_e, strR_e, optR_e, keyR_i, keyR_s, insO_e, lstO_e, tupO_e, tupO_f, dkO_e, one1_e, two2_e, len_r, lenO_l, lenO_t, lenO_f, lenO_d, L2.start, List.map, List.replicate, List.length_cons, List.length_nil, List.cons_append, List.nil_append, List.append_nil, List.getElem?_cons_zero, List.getElem?_cons_succ, List.set_cons_zero, List.set_cons_succ, true_and, and_true, cx_K, cx_prog, cx_w, blkK, Int.toNat_natCast, upd_same, upd_upd, if_true, if_false, decide_eq_true_eq, reduceCtorEq, reduceIte, Bool.false_eq_true, decide_true, decide_false, Bool.true_and, Bool.false_and, Bool.and_true, Bool.and_false, Bool.not_true, Bool.not_false, V.int.injEq, V.str.injEq, V.bl.injEq, putF_nil, Nat.reduceAdd, Nat.reduceSub, Nat.reduceLT, Int.reduceEq, Int.reduceLT, Int.reduceLE, Int.reduceAdd, Int.reduceSub, Int.cast_ofNat_Int, wIsi, tyR_e, tyO_l, tyO_t, tyO_f, tyO_d, tyN_n, tyN_b, tyN_i, tyN_s, tyN_r, kit_NoneType_bool, kit_NoneType_int, kit_NoneType_str, kit_NoneType_list, kit_NoneType_tuple, kit_NoneType_dict, kit_bool_bool, kit_bool_int, kit_bool_str, kit_bool_list, kit_bool_tuple, kit_bool_dict, kit_int_bool, kit_int_int, kit_int_str, kit_int_list, kit_int_tuple, kit_int_dict, kit_str_bool, kit_str_int, kit_str_str, kit_str_list, kit_str_tuple, kit_str_dict, kit_list_bool, kit_list_int, kit_list_str, kit_list_list, kit_list_tuple, kit_list_dict, kit_tuple_bool, kit_tuple_int, kit_tuple_str, kit_tuple_list, kit_tuple_tuple, kit_tuple_dict, kit_dict_bool, kit_dict_int, kit_dict_str, kit_dict_list, kit_dict_tuple, kit_dict_dict, $a,*])
  | `(tactic| dsimp! [$a,*]) => `(tactic| ((try refine Later.mk ?_); simp! [$a,*]; repeat (refine Later.mk ?_; simp! [$a,*])))
section
variable {P : Program} {w : World} {K : PySem.W.Frag} {mg : Str → Option Value} {base : Heap} {A : Ad}
theorem KeptD.refl (d : Addr) (H : Hp) : KeptD d H H := fun _ _ e _ => e
theorem KeptD.trans {d : Addr} {H H1 H2 : Hp} (a : KeptD d H H1) (b : KeptD d H1 H2) : KeptD d H H2 := fun x o e n => b x o (a x o e n) n
theorem KeptD.same {d : Addr} {H H1 : Hp} (a : Same H H1) : KeptD d H H1 := fun x o e _ => a x o e
theorem KeptD.back {d : Addr} {H H1 : Hp} (a : KeptD d H H1) {b : Addr} (n : b ≠ d) (h : H1 b = none) : H b = none := by
  cases e : H b with
  | none => rfl
  | some o => rw [a b o e n] at h; cases h
theorem DrawAt.same {H H1 : Hp} {d : Addr} (a : Same H H1) (h : DrawAt H d) : DrawAt H1 d := by
  obtain ⟨ns, e, ok⟩ := h
  exact ⟨ns, a _ _ e, ok⟩
theorem DrawAt.put {H : Hp} {d b : Addr} {o : HO} (h : DrawAt H d) (n : d ≠ b) : DrawAt (upd H b o) d := by
  obtain ⟨ns, e, ok⟩ := h
  exact ⟨ns, by rw [upd_ne n]; exact e, ok⟩
theorem DrawAt.some {H : Hp} {d : Addr} (h : DrawAt H d) : ∃ o, H d = some o := by
  obtain ⟨ns, e, ok⟩ := h
  exact ⟨_, e⟩
theorem erase_perm {α : Type} : ∀ (ws : List α) (j : Nat) (h : j < ws.length), ([ws[j]] ++ ws.eraseIdx j).Perm ws
  | a :: ws, 0, h => List.Perm.refl _
  | a :: ws, j + 1, h => by
    have ih := erase_perm ws j (by simpa using h)
    simp only [List.getElem_cons_succ, List.eraseIdx_cons_succ, List.singleton_append] at ih ⊢
    exact (List.Perm.swap _ _ _).trans (List.Perm.cons a ih)
def spLMany (A : Ad) : Sp := fun vs H Q _ => ∃ (d : Addr), vs = [.ref d] ∧ DrawAt H d ∧ ∀ (x : Nat) H', 1 ≤ x → x ≤ 8 → KeptD d H H' → DrawAt H' d → Q (.int x) H'
theorem sc__law_many : FnScope ["_law_d"] ["_law_d"] (defScope s__law_many) := ⟨rfl, rfl, rfl, by decide +kernel, rfl, by decide +kernel, by decide +kernel⟩
theorem ok__law_many (T : Txt K mg base A) : FnOk P w K mg base CX0 2 A._law_many A.d__law_many ["_law_d"] (spLMany A) := by
  refine T.F__law_many.ok sc__law_many (fun vs H Q E h => ?_) (fun cdv A' outer s H vs Q E hr h => ?_)
  · obtain ⟨d, rfl, _⟩ := h
    rfl
  obtain ⟨d, rfl, hD, kk⟩ := h
  have hu := hu_of hr
  refine ⟨_, (pss_one (ps_ret (pe_ix ix_L (pe_lst (pa_cons pe_int (pa_cons pe_int (pa_cons pe_int (pa_cons (pe_op o_add pe_int (q_call (ok__law_off T) (hr.mono (by decide)) rfl T.g__law_off T.k__law_off T.b__law_off pass0 (pa_cons (qv 0) (pa_cons pe_int pa_nil)))) pa_nil))))) (q_call (ok__law_off T) (hr.mono (by decide)) rfl T.g__law_off T.k__law_off T.b__law_off pass0 (pa_cons (qv 0) (pa_cons pe_int pa_nil))) (fun _ _ => rfl)))), ?_⟩
  dsimp! []
  refine ⟨d, 8, rfl, hD, by decide, by decide, fun x H1 hx k1 D1 => ?_⟩
  dsimp! []
  refine ⟨by decide, fun p hp => ?_⟩
  have nd : d ≠ p := by
    obtain ⟨o, e⟩ := D1.some
    exact ne_of_none e hp
  refine ⟨d, 4, rfl, D1.put nd, by decide, by decide, fun y H2 hy k2 D2 => ?_⟩
  have hp2 : H2 p = some (.lst [V.int 8, V.int 5, V.int 4, V.int (1 + x)]) := k2 _ _ upd_same nd.symm
  have k3 : KeptD d H H2 := fun b o e n => k2 b o (by rw [upd_ne (ne_of_none (k1 b o e n) hp)]; exact k1 b o e n) n
  have hy4 : y = 0 ∨ y = 1 ∨ y = 2 ∨ y = 3 := by omega
  have e1 : (1 : Int) + (x : Nat) = ((1 + x : Nat) : Int) := by omega
  rcases hy4 with rfl | rfl | rfl | rfl
  · simp! [hp2, atI_nat (xs := [V.int 8, V.int 5, V.int 4, V.int (1 + x)]) (j := 0) (v := V.int 8) rfl]
    exact kk 8 H2 (by decide) (by decide) k3 D2
  · simp! [hp2, atI_nat (xs := [V.int 8, V.int 5, V.int 4, V.int (1 + x)]) (j := 1) (v := V.int 5) rfl]
    exact kk 5 H2 (by decide) (by decide) k3 D2
  · simp! [hp2, atI_nat (xs := [V.int 8, V.int 5, V.int 4, V.int (1 + x)]) (j := 2) (v := V.int 4) rfl]
    exact kk 4 H2 (by decide) (by decide) k3 D2
  · simp! [hp2, atI_nat (xs := [V.int 8, V.int 5, V.int 4, V.int (1 + x)]) (j := 3) (v := V.int (1 + x)) rfl]
    rw [e1]
    exact kk (1 + x) H2 (by omega) (by omega) k3 D2
def spMixed (A : Ad) : Sp := fun vs H Q _ => ∃ (d r : Addr) (ns : List Int), vs = [.ref d, .ref r] ∧ DrawAt H d ∧ H r = some (.lst (ns.map V.int)) ∧ ns.length ≤ 100 ∧ ∀ (f : Addr) (ms : List Int) H', H f = none → KeptD d H H' → DrawAt H' d → H' f = some (.lst (ms.map V.int)) → ms.Perm ns → Q (.ref f) H'
end
end OA

namespace OA
open PySem PySem.Spec PyProof.Rows L2
/-! draws: what may be changed -/
def amD (d : Addr) : Am := ⟨fun b => b = d, fun H => DrawAt H d, fun H H' k h => by
  obtain ⟨ns, e, ok⟩ := h
  exact ⟨ns, by rw [k d rfl]; exact e, ok⟩, fun H b h hb => by
  obtain ⟨ns, e, _⟩ := h
  exact ⟨_, by rw [hb]; exact e, fun _ z => by cases z⟩⟩
section
variable {K : PySem.W.Frag} {A : Ad} {E0 : XK} {am : Am} {d : Addr} {tas : TA} {das : DA}
/-- the draws are of what may be changed -/
class DrawsIn (d : outParam Addr) (am : Am) : Prop where
  mem : am.M d
  get : ∀ H, am.I H → DrawAt H d
  put : ∀ H H', am.I H → KeptD d H H' → DrawAt H' d → am.I H'
instance drawsIn_1 (d : Addr) : DrawsIn d (amD d) := ⟨rfl, fun _ h => h, fun _ _ _ _ h => h⟩
instance drawsIn_2 (d : Addr) (b : Am) : DrawsIn d (amAnd (amD d) b) := ⟨.inl rfl, fun _ h => h.1, fun H H' i k h => ⟨h, b.keep i.2.1 fun x o m e => k x o e fun z => i.2.2 x z m, i.2.2⟩⟩
theorem keptD_am [s : DrawsIn d am] {H H' : Hp} (k : KeptD d H H') : ∀ b o, ¬ am.M b → H b = some o → H' b = some o := fun b o n h => k b o h fun z => n (by rw [z]; exact s.mem)
theorem DEnv.drawn [s : DrawsIn d am] {c : Cq am} {T : List Tp} {σ : L2.St} {Γ : Gm} {Ω : Om} {H H' : Hp} (e : DEnv K c T σ Γ Ω H) (k : KeptD d H H') (h : DrawAt H' d) : DEnv K c T σ Γ Ω H' := e.step (keptD_am k) (s.put _ _ e.inv k h)
def dOff (d : Addr) (das : DA) (Γ : Gm) (Ω : Om) (Q : DQ) : Prop := das Γ Ω fun ws Ω1 => two2W ws fun x y => x = .pt d ∧ intW y fun i => (1 ≤ i ∧ i ≤ 1000) ∧ ∀ n : Nat, (n : Int) < i → Q (.sh (.int n)) Ω1
instance c_off [sd : DrawsIn d am] [s1 : SA K am tas das] : SE K am (vCall (spOff A) E0 tas) (dOff d das) := ⟨fun {c T σ Γ Ω H Q R} e h k =>
  s1.run e h fun vs ws Ω1 H1 h1 e1 hv => by
    obtain ⟨w, v, w2, v2, rfl, hw, hw2, rfl, h2⟩ := two2W_el h1 hv
    obtain ⟨i, rfl, ⟨i1, i2⟩, h3⟩ := intW_el h2
    obtain rfl : v = .ref d := hw
    obtain rfl : v2 = .int i := hw2
    obtain ⟨m, rfl⟩ := Int.eq_ofNat_of_zero_le (show 0 ≤ i by omega)
    refine ⟨d, m, rfl, sd.get _ e1.inv, by omega, by omega, fun x H' hx kd hd => k _ _ _ _ (h3 x (by omega)) ((e1.drawn kd hd).addv rfl)⟩⟩
def dMany (d : Addr) (das : DA) (Γ : Gm) (Ω : Om) (Q : DQ) : Prop := das Γ Ω fun ws Ω1 => one1W ws fun x => x = .pt d ∧ ∀ n : Nat, 1 ≤ n → n ≤ 8 → Q (.sh (.int n)) Ω1
instance c_many [sd : DrawsIn d am] [s1 : SA K am tas das] : SE K am (vCall (spLMany A) E0 tas) (dMany d das) := ⟨fun {c T σ Γ Ω H Q R} e h k =>
  s1.run e h fun vs ws Ω1 H1 h1 e1 hv => by
    obtain ⟨w, v, rfl, hw, rfl, h2⟩ := one1W_el h1 hv
    obtain rfl : v = .ref d := hw
    exact ⟨d, rfl, sd.get _ e1.inv, fun x H' h1 h8 kd hd => k _ _ _ _ (h2 x h1 h8) ((e1.drawn kd hd).addv rfl)⟩⟩
theorem lay_nums {H : Hp} {E : Addr → Prop} (ns : List Int) : LayL K H E (ns.map .int) (ns.map V.int) := ints_lay ns
def dMixed (d : Addr) (das : DA) (Γ : Gm) (Ω : Om) (Q : DQ) : Prop := das Γ Ω fun ws Ω1 => two2W ws fun x y => x = .pt d ∧ seqW Ω1 y fun us => shsW us fun ds => intsD ds fun ns => ns.length ≤ 100 ∧ ∀ ms : List Int, ms.Perm ns → Q (.sh (.lst (ms.map .int))) Ω1
instance c_mixed [sd : DrawsIn d am] [s1 : SA K am tas das] : SE K am (vCall (spMixed A) E0 tas) (dMixed d das) := ⟨fun {c T σ Γ Ω H Q R} e h k =>
  s1.run e h fun vs ws Ω1 H1 h1 e1 hv => by
    obtain ⟨w, v, w2, v2, rfl, hw, hw2, rfl, h2⟩ := two2W_el h1 hv
    obtain rfl : v = .ref d := hw
    obtain ⟨a, vs, us, rfl, ha, hu, h3⟩ := seqW_el e1 hw2 h2
    obtain ⟨ds, rfl, h4⟩ := shsW_el h3
    obtain ⟨ns, rfl, hl, h5⟩ := intsD_el h4
    have := lay_ints hu.lay
    subst this
    refine ⟨d, a, ns, rfl, sd.get _ e1.inv, ha, hl, fun f ms H' hf kd hd hm pm => ?_⟩
    have e2 := e1.drawn kd hd
    have nf : ¬ Ex c Ω1 f := e1.noEx hf
    exact k _ _ _ _ (h5 ms pm) (e2.addv ⟨f, _, rfl, nf, hm, ints_lay ms⟩)⟩
def wlK (wl : WL) : List Key := wl.map fun x => Sum.inl (x.1 : Int)
def wlD (wl : WL) : List D := wl.map fun x => .int (x.2 : Nat)
def wlW (wl : WL) : List W := (wlD wl).map .sh
theorem wkv_zip (wl : WL) : wkv wl = (wlK wl).zip (wl.map fun x => V.int (x.2 : Nat)) := by
  unfold wkv wlK
  rw [List.zip_map']
theorem wl_oks {H : Hp} {E : Addr → Prop} (wl : WL) : VOks K H E (wlW wl) (wl.map fun x => V.int (x.2 : Nat)) := by
  refine VOks.sh_of ?_
  unfold wlD
  induction wl with
  | nil => exact rfl
  | cons x wl ih => exact ⟨_, _, rfl, rfl, ih⟩
theorem wl_lay_eq {H : Hp} {E : Addr → Prop} {wl : WL} {vs : List V} (h : LayL K H E (wlD wl) vs) : vs = wl.map fun x => V.int (x.2 : Nat) := by
  unfold wlD at h
  induction wl generalizing vs with
  | nil => exact h
  | cons x wl ih =>
    obtain ⟨v, r, rfl, h1, h2⟩ := h
    rw [show v = .int _ from h1, ih h2]
    rfl
theorem wl_oks_eq {H : Hp} {E : Addr → Prop} {wl : WL} {vs : List V} (h : VOks K H E (wlW wl) vs) : vs = wl.map fun x => V.int (x.2 : Nat) := wl_lay_eq h.lay
theorem same_am {am : Am} {H H' : Hp} (k : Same H H') : ∀ b o, ¬ am.M b → H b = some o → H' b = some o := fun b o _ h => k b o h
theorem same_inv {am : Am} {H H' : Hp} (k : Same H H') (i : am.I H) : am.I H' := am.loc H H' (fun b m => by
  obtain ⟨o, e, _⟩ := am.ex H b i m
  rw [e, k _ _ e]) i
theorem DEnv.same {am : Am} {c : Cq am} {T : List Tp} {σ : L2.St} {Γ : Gm} {Ω : Om} {H H' : Hp} (e : DEnv K c T σ Γ Ω H) (k : Same H H') : DEnv K c T σ Γ Ω H' := e.step (same_am k) (same_inv k e.inv)
theorem lookup_mem {wl : WL} (nd : (wl.map (·.1)).Nodup) {x : Nat × Nat} (h : x ∈ wl) : wl.lookup x.1 = some x.2 := by
  induction wl with
  | nil => simp at h
  | cons y wl ih =>
    rw [List.map_cons, List.nodup_cons] at nd
    rcases List.mem_cons.mp h with rfl | h
    · simp [List.lookup]
    · have : ¬ x.1 = y.1 := fun z => nd.1 (by rw [← z]; exact List.mem_map.mpr ⟨x, h, rfl⟩)
      have e : (x.1 == y.1) = false := by simp [this]
      simp only [List.lookup, e]
      exact ih nd.2 h
end
end OA

namespace OA
open PySem L2
local macro_rules
  | `(tactic| simp! [$a,*]) => `(tactic| simp -implicitDefEqProofs only [wNeD0, wRep, tDNewK, vDc, wSortDI, dkR_e, dkR_f, e_cut, wSetL, vLstRg, wLstD, e_lock, vVals, gSub, tCKw, frzO_e, viItems, viKeys, vRev, e_while, e_for, e_asgG, gName, vgTup, vgCons_e, vgNil_e, viList, viTup, viStr, viR1, viEnum, vLc, tYes, wipe, e_seq, e_next, e_drop, e_ret, e_retN, e_sfld, e_augI, e_aug, e_dput, vIf, vTest, wInT, vVar, vFld, tC, tOp, tUn, wI0, wIC, rEq, rNe, scal, wAddS, wMulS, wCat, wNeg, wIxL, wIxT, wIxS, vPart, tNoPart, tSl, wSlL, tCB, tCons, tNil, len_s, wTupL, wLstL, wAbs, wIntB, wMin2, wMax2, vAnd, vOr, vNot, vChain, vMeth, vCall, vMake, vLM0, vLM, isLst, wAppend, wPopAt, wInsert0, vStar, vDGet, vDIn, vDNotIn, tTup, tLst, tIf, tAnd, tOr, tNot, refR_e, intR_e, blR_e, strR_e, optR_e, keyR_i, keyR_s, insO_e, lstO_e, tupO_e, tupO_f, dkO_e, one1_e, two2_e, len_r, lenO_l, lenO_t, lenO_f, lenO_d, L2.start, List.map, List.replicate, List.length_cons, List.length_nil, List.cons_append, List.nil_append, List.append_nil, List.getElem?_cons_zero, List.getElem?_cons_succ, List.set_cons_zero, List.set_cons_succ, true_and, and_true, cx_K, cx_prog, cx_w, blkK, Int.toNat_natCast, upd_same, upd_upd, if_true, if_false, decide_eq_true_eq, reduceCtorEq, reduceIte, Bool.false_eq_true, decide_true, decide_false, Bool.true_and, Bool.false_and, Bool.and_true, Bool.and_false, Bool.not_true, Bool.not_false, V.int.injEq, V.str.injEq, V.bl.injEq, putF_nil, Nat.reduceAdd, Nat.reduceSub, Nat.reduceLT, Int.reduceEq, Int.reduceLT, Int.reduceLE, Int.reduceAdd, Int.reduceSub, Int.cast_ofNat_Int, wIsi, tyR_e, tyO_l, tyO_t, tyO_f, tyO_d, tyN_n, tyN_b, tyN_i, tyN_s, tyN_r, kit_NoneType_bool, kit_NoneType_int, kit_NoneType_str, kit_NoneType_list, kit_NoneType_tuple, kit_NoneType_dict, kit_bool_bool, kit_bool_int, kit_bool_str, kit_bool_list, kit_bool_tuple, kit_bool_dict, kit_int_bool, kit_int_int, kit_int_str, kit_int_list, kit_int_tuple, kit_int_dict, kit_str_bool, kit_str_int, kit_str_str, kit_str_list, kit_str_tuple, kit_str_dict, kit_list_bool, kit_list_int, kit_list_str, kit_list_list, kit_list_tuple, kit_list_dict, kit_tuple_bool, kit_tuple_int, kit_tuple_str, kit_tuple_list, kit_tuple_tuple, kit_tuple_dict, kit_dict_bool, kit_dict_int, kit_dict_str, kit_dict_list, kit_dict_tuple, kit_dict_dict, $a,*])
  | `(tactic| dsimp! [$a,*]) => `(tactic| ((try refine Later.mk ?_); simp! [$a,*]; repeat (refine Later.mk ?_; simp! [$a,*])))
def flatE : V → Bool
  | .non => true
  | .bl _ => true
  | .int _ => true
  | .str _ => true
  | _ => false
def Alike (H : Hp) : Nat → V → V → Prop
  | 0, x, y => x = y ∧ flatE x = true
  | n + 1, x, y => (x = y ∧ flatE x = true) ∨ (∃ a b xs ys, x = .ref a ∧ y = .ref b ∧ Rd H a (.tup xs) ∧ Rd H b (.tup ys) ∧ xs.length = ys.length ∧ ys.length ≤ 10000 ∧ ∀ (k : Nat) (u v : V), xs[k]? = some u → ys[k]? = some v → Alike H n u v) ∨
    (∃ a b xs ys, x = .ref a ∧ y = .ref b ∧ H a = some (.lst xs) ∧ H b = some (.lst ys) ∧ xs.length = ys.length ∧ ys.length ≤ 10000 ∧ ∀ (k : Nat) (u v : V), xs[k]? = some u → ys[k]? = some v → Alike H n u v) ∨
    ∃ a b kvs kws, x = .ref a ∧ y = .ref b ∧ H a = some (.dK kvs) ∧ H b = some (.dK kws) ∧ kvs.length = kws.length ∧ kws.length ≤ 10000 ∧ a ≠ b ∧ ∀ kw ∈ kws, valV kvs kw.1 = some kw.2 ∧ valV kws kw.1 = some kw.2 ∧ flatE kw.2 = true
theorem Alike.same {H H' : Hp} (s : Same H H') : ∀ (n : Nat) (x y : V), Alike H n x y → Alike H' n x y
  | 0, x, y, h => h
  | n + 1, x, y, h => by
    rcases h with h | ⟨a, b, xs, ys, e1, e2, h1, h2, h3, h4, h5⟩ | ⟨a, b, xs, ys, e1, e2, h1, h2, h3, h4, h5⟩ | ⟨a, b, xs, ys, e1, e2, h1, h2, h3, h4, h6, h5⟩
    · exact .inl h
    · exact .inr (.inl ⟨a, b, xs, ys, e1, e2, h1.imp (s _ _) fun ⟨o, h⟩ => ⟨o, s _ _ h⟩, h2.imp (s _ _) fun ⟨o, h⟩ => ⟨o, s _ _ h⟩, h3, h4, fun k u v q1 q2 => Alike.same s n u v (h5 k u v q1 q2)⟩)
    · exact .inr (.inr (.inl ⟨a, b, xs, ys, e1, e2, s _ _ h1, s _ _ h2, h3, h4, fun k u v q1 q2 => Alike.same s n u v (h5 k u v q1 q2)⟩))
    · refine .inr (.inr (.inr ⟨a, b, xs, ys, e1, e2, s _ _ h1, s _ _ h2, h3, h4, h6, h5⟩))
theorem Alike.flat {H : Hp} {x : V} (h : flatE x = true) : ∀ n, Alike H n x x
  | 0 => ⟨rfl, h⟩
  | n + 1 => .inl ⟨rfl, h⟩
def trues (i : Nat) : List V := (List.replicate i true).map V.bl
theorem trues_succ (i : Nat) : trues i ++ [V.bl true] = trues (i + 1) := by
  unfold trues
  rw [List.replicate_succ', List.map_append]
  rfl
theorem trues_len (i : Nat) : (trues i).length = i := by
  unfold trues
  rw [List.length_map, List.length_replicate]
section
variable {P : Program} {w : World} {K : PySem.W.Frag} {mg : Str → Option Value} {base : Heap} {A : Ad}
def spAlike (n : Nat) : Sp := fun vs H Q _ => ∃ (x y : V), vs = [x, y] ∧ Alike H n x y ∧ ∀ H', Same H H' → Q (.bl true) H'
theorem sc__law_alike : FnScope ["_law_found", "_law_due", "_law_name", "_law_k"] ["_law_found", "_law_due"] (defScope s__law_alike) := ⟨rfl, rfl, rfl, by decide +kernel, rfl, by decide +kernel, by decide +kernel⟩
theorem alike_0 (T : Txt K mg base A) : FnOk P w K mg base CX0 1 A._law_alike A.d__law_alike ["_law_found", "_law_due"] (spAlike 0) := by
  refine T.F__law_alike.ok sc__law_alike (fun vs H Q E h => ?_) (fun cdv A' outer s H vs Q E hr h => ?_)
  · obtain ⟨x, y, rfl, _⟩ := h
    rfl
  obtain ⟨x, y, rfl, ⟨rfl, fl⟩, kk⟩ := h
  have hu := hu_of hr
  refine ⟨_, (qs_cons (q_if (q_cmp op_isN (qv 1) pe_non (nomark _)) (pss_one (ps_ret (pe_cmpR op_isN (qv 0) pe_non (nomark _)))) pss_nil)
    (qs_cons (q_if (q_val (pe_callB c_isi (by rfl) T.m_isinstance (by decide +kernel) (pa_cons (qv 1) (pa_cons (pe_bltn (v := .ty "bool") (by rfl) T.m_bool (by decide +kernel) rfl) pa_nil)))) (pss_one (ps_ret (q_and (pe_callB c_isi (by rfl) T.m_isinstance (by decide +kernel) (pa_cons (qv 0) (pa_cons (pe_bltn (v := .ty "bool") (by rfl) T.m_bool (by decide +kernel) rfl) pa_nil))) (pe_one (pe_cmpR op_eq (qv 0) (qv 1) (nomark _)))))) pss_nil)
    (qs_cons (q_if (q_val (pe_callB c_isi (by rfl) T.m_isinstance (by decide +kernel) (pa_cons (qv 1) (pa_cons (pe_bltn (v := .ty "int") (by rfl) T.m_int (by decide +kernel) rfl) pa_nil)))) (pss_one (ps_ret (q_and (pe_callB c_isi (by rfl) T.m_isinstance (by decide +kernel) (pa_cons (qv 0) (pa_cons (pe_bltn (v := .ty "int") (by rfl) T.m_int (by decide +kernel) rfl) pa_nil))) (q_and (q_not (pe_callB c_isi (by rfl) T.m_isinstance (by decide +kernel) (pa_cons (qv 0) (pa_cons (pe_bltn (v := .ty "bool") (by rfl) T.m_bool (by decide +kernel) rfl) pa_nil)))) (pe_one (pe_cmpR op_eq (qv 0) (qv 1) (nomark _))))))) pss_nil)
    (qs_cons (q_if (q_val (pe_callB c_isi (by rfl) T.m_isinstance (by decide +kernel) (pa_cons (qv 1) (pa_cons (pe_bltn (v := .ty "str") (by rfl) T.m_str (by decide +kernel) rfl) pa_nil)))) (pss_one (ps_ret (q_and (pe_callB c_isi (by rfl) T.m_isinstance (by decide +kernel) (pa_cons (qv 0) (pa_cons (pe_bltn (v := .ty "str") (by rfl) T.m_str (by decide +kernel) rfl) pa_nil))) (pe_one (pe_cmpR op_eq (qv 0) (qv 1) (nomark _)))))) pss_nil)
    (qs_cons ps_never
    (qs_cons (q_if (PW.pt (pw_or (q_cmp op_ne (pe_callB c_isi (by rfl) T.m_isinstance (by decide +kernel) (pa_cons (qv 1) (pa_cons (pe_bltn (v := .ty "tuple") (by rfl) T.m_tuple (by decide +kernel) rfl) pa_nil))) (pe_callB c_isi (by rfl) T.m_isinstance (by decide +kernel) (pa_cons (qv 0) (pa_cons (pe_bltn (v := .ty "tuple") (by rfl) T.m_tuple (by decide +kernel) rfl) pa_nil))) (nomark _)) (pw_or1 (q_cmp op_ne (pe_callB c_isi (by rfl) T.m_isinstance (by decide +kernel) (pa_cons (qv 1) (pa_cons (pe_bltn (v := .ty "list") (by rfl) T.m_list (by decide +kernel) rfl) pa_nil))) (pe_callB c_isi (by rfl) T.m_isinstance (by decide +kernel) (pa_cons (qv 0) (pa_cons (pe_bltn (v := .ty "list") (by rfl) T.m_list (by decide +kernel) rfl) pa_nil))) (nomark _))))) (pss_one (ps_ret pe_bl)) pss_nil)
    (qs_cons (q_if (q_cmp op_ne (pe_callB c_len (by rfl) T.m_len (by decide +kernel) (pa_cons (qv 0) pa_nil)) (pe_callB c_len (by rfl) T.m_len (by decide +kernel) (pa_cons (qv 1) pa_nil)) (nomark _)) (pss_one (ps_ret pe_bl)) pss_nil)
    (pss_one ps_never)))))))), ?_⟩
  cases x with
  | non =>
    dsimp! []
    exact kk _ (fun _ _ e => e)
  | bl b =>
    dsimp! []
    exact kk _ (fun _ _ e => e)
  | int b =>
    dsimp! []
    exact kk _ (fun _ _ e => e)
  | str b =>
    dsimp! []
    exact kk _ (fun _ _ e => e)
  | _ => cases fl
theorem alike_s (T : Txt K mg base A) (n : Nat) (G : FnOk P w K mg base CX0 (n + 1) A._law_alike A.d__law_alike ["_law_found", "_law_due"] (spAlike n)) : FnOk P w K mg base CX0 (n + 2) A._law_alike A.d__law_alike ["_law_found", "_law_due"] (spAlike (n + 1)) := by
  refine T.F__law_alike.ok sc__law_alike (fun vs H Q E h => ?_) (fun cdv A' outer s H vs Q E hr h => ?_)
  · obtain ⟨x, y, rfl, _⟩ := h
    rfl
  obtain ⟨x, y, rfl, al, kk⟩ := h
  have hu := hu_of hr
  have allT : ∀ i : Nat, (List.replicate i true).all id = true := fun i => by
    induction i with
    | zero => rfl
    | succ i ih => rw [List.replicate_succ, List.all_cons, ih]; rfl
  have small : ∀ m : Nat, m ≤ 10000 → m < sizeLine := fun m h => by rw [sizeLine_eq]; omega
  rcases al with ⟨rfl, fl⟩ | ⟨a, b, xs, ys, rfl, rfl, ha, hb, hl, h1, hk⟩ | ⟨a, b, xs, ys, rfl, rfl, ha, hb, hl, h1, hk⟩ | ⟨a, b, kvs, kws, rfl, rfl, ha, hb, hl, h1, nab, hk⟩
  · refine ⟨_, (qs_cons (q_if (q_cmp op_isN (qv 1) pe_non (nomark _)) (pss_one (ps_ret (pe_cmpR op_isN (qv 0) pe_non (nomark _)))) pss_nil)
    (qs_cons (q_if (q_val (pe_callB c_isi (by rfl) T.m_isinstance (by decide +kernel) (pa_cons (qv 1) (pa_cons (pe_bltn (v := .ty "bool") (by rfl) T.m_bool (by decide +kernel) rfl) pa_nil)))) (pss_one (ps_ret (q_and (pe_callB c_isi (by rfl) T.m_isinstance (by decide +kernel) (pa_cons (qv 0) (pa_cons (pe_bltn (v := .ty "bool") (by rfl) T.m_bool (by decide +kernel) rfl) pa_nil))) (pe_one (pe_cmpR op_eq (qv 0) (qv 1) (nomark _)))))) pss_nil)
    (qs_cons (q_if (q_val (pe_callB c_isi (by rfl) T.m_isinstance (by decide +kernel) (pa_cons (qv 1) (pa_cons (pe_bltn (v := .ty "int") (by rfl) T.m_int (by decide +kernel) rfl) pa_nil)))) (pss_one (ps_ret (q_and (pe_callB c_isi (by rfl) T.m_isinstance (by decide +kernel) (pa_cons (qv 0) (pa_cons (pe_bltn (v := .ty "int") (by rfl) T.m_int (by decide +kernel) rfl) pa_nil))) (q_and (q_not (pe_callB c_isi (by rfl) T.m_isinstance (by decide +kernel) (pa_cons (qv 0) (pa_cons (pe_bltn (v := .ty "bool") (by rfl) T.m_bool (by decide +kernel) rfl) pa_nil)))) (pe_one (pe_cmpR op_eq (qv 0) (qv 1) (nomark _))))))) pss_nil)
    (qs_cons (q_if (q_val (pe_callB c_isi (by rfl) T.m_isinstance (by decide +kernel) (pa_cons (qv 1) (pa_cons (pe_bltn (v := .ty "str") (by rfl) T.m_str (by decide +kernel) rfl) pa_nil)))) (pss_one (ps_ret (q_and (pe_callB c_isi (by rfl) T.m_isinstance (by decide +kernel) (pa_cons (qv 0) (pa_cons (pe_bltn (v := .ty "str") (by rfl) T.m_str (by decide +kernel) rfl) pa_nil))) (pe_one (pe_cmpR op_eq (qv 0) (qv 1) (nomark _)))))) pss_nil)
    (qs_cons (q_if (q_val (pe_callB c_isi (by rfl) T.m_isinstance (by decide +kernel) (pa_cons (qv 1) (pa_cons (pe_bltn (v := .ty "dict") (by rfl) T.m_dict (by decide +kernel) rfl) pa_nil)))) (qs_cons (q_if (PW.pt (pw_or (pt_not (q_val (pe_callB c_isi (by rfl) T.m_isinstance (by decide +kernel) (pa_cons (qv 0) (pa_cons (pe_bltn (v := .ty "dict") (by rfl) T.m_dict (by decide +kernel) rfl) pa_nil))))) (pw_or1 (q_cmp op_ne (pe_callB c_len (by rfl) T.m_len (by decide +kernel) (pa_cons (qv 0) pa_nil)) (pe_callB c_len (by rfl) T.m_len (by decide +kernel) (pa_cons (qv 1) pa_nil)) (nomark _))))) (pss_one (ps_ret pe_bl)) pss_nil)
    (pss_one (ps_ret (pe_callB (cr_all rfl) (by rfl) T.m_all (by decide +kernel) (pa_cons (pe_lock (q_lc (own := [("_law_name", 2)]) (g := gName 2) (tt := tYes) rfl sc__law_alike.nd (qi_keys (qv 1)) (blkOk_by (own := [("_law_name", 2)]) (N := ["_law_found", "_law_due", "_law_name", "_law_k"]) (sc := defScope s__law_alike) (by decide +kernel)) (fun _ _ _ _ _ => (pg_name (i := 2) sc__law_alike.nd rfl (Or.inl rfl))) (fun _ _ _ _ _ => pts_nil) (fun _ _ _ _ _ => (q_and (q_din hu (qv 2) (qv 0)) (pe_one (q_call G hr rfl T.g__law_alike T.k__law_alike T.b__law_alike pass0 (pa_cons (q_dget hu (qv 0) (qv 2) (fun _ _ => rfl)) (pa_cons (q_dget hu (qv 1) (qv 2) (fun _ _ => rfl)) pa_nil)))))))) pa_nil))))) pss_nil)
    (qs_cons (q_if (PW.pt (pw_or (q_cmp op_ne (pe_callB c_isi (by rfl) T.m_isinstance (by decide +kernel) (pa_cons (qv 1) (pa_cons (pe_bltn (v := .ty "tuple") (by rfl) T.m_tuple (by decide +kernel) rfl) pa_nil))) (pe_callB c_isi (by rfl) T.m_isinstance (by decide +kernel) (pa_cons (qv 0) (pa_cons (pe_bltn (v := .ty "tuple") (by rfl) T.m_tuple (by decide +kernel) rfl) pa_nil))) (nomark _)) (pw_or1 (q_cmp op_ne (pe_callB c_isi (by rfl) T.m_isinstance (by decide +kernel) (pa_cons (qv 1) (pa_cons (pe_bltn (v := .ty "list") (by rfl) T.m_list (by decide +kernel) rfl) pa_nil))) (pe_callB c_isi (by rfl) T.m_isinstance (by decide +kernel) (pa_cons (qv 0) (pa_cons (pe_bltn (v := .ty "list") (by rfl) T.m_list (by decide +kernel) rfl) pa_nil))) (nomark _))))) (pss_one (ps_ret pe_bl)) pss_nil)
    (qs_cons (q_if (q_cmp op_ne (pe_callB c_len (by rfl) T.m_len (by decide +kernel) (pa_cons (qv 0) pa_nil)) (pe_callB c_len (by rfl) T.m_len (by decide +kernel) (pa_cons (qv 1) pa_nil)) (nomark _)) (pss_one (ps_ret pe_bl)) pss_nil)
    (pss_one (ps_ret (pe_callB (cr_all rfl) (by rfl) T.m_all (by decide +kernel) (pa_cons (q_lc (own := [("_law_k", 3)]) (g := gName 3) (tt := tYes) rfl sc__law_alike.nd (qi_r1 (by rfl) T.m_range (pa_cons (pe_callB c_len (by rfl) T.m_len (by decide +kernel) (pa_cons (qv 1) pa_nil)) pa_nil)) (blkOk_by (own := [("_law_k", 3)]) (N := ["_law_found", "_law_due", "_law_name", "_law_k"]) (sc := defScope s__law_alike) (by decide +kernel)) (fun _ _ _ _ _ => (pg_name (i := 3) sc__law_alike.nd rfl (Or.inl rfl))) (fun _ _ _ _ _ => pts_nil) (fun _ _ _ _ _ => (q_call G hr rfl T.g__law_alike T.k__law_alike T.b__law_alike pass0 (pa_cons (pe_ix ix_L (qv 0) (qv 3) (fun _ _ => rfl)) (pa_cons (pe_ix ix_L (qv 1) (qv 3) (fun _ _ => rfl)) pa_nil))))) pa_nil))))))))))), ?_⟩
    cases x with
    | non =>
      dsimp! []
      exact kk _ (fun _ _ e => e)
    | bl b =>
      dsimp! []
      exact kk _ (fun _ _ e => e)
    | int b =>
      dsimp! []
      exact kk _ (fun _ _ e => e)
    | str b =>
      dsimp! []
      exact kk _ (fun _ _ e => e)
    | _ => cases fl
  · rcases ha with ha | ⟨oa, ha⟩ <;> rcases hb with hb | ⟨ob, hb⟩
    all_goals
      refine ⟨_, (qs_cons (q_if (q_cmp op_isN (qv 1) pe_non (nomark _)) (pss_one (ps_ret (pe_cmpR op_isN (qv 0) pe_non (nomark _)))) pss_nil)
    (qs_cons (q_if (q_val (pe_callB c_isi (by rfl) T.m_isinstance (by decide +kernel) (pa_cons (qv 1) (pa_cons (pe_bltn (v := .ty "bool") (by rfl) T.m_bool (by decide +kernel) rfl) pa_nil)))) (pss_one (ps_ret (q_and (pe_callB c_isi (by rfl) T.m_isinstance (by decide +kernel) (pa_cons (qv 0) (pa_cons (pe_bltn (v := .ty "bool") (by rfl) T.m_bool (by decide +kernel) rfl) pa_nil))) (pe_one (pe_cmpR op_eq (qv 0) (qv 1) (nomark _)))))) pss_nil)
    (qs_cons (q_if (q_val (pe_callB c_isi (by rfl) T.m_isinstance (by decide +kernel) (pa_cons (qv 1) (pa_cons (pe_bltn (v := .ty "int") (by rfl) T.m_int (by decide +kernel) rfl) pa_nil)))) (pss_one (ps_ret (q_and (pe_callB c_isi (by rfl) T.m_isinstance (by decide +kernel) (pa_cons (qv 0) (pa_cons (pe_bltn (v := .ty "int") (by rfl) T.m_int (by decide +kernel) rfl) pa_nil))) (q_and (q_not (pe_callB c_isi (by rfl) T.m_isinstance (by decide +kernel) (pa_cons (qv 0) (pa_cons (pe_bltn (v := .ty "bool") (by rfl) T.m_bool (by decide +kernel) rfl) pa_nil)))) (pe_one (pe_cmpR op_eq (qv 0) (qv 1) (nomark _))))))) pss_nil)
    (qs_cons (q_if (q_val (pe_callB c_isi (by rfl) T.m_isinstance (by decide +kernel) (pa_cons (qv 1) (pa_cons (pe_bltn (v := .ty "str") (by rfl) T.m_str (by decide +kernel) rfl) pa_nil)))) (pss_one (ps_ret (q_and (pe_callB c_isi (by rfl) T.m_isinstance (by decide +kernel) (pa_cons (qv 0) (pa_cons (pe_bltn (v := .ty "str") (by rfl) T.m_str (by decide +kernel) rfl) pa_nil))) (pe_one (pe_cmpR op_eq (qv 0) (qv 1) (nomark _)))))) pss_nil)
    (qs_cons (q_if (q_val (pe_callB c_isi (by rfl) T.m_isinstance (by decide +kernel) (pa_cons (qv 1) (pa_cons (pe_bltn (v := .ty "dict") (by rfl) T.m_dict (by decide +kernel) rfl) pa_nil)))) (qs_cons (q_if (PW.pt (pw_or (pt_not (q_val (pe_callB c_isi (by rfl) T.m_isinstance (by decide +kernel) (pa_cons (qv 0) (pa_cons (pe_bltn (v := .ty "dict") (by rfl) T.m_dict (by decide +kernel) rfl) pa_nil))))) (pw_or1 (q_cmp op_ne (pe_callB c_len (by rfl) T.m_len (by decide +kernel) (pa_cons (qv 0) pa_nil)) (pe_callB c_len (by rfl) T.m_len (by decide +kernel) (pa_cons (qv 1) pa_nil)) (nomark _))))) (pss_one (ps_ret pe_bl)) pss_nil)
    (pss_one (ps_ret (pe_callB (cr_all rfl) (by rfl) T.m_all (by decide +kernel) (pa_cons (pe_lock (q_lc (own := [("_law_name", 2)]) (g := gName 2) (tt := tYes) rfl sc__law_alike.nd (qi_keys (qv 1)) (blkOk_by (own := [("_law_name", 2)]) (N := ["_law_found", "_law_due", "_law_name", "_law_k"]) (sc := defScope s__law_alike) (by decide +kernel)) (fun _ _ _ _ _ => (pg_name (i := 2) sc__law_alike.nd rfl (Or.inl rfl))) (fun _ _ _ _ _ => pts_nil) (fun _ _ _ _ _ => (q_and (q_din hu (qv 2) (qv 0)) (pe_one (q_call G hr rfl T.g__law_alike T.k__law_alike T.b__law_alike pass0 (pa_cons (q_dget hu (qv 0) (qv 2) (fun _ _ => rfl)) (pa_cons (q_dget hu (qv 1) (qv 2) (fun _ _ => rfl)) pa_nil)))))))) pa_nil))))) pss_nil)
    (qs_cons (q_if (PW.pt (pw_or (q_cmp op_ne (pe_callB c_isi (by rfl) T.m_isinstance (by decide +kernel) (pa_cons (qv 1) (pa_cons (pe_bltn (v := .ty "tuple") (by rfl) T.m_tuple (by decide +kernel) rfl) pa_nil))) (pe_callB c_isi (by rfl) T.m_isinstance (by decide +kernel) (pa_cons (qv 0) (pa_cons (pe_bltn (v := .ty "tuple") (by rfl) T.m_tuple (by decide +kernel) rfl) pa_nil))) (nomark _)) (pw_or1 (q_cmp op_ne (pe_callB c_isi (by rfl) T.m_isinstance (by decide +kernel) (pa_cons (qv 1) (pa_cons (pe_bltn (v := .ty "list") (by rfl) T.m_list (by decide +kernel) rfl) pa_nil))) (pe_callB c_isi (by rfl) T.m_isinstance (by decide +kernel) (pa_cons (qv 0) (pa_cons (pe_bltn (v := .ty "list") (by rfl) T.m_list (by decide +kernel) rfl) pa_nil))) (nomark _))))) (pss_one (ps_ret pe_bl)) pss_nil)
    (qs_cons (q_if (q_cmp op_ne (pe_callB c_len (by rfl) T.m_len (by decide +kernel) (pa_cons (qv 0) pa_nil)) (pe_callB c_len (by rfl) T.m_len (by decide +kernel) (pa_cons (qv 1) pa_nil)) (nomark _)) (pss_one (ps_ret pe_bl)) pss_nil)
    (pss_one (ps_ret (pe_callB (cr_all rfl) (by rfl) T.m_all (by decide +kernel) (pa_cons (q_lc (own := [("_law_k", 3)]) (g := gName 3) (tt := tYes) rfl sc__law_alike.nd (qi_r1 (by rfl) T.m_range (pa_cons (pe_callB c_len (by rfl) T.m_len (by decide +kernel) (pa_cons (qv 1) pa_nil)) pa_nil)) (blkOk_by (own := [("_law_k", 3)]) (N := ["_law_found", "_law_due", "_law_name", "_law_k"]) (sc := defScope s__law_alike) (by decide +kernel)) (fun _ _ _ _ _ => (pg_name (i := 3) sc__law_alike.nd rfl (Or.inl rfl))) (fun _ _ _ _ _ => pts_nil) (fun _ _ _ _ _ => (q_call G hr rfl T.g__law_alike T.k__law_alike T.b__law_alike pass0 (pa_cons (pe_ix ix_T (qv 0) (qv 3) (fun _ _ => rfl)) (pa_cons (pe_ix ix_T (qv 1) (qv 3) (fun _ _ => rfl)) pa_nil))))) pa_nil))))))))))), ?_⟩
      dsimp! [ha, hb, hl, eq_self]
      refine ⟨⟨by omega, by omega⟩, fun D hD => ⟨_, _, _, fun i H1 => H1 D = some (.lst (trues i)) ∧ Same H H1, walk_range (lo := 0) (n := ys.length), ⟨upd_same, Same.new hD⟩, fun _ _ _ _ => True.intro, ?_, ?_⟩⟩
      · rintro i z H1 H2 hi ⟨hD1, s1⟩ ⟨rfl, rfl⟩
        have e0 : (0 : Int) + (i : Nat) = (i : Nat) := Int.zero_add _
        obtain ⟨v, hv⟩ : ∃ v, ys[i]? = some v := ⟨_, List.getElem?_eq_getElem hi⟩
        obtain ⟨u, hu1⟩ : ∃ u, xs[i]? = some u := ⟨_, List.getElem?_eq_getElem (by omega)⟩
        have ha1 := s1 _ _ ha
        have hb1 := s1 _ _ hb
        simp! [e0, ha1, hb1, atI_nat hv, atI_nat hu1]
        refine ⟨u, v, rfl, Alike.same s1 n u v (hk i u v hu1 hv), fun H3 s3 => ?_⟩
        have hD3 := s3 _ _ hD1
        simp! [hD3]
        refine ⟨by rw [trues_len]; exact small _ (by omega), by rw [trues_succ], fun b' o e => ?_⟩
        rw [upd_ne (ne_of_none e hD)]
        exact s3 _ _ (s1 _ _ e)
      · rintro H1 ⟨hD1, s1⟩
        refine ⟨D, List.replicate ys.length true, rfl, SqL.of hD1, ?_⟩
        rw [allT]
        exact kk _ s1
  · refine ⟨_, (qs_cons (q_if (q_cmp op_isN (qv 1) pe_non (nomark _)) (pss_one (ps_ret (pe_cmpR op_isN (qv 0) pe_non (nomark _)))) pss_nil)
    (qs_cons (q_if (q_val (pe_callB c_isi (by rfl) T.m_isinstance (by decide +kernel) (pa_cons (qv 1) (pa_cons (pe_bltn (v := .ty "bool") (by rfl) T.m_bool (by decide +kernel) rfl) pa_nil)))) (pss_one (ps_ret (q_and (pe_callB c_isi (by rfl) T.m_isinstance (by decide +kernel) (pa_cons (qv 0) (pa_cons (pe_bltn (v := .ty "bool") (by rfl) T.m_bool (by decide +kernel) rfl) pa_nil))) (pe_one (pe_cmpR op_eq (qv 0) (qv 1) (nomark _)))))) pss_nil)
    (qs_cons (q_if (q_val (pe_callB c_isi (by rfl) T.m_isinstance (by decide +kernel) (pa_cons (qv 1) (pa_cons (pe_bltn (v := .ty "int") (by rfl) T.m_int (by decide +kernel) rfl) pa_nil)))) (pss_one (ps_ret (q_and (pe_callB c_isi (by rfl) T.m_isinstance (by decide +kernel) (pa_cons (qv 0) (pa_cons (pe_bltn (v := .ty "int") (by rfl) T.m_int (by decide +kernel) rfl) pa_nil))) (q_and (q_not (pe_callB c_isi (by rfl) T.m_isinstance (by decide +kernel) (pa_cons (qv 0) (pa_cons (pe_bltn (v := .ty "bool") (by rfl) T.m_bool (by decide +kernel) rfl) pa_nil)))) (pe_one (pe_cmpR op_eq (qv 0) (qv 1) (nomark _))))))) pss_nil)
    (qs_cons (q_if (q_val (pe_callB c_isi (by rfl) T.m_isinstance (by decide +kernel) (pa_cons (qv 1) (pa_cons (pe_bltn (v := .ty "str") (by rfl) T.m_str (by decide +kernel) rfl) pa_nil)))) (pss_one (ps_ret (q_and (pe_callB c_isi (by rfl) T.m_isinstance (by decide +kernel) (pa_cons (qv 0) (pa_cons (pe_bltn (v := .ty "str") (by rfl) T.m_str (by decide +kernel) rfl) pa_nil))) (pe_one (pe_cmpR op_eq (qv 0) (qv 1) (nomark _)))))) pss_nil)
    (qs_cons (q_if (q_val (pe_callB c_isi (by rfl) T.m_isinstance (by decide +kernel) (pa_cons (qv 1) (pa_cons (pe_bltn (v := .ty "dict") (by rfl) T.m_dict (by decide +kernel) rfl) pa_nil)))) (qs_cons (q_if (PW.pt (pw_or (pt_not (q_val (pe_callB c_isi (by rfl) T.m_isinstance (by decide +kernel) (pa_cons (qv 0) (pa_cons (pe_bltn (v := .ty "dict") (by rfl) T.m_dict (by decide +kernel) rfl) pa_nil))))) (pw_or1 (q_cmp op_ne (pe_callB c_len (by rfl) T.m_len (by decide +kernel) (pa_cons (qv 0) pa_nil)) (pe_callB c_len (by rfl) T.m_len (by decide +kernel) (pa_cons (qv 1) pa_nil)) (nomark _))))) (pss_one (ps_ret pe_bl)) pss_nil)
    (pss_one (ps_ret (pe_callB (cr_all rfl) (by rfl) T.m_all (by decide +kernel) (pa_cons (pe_lock (q_lc (own := [("_law_name", 2)]) (g := gName 2) (tt := tYes) rfl sc__law_alike.nd (qi_keys (qv 1)) (blkOk_by (own := [("_law_name", 2)]) (N := ["_law_found", "_law_due", "_law_name", "_law_k"]) (sc := defScope s__law_alike) (by decide +kernel)) (fun _ _ _ _ _ => (pg_name (i := 2) sc__law_alike.nd rfl (Or.inl rfl))) (fun _ _ _ _ _ => pts_nil) (fun _ _ _ _ _ => (q_and (q_din hu (qv 2) (qv 0)) (pe_one (q_call G hr rfl T.g__law_alike T.k__law_alike T.b__law_alike pass0 (pa_cons (q_dget hu (qv 0) (qv 2) (fun _ _ => rfl)) (pa_cons (q_dget hu (qv 1) (qv 2) (fun _ _ => rfl)) pa_nil)))))))) pa_nil))))) pss_nil)
    (qs_cons (q_if (PW.pt (pw_or (q_cmp op_ne (pe_callB c_isi (by rfl) T.m_isinstance (by decide +kernel) (pa_cons (qv 1) (pa_cons (pe_bltn (v := .ty "tuple") (by rfl) T.m_tuple (by decide +kernel) rfl) pa_nil))) (pe_callB c_isi (by rfl) T.m_isinstance (by decide +kernel) (pa_cons (qv 0) (pa_cons (pe_bltn (v := .ty "tuple") (by rfl) T.m_tuple (by decide +kernel) rfl) pa_nil))) (nomark _)) (pw_or1 (q_cmp op_ne (pe_callB c_isi (by rfl) T.m_isinstance (by decide +kernel) (pa_cons (qv 1) (pa_cons (pe_bltn (v := .ty "list") (by rfl) T.m_list (by decide +kernel) rfl) pa_nil))) (pe_callB c_isi (by rfl) T.m_isinstance (by decide +kernel) (pa_cons (qv 0) (pa_cons (pe_bltn (v := .ty "list") (by rfl) T.m_list (by decide +kernel) rfl) pa_nil))) (nomark _))))) (pss_one (ps_ret pe_bl)) pss_nil)
    (qs_cons (q_if (q_cmp op_ne (pe_callB c_len (by rfl) T.m_len (by decide +kernel) (pa_cons (qv 0) pa_nil)) (pe_callB c_len (by rfl) T.m_len (by decide +kernel) (pa_cons (qv 1) pa_nil)) (nomark _)) (pss_one (ps_ret pe_bl)) pss_nil)
    (pss_one (ps_ret (pe_callB (cr_all rfl) (by rfl) T.m_all (by decide +kernel) (pa_cons (q_lc (own := [("_law_k", 3)]) (g := gName 3) (tt := tYes) rfl sc__law_alike.nd (qi_r1 (by rfl) T.m_range (pa_cons (pe_callB c_len (by rfl) T.m_len (by decide +kernel) (pa_cons (qv 1) pa_nil)) pa_nil)) (blkOk_by (own := [("_law_k", 3)]) (N := ["_law_found", "_law_due", "_law_name", "_law_k"]) (sc := defScope s__law_alike) (by decide +kernel)) (fun _ _ _ _ _ => (pg_name (i := 3) sc__law_alike.nd rfl (Or.inl rfl))) (fun _ _ _ _ _ => pts_nil) (fun _ _ _ _ _ => (q_call G hr rfl T.g__law_alike T.k__law_alike T.b__law_alike pass0 (pa_cons (pe_ix ix_L (qv 0) (qv 3) (fun _ _ => rfl)) (pa_cons (pe_ix ix_L (qv 1) (qv 3) (fun _ _ => rfl)) pa_nil))))) pa_nil))))))))))), ?_⟩
    dsimp! [ha, hb, hl, eq_self]
    refine ⟨⟨by omega, by omega⟩, fun D hD => ⟨_, _, _, fun i H1 => H1 D = some (.lst (trues i)) ∧ Same H H1, walk_range (lo := 0) (n := ys.length), ⟨upd_same, Same.new hD⟩, fun _ _ _ _ => True.intro, ?_, ?_⟩⟩
    · rintro i z H1 H2 hi ⟨hD1, s1⟩ ⟨rfl, rfl⟩
      have e0 : (0 : Int) + (i : Nat) = (i : Nat) := Int.zero_add _
      obtain ⟨v, hv⟩ : ∃ v, ys[i]? = some v := ⟨_, List.getElem?_eq_getElem hi⟩
      obtain ⟨u, hu1⟩ : ∃ u, xs[i]? = some u := ⟨_, List.getElem?_eq_getElem (by omega)⟩
      have ha1 := s1 _ _ ha
      have hb1 := s1 _ _ hb
      simp! [e0, ha1, hb1, atI_nat hv, atI_nat hu1]
      refine ⟨u, v, rfl, Alike.same s1 n u v (hk i u v hu1 hv), fun H3 s3 => ?_⟩
      have hD3 := s3 _ _ hD1
      simp! [hD3]
      refine ⟨by rw [trues_len]; exact small _ (by omega), by rw [trues_succ], fun b' o e => ?_⟩
      rw [upd_ne (ne_of_none e hD)]
      exact s3 _ _ (s1 _ _ e)
    · rintro H1 ⟨hD1, s1⟩
      refine ⟨D, List.replicate ys.length true, rfl, SqL.of hD1, ?_⟩
      rw [allT]
      exact kk _ s1
  · refine ⟨_, (qs_cons (q_if (q_cmp op_isN (qv 1) pe_non (nomark _)) (pss_one (ps_ret (pe_cmpR op_isN (qv 0) pe_non (nomark _)))) pss_nil)
    (qs_cons (q_if (q_val (pe_callB c_isi (by rfl) T.m_isinstance (by decide +kernel) (pa_cons (qv 1) (pa_cons (pe_bltn (v := .ty "bool") (by rfl) T.m_bool (by decide +kernel) rfl) pa_nil)))) (pss_one (ps_ret (q_and (pe_callB c_isi (by rfl) T.m_isinstance (by decide +kernel) (pa_cons (qv 0) (pa_cons (pe_bltn (v := .ty "bool") (by rfl) T.m_bool (by decide +kernel) rfl) pa_nil))) (pe_one (pe_cmpR op_eq (qv 0) (qv 1) (nomark _)))))) pss_nil)
    (qs_cons (q_if (q_val (pe_callB c_isi (by rfl) T.m_isinstance (by decide +kernel) (pa_cons (qv 1) (pa_cons (pe_bltn (v := .ty "int") (by rfl) T.m_int (by decide +kernel) rfl) pa_nil)))) (pss_one (ps_ret (q_and (pe_callB c_isi (by rfl) T.m_isinstance (by decide +kernel) (pa_cons (qv 0) (pa_cons (pe_bltn (v := .ty "int") (by rfl) T.m_int (by decide +kernel) rfl) pa_nil))) (q_and (q_not (pe_callB c_isi (by rfl) T.m_isinstance (by decide +kernel) (pa_cons (qv 0) (pa_cons (pe_bltn (v := .ty "bool") (by rfl) T.m_bool (by decide +kernel) rfl) pa_nil)))) (pe_one (pe_cmpR op_eq (qv 0) (qv 1) (nomark _))))))) pss_nil)
    (qs_cons (q_if (q_val (pe_callB c_isi (by rfl) T.m_isinstance (by decide +kernel) (pa_cons (qv 1) (pa_cons (pe_bltn (v := .ty "str") (by rfl) T.m_str (by decide +kernel) rfl) pa_nil)))) (pss_one (ps_ret (q_and (pe_callB c_isi (by rfl) T.m_isinstance (by decide +kernel) (pa_cons (qv 0) (pa_cons (pe_bltn (v := .ty "str") (by rfl) T.m_str (by decide +kernel) rfl) pa_nil))) (pe_one (pe_cmpR op_eq (qv 0) (qv 1) (nomark _)))))) pss_nil)
    (qs_cons (q_if (q_val (pe_callB c_isi (by rfl) T.m_isinstance (by decide +kernel) (pa_cons (qv 1) (pa_cons (pe_bltn (v := .ty "dict") (by rfl) T.m_dict (by decide +kernel) rfl) pa_nil)))) (qs_cons (q_if (PW.pt (pw_or (pt_not (q_val (pe_callB c_isi (by rfl) T.m_isinstance (by decide +kernel) (pa_cons (qv 0) (pa_cons (pe_bltn (v := .ty "dict") (by rfl) T.m_dict (by decide +kernel) rfl) pa_nil))))) (pw_or1 (q_cmp op_ne (pe_callB c_len (by rfl) T.m_len (by decide +kernel) (pa_cons (qv 0) pa_nil)) (pe_callB c_len (by rfl) T.m_len (by decide +kernel) (pa_cons (qv 1) pa_nil)) (nomark _))))) (pss_one (ps_ret pe_bl)) pss_nil)
    (pss_one (ps_ret (pe_callB (cr_all rfl) (by rfl) T.m_all (by decide +kernel) (pa_cons (pe_lock (q_lc (own := [("_law_name", 2)]) (g := gName 2) (tt := tYes) rfl sc__law_alike.nd (qi_keys (qv 1)) (blkOk_by (own := [("_law_name", 2)]) (N := ["_law_found", "_law_due", "_law_name", "_law_k"]) (sc := defScope s__law_alike) (by decide +kernel)) (fun _ _ _ _ _ => (pg_name (i := 2) sc__law_alike.nd rfl (Or.inl rfl))) (fun _ _ _ _ _ => pts_nil) (fun _ _ _ _ _ => (q_and (q_din hu (qv 2) (qv 0)) (pe_one (q_call G hr rfl T.g__law_alike T.k__law_alike T.b__law_alike pass0 (pa_cons (q_dget hu (qv 0) (qv 2) (fun _ _ => rfl)) (pa_cons (q_dget hu (qv 1) (qv 2) (fun _ _ => rfl)) pa_nil)))))))) pa_nil))))) pss_nil)
    (qs_cons (q_if (PW.pt (pw_or (q_cmp op_ne (pe_callB c_isi (by rfl) T.m_isinstance (by decide +kernel) (pa_cons (qv 1) (pa_cons (pe_bltn (v := .ty "tuple") (by rfl) T.m_tuple (by decide +kernel) rfl) pa_nil))) (pe_callB c_isi (by rfl) T.m_isinstance (by decide +kernel) (pa_cons (qv 0) (pa_cons (pe_bltn (v := .ty "tuple") (by rfl) T.m_tuple (by decide +kernel) rfl) pa_nil))) (nomark _)) (pw_or1 (q_cmp op_ne (pe_callB c_isi (by rfl) T.m_isinstance (by decide +kernel) (pa_cons (qv 1) (pa_cons (pe_bltn (v := .ty "list") (by rfl) T.m_list (by decide +kernel) rfl) pa_nil))) (pe_callB c_isi (by rfl) T.m_isinstance (by decide +kernel) (pa_cons (qv 0) (pa_cons (pe_bltn (v := .ty "list") (by rfl) T.m_list (by decide +kernel) rfl) pa_nil))) (nomark _))))) (pss_one (ps_ret pe_bl)) pss_nil)
    (qs_cons (q_if (q_cmp op_ne (pe_callB c_len (by rfl) T.m_len (by decide +kernel) (pa_cons (qv 0) pa_nil)) (pe_callB c_len (by rfl) T.m_len (by decide +kernel) (pa_cons (qv 1) pa_nil)) (nomark _)) (pss_one (ps_ret pe_bl)) pss_nil)
    (pss_one (ps_ret (pe_callB (cr_all rfl) (by rfl) T.m_all (by decide +kernel) (pa_cons (q_lc (own := [("_law_k", 3)]) (g := gName 3) (tt := tYes) rfl sc__law_alike.nd (qi_r1 (by rfl) T.m_range (pa_cons (pe_callB c_len (by rfl) T.m_len (by decide +kernel) (pa_cons (qv 1) pa_nil)) pa_nil)) (blkOk_by (own := [("_law_k", 3)]) (N := ["_law_found", "_law_due", "_law_name", "_law_k"]) (sc := defScope s__law_alike) (by decide +kernel)) (fun _ _ _ _ _ => (pg_name (i := 3) sc__law_alike.nd rfl (Or.inl rfl))) (fun _ _ _ _ _ => pts_nil) (fun _ _ _ _ _ => (q_call G hr rfl T.g__law_alike T.k__law_alike T.b__law_alike pass0 (pa_cons (pe_ix ix_L (qv 0) (qv 3) (fun _ _ => rfl)) (pa_cons (pe_ix ix_L (qv 1) (qv 3) (fun _ _ => rfl)) pa_nil))))) pa_nil))))))))))), ?_⟩
    dsimp! [ha, hb, hl, eq_self, tLockE]
    refine ⟨b, _, hb, True.intro, fun od => ?_⟩
    simp! []
    intro D hD
    have nbD : b ≠ D := ne_of_none upd_same hD
    have hD0 : H D = none := by rw [upd_ne nbD.symm] at hD; exact hD
    refine ⟨_, _, _, fun i H1 => H1 D = some (.lst (trues i)) ∧ Same (upd H b (.frz od (.dK kws))) H1, walk_keys (d := b) (o := od) (kvs := kws), ⟨upd_same, Same.new hD⟩, fun i H1 _ h => h.2 _ _ upd_same, ?_, ?_⟩
    · rintro i z H1 H2 hi ⟨hD1, s1⟩ ⟨rfl, key, v, hkv, rfl⟩
      obtain ⟨q1, q2, q3⟩ := hk _ (List.mem_of_getElem? hkv)
      have ha1 := s1 _ _ (show (upd H b (.frz od (.dK kws))) a = some (.dK kvs) by rw [upd_ne nab]; exact ha)
      have hb1 := s1 _ _ (show (upd H b (.frz od (.dK kws))) b = some (.frz od (.dK kws)) from upd_same)
      have ek : ∀ R : Key → Prop, keyR (kV key) R = R key := fun R => by cases key <;> rfl
      simp! [ek, ha1, hb1, q1, q2, Option.isSome_some]
      refine ⟨v, v, rfl, Alike.flat q3 n, fun H3 s3 => ?_⟩
      have hD3 := s3 _ _ hD1
      simp! [hD3]
      refine ⟨by rw [trues_len]; exact small _ (by omega), by rw [trues_succ], fun b' o e => ?_⟩
      rw [upd_ne (ne_of_none e hD)]
      exact s3 _ _ (s1 _ _ e)
    · rintro H1 ⟨hD1, s1⟩
      refine ⟨s1 _ _ upd_same, ?_⟩
      refine ⟨D, List.replicate kws.length true, rfl, SqL.of (by rw [upd_ne nbD.symm]; exact hD1), ?_⟩
      rw [allT]
      refine kk _ fun b' o e => ?_
      by_cases n : b' = b
      · rw [n] at e
        rw [hb] at e
        rw [n, upd_same]
        exact e
      · rw [upd_ne n]
        exact s1 _ _ (by rw [upd_ne n]; exact e)
theorem ok_alike (T : Txt K mg base A) : ∀ n, FnOk P w K mg base CX0 (n + 1) A._law_alike A.d__law_alike ["_law_found", "_law_due"] (spAlike n)
  | 0 => alike_0 T
  | n + 1 => alike_s T n (ok_alike T n)
end
end OA

namespace OA
open PySem PySem.Spec PyProof.Rows L2
section
variable {K : PySem.W.Frag} {A : Ad} {E0 : XK} {am : Am} {d : Addr} {tas : TA} {das : DA}
/-! alike -/
inductive AlkD : Nat → D → Prop
  | non {n : Nat} : AlkD n .non
  | bl {n : Nat} {b : Bool} : AlkD n (.bl b)
  | int {n : Nat} {b : Int} : AlkD n (.int b)
  | str {n : Nat} {b : Str} : AlkD n (.str b)
  | tup {n : Nat} {xs : List D} : xs.length ≤ 10000 → (∀ x ∈ xs, AlkD n x) → AlkD (n + 1) (.tup xs)
  | lst {n : Nat} {xs : List D} : xs.length ≤ 10000 → (∀ x ∈ xs, AlkD n x) → AlkD (n + 1) (.lst xs)
  | nt {n : Nat} {ns : List Int} : ns.length ≤ 10000 → AlkD (n + 1) (.nt ns)
theorem alk_of {H : Hp} {E : Addr → Prop} : ∀ {n : Nat} {d : D} {x y : V}, AlkD n d → Lay K H E d x → Lay K H E d y → Alike H n x y := fun {n d x y} h => by
  induction h generalizing x y with
  | non => intro hx hy; rw [show x = .non from hx, show y = .non from hy]; exact Alike.flat rfl _
  | bl => intro hx hy; rw [show x = .bl _ from hx, show y = .bl _ from hy]; exact Alike.flat rfl _
  | int => intro hx hy; rw [show x = .int _ from hx, show y = .int _ from hy]; exact Alike.flat rfl _
  | str => intro hx hy; rw [show x = .str _ from hx, show y = .str _ from hy]; exact Alike.flat rfl _
  | tup hl ha ih =>
    rintro ⟨a, vs, rfl, _, h1, h2⟩ ⟨b, us, rfl, _, h3, h4⟩
    refine .inr (.inl ⟨a, b, vs, us, rfl, rfl, .inl h1, .inl h3, by rw [← h2.len, ← h4.len], by rw [← h4.len]; exact hl, fun k u v q1 q2 => ?_⟩)
    obtain ⟨w1, e1, f1⟩ := (VOks.sh_of h2).at k q1
    obtain ⟨w2, e2, f2⟩ := (VOks.sh_of h4).at k q2
    rw [e1] at e2
    cases e2
    rw [List.getElem?_map] at e1
    cases q : (_ : List D)[k]? with
    | none => rw [q] at e1; cases e1
    | some d =>
      rw [q] at e1
      cases e1
      exact ih d (List.mem_of_getElem? q) f1 f2
  | lst hl ha ih =>
    rintro ⟨a, vs, rfl, _, h1, h2⟩ ⟨b, us, rfl, _, h3, h4⟩
    refine .inr (.inr (.inl ⟨a, b, vs, us, rfl, rfl, h1, h3, by rw [← h2.len, ← h4.len], by rw [← h4.len]; exact hl, fun k u v q1 q2 => ?_⟩))
    obtain ⟨w1, e1, f1⟩ := (VOks.sh_of h2).at k q1
    obtain ⟨w2, e2, f2⟩ := (VOks.sh_of h4).at k q2
    rw [e1] at e2
    cases e2
    rw [List.getElem?_map] at e1
    cases q : (_ : List D)[k]? with
    | none => rw [q] at e1; cases e1
    | some d =>
      rw [q] at e1
      cases e1
      exact ih d (List.mem_of_getElem? q) f1 f2
  | nt hl =>
    rintro ⟨a, oa, rfl, _, h1, _⟩ ⟨b, ob, rfl, _, h3, _⟩
    refine .inr (.inl ⟨a, b, _, _, rfl, rfl, .inr ⟨_, h1⟩, .inr ⟨_, h3⟩, rfl, by rw [List.length_map]; exact hl, fun k u v q1 q2 => ?_⟩)
    rw [q1] at q2
    cases q2
    rw [List.getElem?_map] at q1
    cases q : (_ : List Int)[k]? with
    | none => rw [q] at q1; cases q1
    | some i =>
      rw [q] at q1
      cases q1
      exact Alike.flat rfl _
def AlkW (Ω : Om) (n : Nat) (x y : W) : Prop := (∃ d, x = .sh d ∧ y = .sh d ∧ AlkD n d) ∨ ∃ p q wl wl', x = .pt p ∧ y = .pt q ∧ p ≠ q ∧ look Ω p = some (.dic (wlK wl) (wlW wl)) ∧ look Ω q = some (.dic (wlK wl') (wlW wl')) ∧ 0 < n ∧ wl.length = wl'.length ∧ wl.length ≤ 100 ∧ (wl'.map (·.1)).Nodup ∧ ∀ x ∈ wl', wl.lookup x.1 = some x.2
def dAlike (n : Nat) (das : DA) (Γ : Gm) (Ω : Om) (Q : DQ) : Prop := das Γ Ω fun ws Ω1 => two2W ws fun x y => AlkW Ω1 n x y ∧ Q (.sh (.bl true)) Ω1
instance c_alike {n : Nat} [s1 : SA K am tas das] : SE K am (vCall (spAlike n) E0 tas) (dAlike n das) := ⟨fun {c T σ Γ Ω H Q R} e h k =>
  s1.run e h fun vs ws Ω1 H1 h1 e1 hv => by
    obtain ⟨w, v, w2, v2, rfl, hw, hw2, h2, h3⟩ := two2W_el h1 hv
    refine ⟨v, v2, rfl, ?_, fun H' s' => k _ _ _ _ h3 ((e1.same s').addv rfl)⟩
    rcases h2 with ⟨d, rfl, rfl, hd⟩ | ⟨p, q, wl, wl', rfl, rfl, npq, hp, hq, n0, hl, h100, nd, hall⟩
    · exact alk_of hd hw hw2
    · obtain ⟨u1, a1, _, a3⟩ := e1.ob _ (look_mem hp)
      obtain ⟨u2, b1, _, b3⟩ := e1.ob _ (look_mem hq)
      rw [wl_oks_eq a3, ← wkv_zip] at a1
      rw [wl_oks_eq b3, ← wkv_zip] at b1
      obtain ⟨m, rfl⟩ : ∃ m, n = m + 1 := ⟨n - 1, by omega⟩
      refine .inr (.inr (.inr ⟨p, q, _, _, hw, hw2, a1, b1, by simp [wkv, hl], by simp [wkv]; omega, npq, fun kw hkw => ?_⟩))
      obtain ⟨x, hx, rfl⟩ := List.mem_map.mp hkw
      refine ⟨?_, ?_, rfl⟩
      · show valV (wkv wl) (Sum.inl (x.1 : Int)) = _
        rw [valV_wkv, hall x hx]
        rfl
      · show valV (wkv wl') (Sum.inl (x.1 : Int)) = _
        rw [valV_wkv, lookup_mem nd hx]
        rfl⟩
end
end OA

namespace OA
open PySem PySem.Spec PyProof.Rows L2
/-- a def that draws -/
def spDr (K : PySem.W.Frag) (sp : Addr → DSp) : Sp := fun vs H Q E => ∃ d, spD K (amD d) (sp d) vs H Q E
section
variable {K : PySem.W.Frag} {A : Ad} {E0 : XK} {am : Am} {d : Addr} {tas : TA} {das : DA}
instance s_callR {sp : Addr → DSp} [sd : DrawsIn d am] [le : AmLe (amD d) am] [s1 : SA K am tas das] : SE K am (vCall (spDr K sp) E0 tas) (dFn (sp d) das) := ⟨fun {c T σ Γ Ω H Q R} e h k =>
  s1.run e h fun vs ws Ω1 H1 h1 e1 hv => ⟨d, call_run e1 hv h1 k⟩⟩
end
end OA

namespace OA
open PySem PySem.Spec PyProof.Rows L2
section
variable {K : PySem.W.Frag} {am : Am}
/-! a dict comprehension that is changed later, or handed in -/
def dDcO (ix : List Nat) (di : DI) (g : DG) (dq : DB) (dk dv : DT) (vs : List Nat) (Γ : Gm) (Ω : Om) (Q : DQ) : Prop := (∀ i ∈ ix, i ∈ vs) ∧ di Γ Ω fun ws Ω1 => ∃ Pv : Nat → List Key → List W → Prop, dDcP ws g dq dk dv vs Γ Ω1 Pv ∧ ∀ ks us p, Pv ws.length ks us → notin p Ω1 → Q (.pt p) ((p, .dic ks us) :: Ω1)
instance s_dcO {wi : TI} {di : DI} {g : TG} {d : DG} {ix vs : List Nat} {tq : TT} {dq : DB} {tk tv : TE} {dk dv : DT} [s0 : SI K am wi di] [s1 : SG K am g d ix] [s2 : ST K am tq dq] [s3 : SE K am tk dk] [s4 : SE K am tv dv] : SE K am (ownE (vDc wi g tq tk tv vs)) (dDcO ix di d dq dk dv vs) := ⟨fun {c T σ Γ Ω H Q R} e ⟨hx, h⟩ k =>
  s0.run e h fun J H1 ws Ω1 T' G Y ⟨Pv, ⟨p0, ps⟩, hz⟩ e1 hw hG hY => fun D hD => by
    obtain ⟨S, e2, back⟩ := e1.save
    have nD : notin D Ω1 := fun z => e1.noEx hD (.inr z)
    have e3 : DEnv K c (.v (.pt D) (.ref D) :: (S ++ (T' ++ T))) σ Γ ((D, .dic [] []) :: Ω1) (upd H1 D (.dK [])) := e2.own hD (e2.new hD) (.inr ⟨[], [], [], rfl, rfl, rfl, rfl⟩)
    have to' : ∀ {σ : L2.St} {Γ : Gm} {Ω : Om} {H : Hp}, DEnv K c (.v (.pt D) (.ref D) :: (S ++ (T' ++ T))) σ Γ Ω H → DEnv K c (T' ++ T) σ Γ Ω H := fun e => e.drop.drops
    refine ⟨ws.length, G, Y, fun i H => ∃ ks us σ2 Γ2, Pv i ks us ∧ DEnv K c (.v (.pt D) (.ref D) :: (S ++ (T' ++ T))) σ2 Γ2 ((D, .dic ks us) :: Ω1) H, hw, ⟨[], [], σ, Γ, p0, e3⟩, fun i H _ ⟨ks, us, σ2, Γ2, _, e⟩ => hG _ _ _ _ (to' e), fun i x H H' hi ⟨ks, us, σ2, Γ2, p, e⟩ y => ?_, fun H ⟨ks, us, σ2, Γ2, p, e⟩ => ?_⟩
    · have eW : DEnv K c (.v (.pt D) (.ref D) :: (S ++ (T' ++ T))) (L2.wipe σ vs) (wipeG Γ vs) ((D, .dic ks us) :: Ω1) H := by
        have b1 := (back e.drop).wipe vs
        exact ⟨b1.len, b1.sl, e.tm, e.ob, e.nd, e.fr, e.el, e.frm, e.inv⟩
      obtain ⟨w, hw', e5⟩ := hY (.v (.pt D) (.ref D) :: S) i x _ _ _ H H' hi eW y
      refine s1.run e5.drop e5.hd (ps i w ks us D hw' p nD) fun σ3 Γ3 Ω3 H3 ⟨z3, q3⟩ e6 hwp => ⟨by rw [hwp vs hx, wipe_wipe], ?_⟩
      subst z3
      refine s2.run e6 q3 fun b Ω4 H4 ⟨z4, q4⟩ e7 => ?_
      subst z4
      cases b with
      | false => exact ⟨ks, us, _, _, q4, e7⟩
      | true =>
        refine s3.run e7 q4 fun y wy Ω5 H5 ⟨z5, q5⟩ e8 => ?_
        subst z5
        refine s4.run e8 q5 fun z wz Ω6 H6 ⟨z6, hl, q6⟩ e9 => ?_
        subst z6
        obtain ⟨q, rfl, p'⟩ := keyW_el q6 e9.drop.hd
        obtain ⟨vs', a1, an, a2⟩ := e9.ob (D, .dic ks us) List.mem_cons_self
        obtain ⟨vs2, g1, g2, g3⟩ := putA_ok q an a2 e9.hd
        refine keyR_k (k := fun k => dkO (H6 D) fun kvs => kvs.length < sizeLine ∧ ∃ ks us σ2 Γ2, Pv (i + 1) ks us ∧ DEnv K c (.v (.pt D) (.ref D) :: (S ++ (T' ++ T))) σ2 Γ2 ((D, .dic ks us) :: Ω1) (upd H6 D (.dK (putK kvs k z)))) q ?_
        rw [a1]
        have e10 := e9.drop.drop.putD (look_hd (od := .dic ks us)) g1 g2 g3
        rw [put_hd nD] at e10
        refine ⟨?_, _, _, _, _, p', e10⟩
        rw [List.length_zip, ← a2.len, an, Nat.min_self, ← an]
        exact hl
    · have b1 := back e.drop
      exact k _ _ _ _ (hz ks us D p nD) ⟨b1.len, b1.sl, fun t ht => by
        rcases List.mem_cons.mp ht with rfl | ht
        · exact rfl
        · exact b1.drops.tm t ht, b1.ob, b1.nd, b1.fr, b1.el, b1.frm, b1.inv⟩⟩
/-! list(d.values()) -/
def wLstV : List V → Hp → VK → Prop := fun vs H Q => one1 vs fun x => refR x fun p => ∃ d kvs, H p = some (viewV p d) ∧ H d = some (.dK kvs) ∧ ∀ q, H q = none → Q (.ref q) (upd H q (.lst (kvs.map Prod.snd)))
theorem kv_at : ∀ {as : List (Key × V)} {bs : List (Key × Value)} (j : Nat) (h : j < as.length), KV as bs → ∃ y, bs[j]? = some y ∧ as[j].1 = y.1 ∧ RelV as[j].2 y.2 := by
  intro as bs j h r
  induction r generalizing j with
  | nil => simp at h
  | cons a _ ih =>
    cases j with
    | zero => exact ⟨_, rfl, a.1, a.2⟩
    | succ j => exact ih j (by simpa using h)
theorem c_lstV {X : Cx} (hc : X.calm = true) : CallR X (.type "list") wLstV := by
  intro pins s σ H xs us Q I r h
  obtain ⟨x, rfl, h⟩ := one1_el h
  obtain ⟨p, rfl, d, kvs, hp, hk, q⟩ := refR_el h
  obtain ⟨u, eu, rx⟩ := vals1 r
  subst eu
  obtain rfl : u = Value.ref p := rx
  obtain ⟨z, lo, vs, rk, hd⟩ := (show ObjOk X.prog X.w H s.heap d (.dK kvs) from I.hok d _ hk)
  obtain ⟨ep, hat⟩ := hd.dictAt
  have hv : s.heap.IsValuesView p d := ⟨_, (show ObjOk X.prog X.w H s.heap p (viewV p d) from I.hok p _ hp).1, rfl, rfl⟩
  have hl : kvs.length = vs.length := Paired.length rk
  refine PySem.W.kdl_call (PySem.W.kdl_values (knd := mixKind X.prog X.w) (kvs := vs) (ep := ep)) (I.ok.hd hc) ⟨hv, hat⟩ (by rw [← hl]; exact z) fun h' tk acc' c' hkeep hS hacc => ?_
  refine ⟨.ref s.heap.objs.size, upd H s.heap.objs.size (.lst (kvs.map Prod.snd)), I.laid hkeep (Nat.le_refl _) (show ObjOk X.prog X.w _ _ _ (.lst (kvs.map Prod.snd)) from ⟨?_, acc'.toList, c', ?_, ?_⟩), rfl, q _ (I.hok.fresh (Nat.le_refl _))⟩
  · rw [List.length_map]; exact z
  · have el : acc'.toList.length = acc'.size := by simp
    refine vals_of_at (by rw [List.length_map, el, hacc.1, hl]) fun j x w h1 h2 => ?_
    obtain ⟨k, hi⟩ := hacc.2 j w (by rw [← Array.getElem?_toList]; exact h2)
    rw [List.getElem?_map] at h1
    cases q : kvs[j]? with
    | none => rw [q] at h1; cases h1
    | some y =>
      rw [q] at h1
      cases h1
      have hj : j < kvs.length := (List.getElem?_eq_some_iff.mp q).1
      obtain ⟨y', e1, e2, e3⟩ := kv_at j hj rk
      rw [hi] at e1
      cases e1
      rw [List.getElem?_eq_getElem hj] at q
      cases q
      exact e3
  · rw [Array.toArray_toList]; exact hS
def dLstVals (da : DT) (Γ : Gm) (Ω : Om) (Q : DQ) : Prop := da Γ Ω fun x Ω1 => match x with
  | .pt p => lookD (look Ω1 p) fun _ ws => shsW ws fun ds => Q (.sh (.lst ds)) Ω1
  | .sh (.dic _ ds) => Q (.sh (.lst ds)) Ω1
  | _ => False
instance s_lstVals {td : TE} {da : DT} [s1 : SE K am td da] : SE K am (tCB wLstV (tCons (vVals td) tNil)) (dLstVals da) := ⟨fun {c T σ Γ Ω H Q R} e h k =>
  s1.run e h fun x w Ω1 H1 h1 e1 => by
    cases w with
    | pt p =>
      have h1' : lookD (look Ω1 p) fun _ ws => shsW ws fun ds => Q (.sh (.lst ds)) Ω1 := h1
      cases hl : look Ω1 p with
      | none => rw [hl] at h1'; exact (show False from h1').elim
      | some od =>
        rw [hl] at h1'
        cases od with
        | lst ws => exact (show False from h1').elim
        | lk o kvs ks ws => exact (show False from h1').elim
        | dt ks ws => exact (show False from h1').elim
        | dic ks ws =>
          obtain ⟨vs, g1, g2, g3⟩ := e1.ob _ (look_mem hl)
          obtain ⟨ds, rfl, h2⟩ := shsW_el (show shsW ws fun ds => Q (.sh (.lst ds)) Ω1 from h1')
          obtain rfl : x = .ref p := e1.hd
          show dkO (H1 p) _
          rw [g1]
          intro a ha
          have hp2 : upd H1 a (viewV a p) p = some (.dK (ks.zip vs)) := by rw [upd_ne (ne_of_none g1 ha)]; exact g1
          refine ⟨p, _, upd_same, hp2, fun b hb => k _ _ _ _ h2 ?_⟩
          have e2 := (e1.drop.alloc (o := viewV a p) ha)
          have e3 : VOks K _ (Ex c Ω1) (ds.map .sh) vs := g3.mono (H' := upd H1 a (viewV a p)) fun b' o n h => ⟨n, by rw [upd_ne (ne_of_none h ha)]; exact h⟩
          have em : (ks.zip vs).map Prod.snd = vs := by
            rw [List.map_snd_zip]
            rw [← g3.len, g2]
            exact Nat.le_refl _
          rw [em]
          exact e2.lst hb e3.lay
    | sh d =>
      cases d with
      | dic ks ds =>
        obtain ⟨p, vs, rfl, np, g1, g2, g3⟩ := e1.hd
        show dkO (H1 p) _
        rw [g1]
        intro a ha
        have hp2 : upd H1 a (viewV a p) p = some (.dK (ks.zip vs)) := by rw [upd_ne (ne_of_none g1 ha)]; exact g1
        refine ⟨p, _, upd_same, hp2, fun b hb => k _ _ _ _ h1 ?_⟩
        have e2 := (e1.drop.alloc (o := viewV a p) ha)
        have e3 : LayL K (upd H1 a (viewV a p)) (Ex c Ω1) ds vs := LayL.mono (fun b' o n h => ⟨n, by rw [upd_ne (ne_of_none h ha)]; exact h⟩) ds vs g3
        have em : (ks.zip vs).map Prod.snd = vs := by
          rw [List.map_snd_zip]
          rw [← g3.len, g2]
          exact Nat.le_refl _
        rw [em]
        exact e2.lst hb e3
      | _ => exact (show False from h1).elim
    | ty n => exact (show False from h1).elim⟩
/-! pop() -/
theorem m_pop {X : Cx} : MtR X "list.pop" wPop := im_mt (r := rPop) mt_pop fun x vs H Q z => by
  obtain ⟨l, rfl, z1⟩ := refR_el z
  obtain ⟨xs, e, rfl, z2⟩ := lstO_el z1
  obtain ⟨v, e2, z3⟩ := optR_el z2
  exact ⟨l, xs, v, rfl, rfl, e, e2, z3⟩
instance r_pop : SRM K am wPop dPop := ⟨fun {c T σ Γ Ω H x w xs ws Q R} e hx hs h k => by
  obtain ⟨a, vs, us, rfl, hl, ha, hv, rfl, h2⟩ := ownL_el e hx h
  obtain rfl : xs = [] := hs
  split at h2
  · rename_i u hu
    show lstO (H a) _
    rw [ha]
    refine ⟨rfl, ?_⟩
    rw [← hv.len]
    obtain ⟨v, q1, q2⟩ := hv.to _ hu
    show optR _ _
    rw [q1]
    have hd : VOks K H (Ex c Ω) us.dropLast vs.dropLast := by
      rw [List.dropLast_eq_take, List.dropLast_eq_take, hv.len]
      exact hv.take _
    exact k _ _ _ _ h2 ((e.addv q2).putL hl hd)
  · exact h2.elim⟩
/-! list of ints against another -/
def dEqLI (neg : Bool) (x : W) (y : W) (Ω : Om) (Q : DQ) : Prop := seqW Ω x fun ws => seqW Ω y fun us => shsW ws fun ds => shsW us fun es => intsD ds fun ms => intsD es fun ns => Q (.sh (.bl (if neg then !decide (ms = ns) else decide (ms = ns)))) Ω
instance r_eqLI {neg : Bool} : SR2 K am (wEqLI neg) (dEqLI neg) := ⟨fun {c T σ Γ Ω H x y wx wy Q R} e hx hy h k => by
  obtain ⟨a, vs, ws, rfl, ha, hv, h1⟩ := seqW_el e hx h
  obtain ⟨b, ts, us, rfl, hb, ht, h2⟩ := seqW_el e hy h1
  obtain ⟨ds, rfl, h3⟩ := shsW_el h2
  obtain ⟨es, rfl, h4⟩ := shsW_el h3
  obtain ⟨ms, rfl, h5⟩ := intsD_el h4
  obtain ⟨ns, rfl, h6⟩ := intsD_el h5
  exact ⟨a, b, ms, ns, rfl, rfl, by rw [ha, lay_ints hv.lay], by rw [hb, lay_ints ht.lay], k _ _ _ _ h6 (e.addv rfl)⟩⟩
end
end OA

namespace OA
open PySem PySem.Spec PyProof.Rows L2
/-! a law: its draws, then the rest by data -/
def dN (n : Nat) (k : Nat → Prop) : Prop := k n
theorem put_no {p : Addr} {od : OD} {Ω : Om} (h : notin p Ω) : OA.put Ω p od = Ω := by
  unfold OA.put
  have : ∀ q ∈ Ω, (if q.1 = p then (q.1, od) else q) = q := fun q hq => if_neg fun z => h (List.mem_map.mpr ⟨q, hq, z⟩)
  rw [List.map_congr_left this, List.map_id']
theorem notin_cons {p q : Addr} {od : OD} {Ω : Om} : notin p ((q, od) :: Ω) ↔ p ≠ q ∧ notin p Ω := by
  unfold notin
  simp
theorem notin_put {p q : Addr} {od : OD} {Ω : Om} : notin p (OA.put Ω q od) ↔ notin p Ω := by
  unfold notin
  rw [put_keys]
section
variable {K : PySem.W.Frag} {A : Ad}
def spLaw (K : PySem.W.Frag) : Sp := fun vs H Q _ => ∃ (a : Addr) (ns : List Int), vs = [.ref a] ∧ SqL K H a (ns.map V.int) ∧ ns.length ≤ 63 ∧ ∀ H', Q (.bl true) H'
def lawG (N : List Str) (d : Addr) : Gm := (List.replicate N.length none).set 1 (some (.pt d))
def lawN : DN := ⟨fun _ _ => False, fun w _ => w = .sh (.bl true), fun _ _ => False, fun _ _ => False⟩
theorem law_go {X : Cx} {body : List Stmt} {ts : TS} {E0 E1 : XK} {N : List Str} {vs : List V} {H : Hp} {Q : VK} (h : spLaw K vs H Q E1) (hP : PSs X body (vSeq (tAsg (vCall (spDice K) E0 (tCons (vVar 0) (tCons (tC (.int 0)) tNil))) (gName 1)) ts))
    (hN : 2 ≤ N.length) (hD : ∀ d, ∃ td : DS, SS K (amD d) ts td ∧ td lawN (lawG N d) []) :
    ∃ t, PSs X body t ∧ t { nx := fun _ H' => Q .non H', rt := Q } (start N vs) H := by
  obtain ⟨a, ns, rfl, hS, hl, kk⟩ := h
  refine ⟨_, hP, ?_⟩
  refine (show spDice K [.ref a, .int 0] H (fun v H1 => Later (ts { nx := fun _ H' => Q .non H', rt := Q }) ((start N [.ref a]).set 1 (some v)) H1) E0 from ⟨a, ns, rfl, hS, hl, fun d H' sm hd dr => Later.mk ?_⟩)
  let c : Cq (amD d) := ⟨fun b => b = d, fun b m => m, H'⟩
  have e0 : DEnv K c [] ((start N [.ref a]).set 1 (some (.ref d))) (lawG N d) [] H' := by
    refine ⟨?_, fun i w hw => ?_, fun t ht => by simp at ht, fun q hq => by simp at hq, List.nodup_nil, fun p hp => by simp at hp, fun b hb => ?_, fun b o _ hb => hb, dr⟩
    · rw [List.length_set]
      unfold lawG L2.start
      simp
      omega
    · unfold lawG at hw
      rw [List.getElem?_set] at hw
      split at hw
      · rename_i z
        subst z
        split at hw
        · rename_i hl
          cases hw
          refine ⟨.ref d, ?_, rfl⟩
          rw [List.getElem?_set, if_pos rfl, if_pos]
          unfold L2.start
          simp
          omega
        · cases hw
      · rw [List.getElem?_replicate] at hw
        split at hw <;> cases hw
    · obtain ⟨ns, e, _⟩ := dr
      exact ⟨_, by rw [show b = d from hb]; exact e, fun _ z => by cases z⟩
  obtain ⟨td, hs, hD⟩ := hD d
  refine hs.run (c := c) (T := []) e0 hD ⟨fun _ _ _ _ z _ => z.elim, fun v w σ Γ Ω H2 q e => ?_, fun _ _ _ _ z _ => z.elim, fun _ _ _ _ z _ => z.elim⟩
  have q : w = .sh (.bl true) := q
  subst q
  rw [show v = .bl true from e.hd]
  exact kk H2
end
end OA

namespace OA
open PySem PySem.Spec PyProof.Rows L2
/-! data as the library's data; equality of data -/
mutual
def pdD : D → PyData
  | .non => .none
  | .bl b => .bool b
  | .int i => .int i
  | .str s => .str s
  | .tup xs => .tuple (pdL xs)
  | .lst xs => .list (pdL xs)
  | .dic _ _ => .none
  | .py d => d
  | .nt ns => .tuple (ns.map .int)
def pdL : List D → List PyData
  | [] => []
  | x :: r => pdD x :: pdL r
end
mutual
/-- nothing but numbers, signs, tuples, lists -/
def plD : D → Bool
  | .str s => PyData.strOk s
  | .tup xs => plL xs
  | .lst xs => plL xs
  | .dic _ _ => false
  | .py _ => false
  | _ => true
def plL : List D → Bool
  | [] => true
  | x :: r => plD x && plL r
end
section
variable {K : PySem.W.Frag} {H : Hp} {E : Addr → Prop}
mutual
theorem pd_dp : ∀ (x : D) (v : V), plD x = true → Lay K H E x v → Dp K H v (pdD x)
  | .non, _, _, h => by rw [show _ = V.non from h]; exact .non
  | .bl b, _, _, h => by rw [show _ = V.bl b from h]; exact .bl b
  | .int i, _, _, h => by rw [show _ = V.int i from h]; exact .int i
  | .str s, _, _, h => by rw [show _ = V.str s from h]; exact .str s
  | .tup xs, _, p, ⟨a, vs, e, _, ha, hl⟩ => by rw [e]; exact .tup (SqT.of ha) (pd_dpL xs vs p hl)
  | .lst xs, _, p, ⟨a, vs, e, _, ha, hl⟩ => by rw [e]; exact .lst (SqL.of ha) (pd_dpL xs vs p hl)
  | .dic _ _, _, p, _ => by cases p
  | .py _, _, p, _ => by cases p
  | .nt ns, _, p, ⟨a, ob, e, _, ha, _⟩ => by rw [e]; exact .tup (.inl (.inr ⟨ob, ha⟩)) (dpInts ns)
theorem pd_dpL : ∀ (xs : List D) (vs : List V), plL xs = true → LayL K H E xs vs → DpAll K H vs (pdL xs)
  | [], _, _, h => by rw [show _ = [] from h]; exact .nil
  | x :: xs, _, p, ⟨v, r, e, h1, h2⟩ => by
    unfold plL at p
    obtain ⟨p1, p2⟩ := Bool.and_eq_true_iff.mp p
    rw [e]
    exact .cons (pd_dp x v p1 h1) (pd_dpL xs r p2 h2)
end
mutual
theorem pd_can : ∀ (x : D), plD x = true → (pdD x).canLay0 = true
  | .non, _ => by simp [pdD, PyData.canLay0]
  | .bl b, _ => by simp [pdD, PyData.canLay0]
  | .int i, _ => by simp [pdD, PyData.canLay0]
  | .str s, p => by simpa [pdD, PyData.canLay0, plD] using p
  | .tup xs, p => by
    unfold pdD PyData.canLay0
    exact pd_canL xs p
  | .lst xs, p => by
    unfold pdD PyData.canLay0
    exact pd_canL xs p
  | .dic _ _, p => by cases p
  | .py _, p => by cases p
  | .nt ns, _ => by
    have gen : ∀ l : List Int, PyData.canLayAll0 (l.map PyData.int) = true := fun l => by
      induction l with
      | nil => simp [PyData.canLayAll0]
      | cons n ns ih => rw [List.map_cons]; unfold PyData.canLayAll0; rw [ih]; simp [PyData.canLay0]
    unfold pdD PyData.canLay0
    exact gen ns
theorem pd_canL : ∀ (xs : List D), plL xs = true → PyData.canLayAll0 (pdL xs) = true
  | [], _ => by simp [pdL, PyData.canLayAll0]
  | x :: xs, p => by
    unfold plL at p
    obtain ⟨p1, p2⟩ := Bool.and_eq_true_iff.mp p
    unfold pdL PyData.canLayAll0
    rw [pd_can x p1, pd_canL xs p2]
    rfl
end
end
/-- x and y as data, neither too deep -/
def pdW (Ω : Om) (w : W) (k : PyData → Prop) : Prop := match w with
  | .sh x => (plD x = true ∧ (pdD x).depth ≤ 64) ∧ k (pdD x)
  | .pt p => lookL (look Ω p) fun ws => shsW ws fun ds => (plL ds = true ∧ (pdD (.lst ds)).depth ≤ 64) ∧ k (.list (pdL ds))
  | _ => False
section
variable {K : PySem.W.Frag} {am : Am}
theorem shaped_of {d : PyData} (h1 : d.canLay0 = true) (h2 : d.depth ≤ 64) : SeqAt.shaped d = true := by
  unfold SeqAt.shaped
  rw [h1, decide_eq_true h2]
  rfl
theorem pdW_el {c : Cq am} {T : List Tp} {σ : L2.St} {Γ : Gm} {Ω : Om} {H : Hp} {w : W} {v : V} {k : PyData → Prop} (e : DEnv K c T σ Γ Ω H) (hv : VOk K H (Ex c Ω) w v) (h : pdW Ω w k) : ∃ d, Dp K H v d ∧ SeqAt.shaped d = true ∧ k d := by
  cases w with
  | sh x =>
    obtain ⟨⟨h1, h2⟩, h3⟩ := h
    exact ⟨_, pd_dp x v h1 hv, shaped_of (pd_can x h1) h2, h3⟩
  | ty n => exact (show False from h).elim
  | pt p =>
    have h : lookL (look Ω p) fun ws => shsW ws fun ds => (plL ds = true ∧ (pdD (.lst ds)).depth ≤ 64) ∧ k (.list (pdL ds)) := h
    cases hl : look Ω p with
    | none => rw [hl] at h; exact (show False from h).elim
    | some od =>
      rw [hl] at h
      cases od with
      | dic ks ws => exact (show False from h).elim
      | lk o kvs ks ws => exact (show False from h).elim
      | dt ks ws => exact (show False from h).elim
      | lst ws =>
        obtain ⟨ds, rfl, ⟨h1, h2⟩, h3⟩ := shsW_el (show shsW ws fun ds => (plL ds = true ∧ (pdD (.lst ds)).depth ≤ 64) ∧ k (.list (pdL ds)) from h)
        obtain ⟨vs, a1, a2⟩ := e.ob _ (look_mem hl)
        have hx : Dp K H v (.list (pdL ds)) := by
          rw [show v = .ref p from hv]
          exact .lst (SqL.of a1) (pd_dpL ds vs h1 a2.lay)
        refine ⟨_, hx, shaped_of ?_ h2, h3⟩
        unfold PyData.canLay0
        exact pd_canL ds h1
def dEqP (neg : Bool) (x : W) (y : W) (Ω : Om) (Q : DQ) : Prop := pdW Ω x fun d => pdW Ω y fun e => Q (.sh (.bl (if neg = true then !PyData.eqv d e else PyData.eqv d e))) Ω
instance r_eqP : SR2 K am (rEqD K) (dEqP false) := ⟨fun {c T σ Γ Ω H x y wx wy Q R} e hx hy h k => by
  obtain ⟨d, h1, h2, h3⟩ := pdW_el e hx h
  obtain ⟨d', g1, g2, g3⟩ := pdW_el e hy h3
  exact ⟨d, d', h1, g1, h2, g2, k _ _ _ _ g3 (e.addv rfl)⟩⟩
instance r_neP : SR2 K am (rNeD K) (dEqP true) := ⟨fun {c T σ Γ Ω H x y wx wy Q R} e hx hy h k => by
  obtain ⟨d, h1, h2, h3⟩ := pdW_el e hx h
  obtain ⟨d', g1, g2, g3⟩ := pdW_el e hy h3
  exact ⟨d, d', h1, g1, h2, g2, k _ _ _ _ g3 (e.addv rfl)⟩⟩
theorem pdW_s {x : D} {Ω : Om} {k : PyData → Prop} : pdW Ω (.sh x) k = ((plD x = true ∧ (pdD x).depth ≤ 64) ∧ k (pdD x)) := rfl
theorem pdW_p {p : Addr} {Ω : Om} {k : PyData → Prop} : pdW Ω (.pt p) k = lookL (look Ω p) fun ws => shsW ws fun ds => (plL ds = true ∧ (pdD (.lst ds)).depth ≤ 64) ∧ k (.list (pdL ds)) := rfl
/-! sorted(ints), list.insert(0, x) -/
def dSortI (ws : List W) (Ω : Om) (Q : DQ) : Prop := one1W ws fun w => seqW Ω w fun us => shsW us fun ds => intsD ds fun ns => ∀ ms : List Int, ms.Perm ns → ms.Pairwise (· ≤ ·) → Q (.sh (.lst (ms.map .int))) Ω
instance r_sortI : SRC K am (rSortedI K) dSortI := ⟨fun {c T σ Γ Ω H xs ws Q R} e hs h k => by
  obtain ⟨w, v, rfl, hw, h1⟩ := one1W_el h hs
  obtain ⟨a, vs, us, rfl, ha, hv, h2⟩ := seqW_el e hw h1
  obtain ⟨ds, rfl, h3⟩ := shsW_el h2
  obtain ⟨ns, rfl, h4⟩ := intsD_el h3
  refine ⟨a, ns, rfl, SqL.of (by rw [ha, lay_ints hv.lay]), fun ms p pm pw hp => k _ _ _ _ (h4 ms pm pw) (e.lst hp (ints_lay ms))⟩⟩
def dInsert0 (w : W) (ws : List W) (Ω : Om) (Q : DQ) : Prop := ownL Ω w fun p xs => two2W ws fun i y => i = .sh (.int 0) ∧ lenLt xs ∧ Q (.sh .non) (OA.put Ω p (.lst (y :: xs)))
instance r_insert0 : SRM K am wInsert0 dInsert0 := ⟨fun {c T σ Γ Ω H x w xs ws Q R} e hx hs h k => by
  obtain ⟨a, vs, us, rfl, hl, ha, hv, h1⟩ := ownL_el e hx h
  obtain ⟨w1, v1, w2, v2, rfl, g1, g2, rfl, h2, h3⟩ := two2W_el h1 hs
  obtain rfl : v1 = .int 0 := g1
  show lstO (H a) _
  rw [ha]
  refine ⟨⟨rfl, ?_⟩, k _ _ _ _ h3 ((e.putL hl (ws' := w2 :: us) (vs' := v2 :: vs) ⟨_, _, rfl, g2, hv⟩).addv rfl)⟩
  rw [← hv.len]
  exact h2⟩
/-! a comprehension over an own dict's keys, locked -/
def dLcK (ix : List Nat) (i : Nat) (g : DG) (dq : DB) (de : DT) (vs : List Nat) (Γ : Gm) (Ω : Om) (Q : DQ) : Prop := (∀ i ∈ ix, i ∈ vs) ∧ varR (Γ[i]?) fun w => ownD Ω w fun p ks ws => ∀ o kvs, ∃ Pv : Nat → List W → Prop,
  dLcP ks.length (ks.map fun q => W.sh (keyD q)) g dq de vs Γ (OA.put Ω p (.lk o kvs ks ws)) Pv ∧ ∀ acc, Pv ks.length acc → shsW acc fun ds => Q (.sh (.lst ds)) Ω
theorem put_put {Ω : Om} {p : Addr} {a b : OD} : OA.put (OA.put Ω p a) p b = OA.put Ω p b := by
  unfold OA.put
  rw [List.map_map]
  refine List.map_congr_left fun q _ => ?_
  show (if (if q.1 = p then (q.1, a) else q).1 = p then ((if q.1 = p then (q.1, a) else q).1, b) else (if q.1 = p then (q.1, a) else q)) = _
  by_cases z : q.1 = p
  · simp [z]
  · simp [z]
theorem nodup_fun {α : Type} : ∀ {Ω : List (Addr × α)} {p : Addr} {a b : α}, (Ω.map (·.1)).Nodup → (p, a) ∈ Ω → (p, b) ∈ Ω → a = b
  | [], _, _, _, _, h, _ => by simp at h
  | q :: Ω, p, a, b, nd, h1, h2 => by
    obtain ⟨n1, n2⟩ := List.nodup_cons.mp nd
    rcases List.mem_cons.mp h1 with e1 | g1
    · rcases List.mem_cons.mp h2 with e2 | g2
      · rw [← e2] at e1
        exact congrArg Prod.snd e1
      · refine absurd (show q.1 ∈ Ω.map (·.1) from ?_) n1
        rw [← e1]
        exact List.mem_map.mpr ⟨(p, b), g2, rfl⟩
    · rcases List.mem_cons.mp h2 with e2 | g2
      · refine absurd (show q.1 ∈ Ω.map (·.1) from ?_) n1
        rw [← e2]
        exact List.mem_map.mpr ⟨(p, a), g1, rfl⟩
      · exact nodup_fun n2 g1 g2
theorem put_same {Ω : Om} {p : Addr} {od : OD} (nd : (Ω.map (·.1)).Nodup) (h : look Ω p = some od) : OA.put Ω p od = Ω := by
  unfold OA.put
  have : ∀ q ∈ Ω, (if q.1 = p then (q.1, od) else q) = q := fun q hq => by
    by_cases z : q.1 = p
    · rw [if_pos z]
      have := nodup_fun nd (show (p, q.2) ∈ Ω by rw [← z]; exact hq) (look_mem h)
      rw [← this]
    · rw [if_neg z]
  rw [List.map_congr_left this, List.map_id']
instance s_lcK {i : Nat} {g : TG} {d : DG} {ix vs : List Nat} {tq : TT} {dq : DB} {te : TE} {de : DT} [s1 : SG K am g d ix] [s2 : ST K am tq dq] [s3 : SE K am te de] : SE K am (tLockE (vLc (viKeys (vVar i)) g tq te vs)) (dLcK ix i d dq de vs) := ⟨fun {c T σ Γ Ω H Q R} e h k => by
  obtain ⟨hix, h⟩ := h
  obtain ⟨w, h1, h2⟩ := varR_el h
  obtain ⟨v, h3, h4⟩ := e.sl i w h1
  obtain ⟨a, ks, us, ws, rfl, hl, ha, hn, hv, h5⟩ := ownD_el e h4 h2
  refine ⟨a, _, ha, True.intro, fun od => ?_⟩
  obtain ⟨Pv, ⟨p0, ps⟩, hz⟩ := h5 od (ks.zip us)
  have nd0 := e.nd
  have hlk : look (OA.put Ω a (.lk od (ks.zip us) ks ws)) a = some (.lk od (ks.zip us) ks ws) := look_put hl
  have e1 : DEnv K c T σ Γ (OA.put Ω a (.lk od (ks.zip us) ks ws)) (upd H a (.frz od (.dK (ks.zip us)))) :=
    e.put hl ⟨us, upd_same, rfl, hn, hv.mono fun b o n h => ⟨n, by rw [upd_ne fun z => n (.inr (by rw [z]; exact List.mem_map.mpr ⟨_, look_mem hl, rfl⟩))]; exact h⟩⟩
  generalize hΩ : OA.put Ω a (.lk od (ks.zip us) ks ws) = Ω1 at *
  show optR _ _
  rw [h3]
  show frzO (upd H a _ a) _
  rw [upd_same, frzO_e]
  intro D hD
  have nD : notin D Ω1 := fun z => e1.noEx hD (.inr z)
  have naD : a ≠ D := fun z => nD (by
    rw [← z]
    exact List.mem_map.mpr ⟨_, look_mem hlk, rfl⟩)
  obtain ⟨S, e2, back⟩ := e1.save
  have e3 : DEnv K c (.v (.pt D) (.ref D) :: (S ++ T)) σ Γ ((D, .lst []) :: Ω1) (upd (upd H a (.frz od (.dK (ks.zip us)))) D (.lst [])) := e2.own hD (e2.new hD) (.inl ⟨[], [], rfl, rfl, rfl⟩)
  have hz2 : (ks.zip us).length = ks.length := by rw [List.length_zip, ← hv.len, hn, Nat.min_self]
  have wk : Walk (Itk a od (ks.zip us)) ks.length (fun H => H a = some (.frz od (.dK (ks.zip us)))) (fun i H x H' => H' = H ∧ ∃ k v, (ks.zip us)[i]? = some (k, v) ∧ x = kV k) := by
    have z := walk_keys (d := a) (o := od) (kvs := ks.zip us)
    rw [hz2] at z
    exact z
  have lkD : ∀ acc, look ((D, OD.lst acc) :: Ω1) a = some (.lk od (ks.zip us) ks ws) := fun acc => by rw [look_tl naD]; exact hlk
  refine ⟨ks.length, _, _, fun i H => ∃ acc σ2 Γ2, Pv i acc ∧ DEnv K c (.v (.pt D) (.ref D) :: (S ++ T)) σ2 Γ2 ((D, .lst acc) :: Ω1) H, wk, ⟨[], σ, Γ, p0, e3⟩, fun i H _ ⟨acc, σ2, Γ2, _, e⟩ => (e.unlock (lkD acc)).1, fun j x H2 H' hj ⟨acc, σ2, Γ2, p, e⟩ y => ?_, fun H2 ⟨acc, σ2, Γ2, p, e⟩ => ?_⟩
  · obtain ⟨rfl, q, u, hq, rfl⟩ := y
    have hk : ks[j]? = some q := by
      have := congrArg (Option.map Prod.fst) hq
      rw [← List.getElem?_map, List.map_fst_zip (by rw [← hv.len, hn]; exact Nat.le_refl _)] at this
      exact this
    have eW : DEnv K c (.v (.pt D) (.ref D) :: (S ++ T)) (L2.wipe σ vs) (wipeG Γ vs) ((D, .lst acc) :: Ω1) H' := by
      have b1 := (back e.drop).wipe vs
      exact ⟨b1.len, b1.sl, e.tm, e.ob, e.nd, e.fr, e.el, e.frm, e.inv⟩
    have hkv : VOk K H' (Ex c ((D, .lst acc) :: Ω1)) (.sh (keyD q)) (kV q) := by cases q <;> exact rfl
    refine s1.run eW hkv (ps j (.sh (keyD q)) acc D (by rw [List.getElem?_map, hk]; rfl) p nD) fun σ3 Γ3 Ω3 H3 ⟨z3, q3⟩ e6 hwp => ⟨by rw [hwp vs hix, wipe_wipe], ?_⟩
    subst z3
    refine s2.run e6 q3 fun b Ω4 H4 ⟨z4, q4⟩ e7 => ?_
    subst z4
    cases b with
    | false => exact ⟨acc, _, _, q4, e7⟩
    | true =>
      refine s3.run e7 q4 fun y wy Ω5 H5 ⟨z5, hlt, p'⟩ e8 => ?_
      subst z5
      obtain ⟨vs', a1, a2⟩ := e8.ob (D, .lst acc) List.mem_cons_self
      show lstO (H5 D) _
      rw [a1]
      have e9 := e8.drop.putL (vs' := vs' ++ [y]) (ws' := acc ++ [wy]) look_hd (a2.app (.one e8.hd))
      rw [put_hd nD] at e9
      exact ⟨by rw [← a2.len]; exact hlt, acc ++ [wy], _, _, p', e9⟩
  · have b1 := back e.drop
    have b2 : DEnv K c (.v (.pt D) (.ref D) :: T) σ Γ ((D, .lst acc) :: Ω1) H2 := ⟨b1.len, b1.sl, fun t ht => by
      rcases List.mem_cons.mp ht with rfl | ht
      · exact rfl
      · exact b1.tm t ht, b1.ob, b1.nd, b1.fr, b1.el, b1.frm, b1.inv⟩
    obtain ⟨c1, c2⟩ := b2.unlock (lkD acc)
    refine ⟨c1, ?_⟩
    rw [put_t naD.symm, ← hΩ, put_put, put_same nd0 hl] at c2
    obtain ⟨ds, rfl, h6⟩ := shsW_el (hz acc p)
    have nD' : notin D Ω := by
      rw [← hΩ] at nD
      exact fun z => nD (by rw [put_keys]; exact z)
    exact k _ _ _ _ h6 (c2.drop.unown nD')⟩
/-! a list put together, changed later -/
def dCatO (da db : DT) (Γ : Gm) (Ω : Om) (Q : DQ) : Prop := da Γ Ω fun x Ω1 => db Γ Ω1 fun y Ω2 => seqW Ω2 x fun ws => seqW Ω2 y fun us => lenOk (ws ++ us) ∧ ∀ p, notin p Ω2 → Q (.pt p) ((p, .lst (ws ++ us)) :: Ω2)
instance s_catO {ta tb : TE} {da db : DT} [s1 : SE K am ta da] [s2 : SE K am tb db] : SE K am (ownE (tOp wCat ta tb)) (dCatO da db) := ⟨fun {c T σ Γ Ω H Q R} e h k =>
  s1.run e h fun x wx Ω1 H1 h1 e1 => s2.run e1 h1 fun y wy Ω2 H2 h2 e2 => by
    obtain ⟨a, vs, ws, rfl, ha, hv, h3⟩ := seqW_el e2 e2.drop.hd h2
    obtain ⟨b, ts, us, rfl, hb, ht, hl, h4⟩ := seqW_el e2 e2.hd h3
    have n1 := hv.len
    have n2 := ht.len
    show lstO (H2 a) _
    rw [ha]
    show lstO (H2 b) _
    rw [hb]
    refine ⟨?_, fun p hp => k _ _ _ _ (h4 p (fun z => e2.noEx hp (.inr z))) (e2.drop.drop.own hp (e2.new hp) (.inl ⟨_, _, rfl, rfl, hv.app ht⟩))⟩
    have hl' : (ws ++ us).length ≤ sizeLine := hl
    rw [List.length_append] at hl'
    rw [← n1, ← n2]
    exact hl'⟩
theorem look_put_ne {Ω : Om} {p q : Addr} {od : OD} (h : p ≠ q) : look (OA.put Ω p od) q = look Ω q := by
  induction Ω with
  | nil => rfl
  | cons x Ω ih =>
    obtain ⟨b, o⟩ := x
    by_cases z : b = p
    · subst z
      rw [put_c, look_tl (fun y => h y.symm), look_tl (fun y => h y.symm), ih]
    · rw [put_t z]
      by_cases y : b = q
      · subst y
        rw [look_hd, look_hd]
      · rw [look_tl (fun x => y x.symm), look_tl (fun x => y x.symm), ih]
theorem look_in {Ω : Om} {p : Addr} {od : OD} (h : look Ω p = some od) : ¬ notin p Ω := fun n => n (List.mem_map.mpr ⟨_, look_mem h, rfl⟩)
theorem look_new {Ω : Om} {p q : Addr} {od : OD} (h : look Ω p = some od) (n : notin q Ω) : p ≠ q := fun z => look_in h (by rw [z]; exact n)
theorem pl_ints (ns : List Nat) : plL (ns.map fun (n : Nat) => D.int (n : Nat)) = true := by
  induction ns with
  | nil => rfl
  | cons n ns ih => rw [List.map_cons]; unfold plL; rw [ih]; rfl
theorem dp_ints (ns : List Nat) : PyData.depthAll (pdL (ns.map fun (n : Nat) => D.int (n : Nat))) = 0 := by
  induction ns with
  | nil => rfl
  | cons n ns ih =>
    rw [List.map_cons]
    unfold pdL PyData.depthAll
    rw [ih]
    rfl
theorem pl_all {xs : List D} (h : ∀ x ∈ xs, plD x = true) : plL xs = true := by
  induction xs with
  | nil => rfl
  | cons x xs ih =>
    unfold plL
    rw [h x List.mem_cons_self, ih fun y hy => h y (List.mem_cons_of_mem _ hy)]
    rfl
theorem dp_all {xs : List D} {n : Nat} (h : ∀ x ∈ xs, (pdD x).depth ≤ n) : PyData.depthAll (pdL xs) ≤ n := by
  induction xs with
  | nil => exact Nat.zero_le _
  | cons x xs ih =>
    unfold pdL PyData.depthAll
    have a := h x List.mem_cons_self
    have b := ih fun y hy => h y (List.mem_cons_of_mem _ hy)
    omega
end
end OA

namespace OA
open PySem PySem.Spec PyProof.Rows L2
theorem ext_srt {α : Type} {lt : α → α → Prop} (as : ∀ a b, lt a b → ¬ lt b a) : ∀ l1 l2 : List α, l1.Pairwise lt → l2.Pairwise lt → (∀ x, x ∈ l1 ↔ x ∈ l2) → l1 = l2
  | [], [], _, _, _ => rfl
  | [], y :: l2, _, _, h => absurd ((h y).mpr List.mem_cons_self) (by simp)
  | x :: l1, [], _, _, h => absurd ((h x).mp List.mem_cons_self) (by simp)
  | x :: l1, y :: l2, p1, p2, h => by
    have a1 := List.pairwise_cons.mp p1
    have a2 := List.pairwise_cons.mp p2
    have exy : x = y := by
      rcases List.mem_cons.mp ((h x).mp List.mem_cons_self) with e | m1
      · exact e
      · rcases List.mem_cons.mp ((h y).mpr List.mem_cons_self) with e | m2
        · exact e.symm
        · exact absurd (a2.1 x m1) (as _ _ (a1.1 y m2))
    subst exy
    have e := ext_srt as l1 l2 a1.2 a2.2 fun z => by
      constructor
      · intro hz
        rcases List.mem_cons.mp ((h z).mp (List.mem_cons_of_mem _ hz)) with e | m
        · subst e
          exact absurd (a1.1 z hz) (as _ _ (a1.1 z hz))
        · exact m
      · intro hz
        rcases List.mem_cons.mp ((h z).mpr (List.mem_cons_of_mem _ hz)) with e | m
        · subst e
          exact absurd (a2.1 z hz) (as _ _ (a2.1 z hz))
        · exact m
    rw [e]
section
variable {K : PySem.W.Frag} {am : Am}
/-! dict(pairs) -/
def wDictP (K : PySem.W.Frag) : List V → Hp → VK → Prop := fun xs H Q => ∃ (a : Addr) (ps : List Addr) (kvs : List (Key × V)), xs = [.ref a] ∧ SqL K H a (ps.map V.ref) ∧ Paired (fun p kv => SqT K H p [kV kv.1, kv.2]) ps kvs ∧ ∀ p, H p = none → Q (.ref p) (upd H p (.dK (mergeK [] kvs)))
theorem c_dictP {X : Cx} (hc : X.calm = true) : CallR X (.type "dict") (wDictP X.K) := im_call (call_dictP hc) fun xs H Q z => z
theorem merge_nd (wl : WL) : ∀ acc : WL, ((acc ++ wl).map (·.1)).Nodup → mergeK (wkv acc) (wkv wl) = wkv (acc ++ wl) := by
  induction wl with
  | nil => intro acc _; rw [List.append_nil]; rfl
  | cons x wl ih =>
    intro acc nd
    show mergeK (putK (wkv acc) (Sum.inl (x.1 : Int)) (V.int (x.2 : Nat))) (wkv wl) = _
    have hx : valV (wkv acc) (Sum.inl (x.1 : Int) : Key) = none := by
      rw [valV_wkv]
      cases q : acc.lookup x.1 with
      | none => rfl
      | some t =>
        rw [List.map_append, List.nodup_append] at nd
        have : (x.1, t) ∈ acc := by
          clear ih nd
          induction acc with
          | nil => cases q
          | cons y l ihl =>
            simp only [List.lookup] at q
            split at q
            · rename_i e
              have e' : x.1 = y.1 := by simpa using e
              cases q
              rw [e']
              exact List.mem_cons_self
            · exact List.mem_cons_of_mem _ (ihl q)
        exact absurd rfl (nd.2.2 x.1 (List.mem_map.mpr ⟨_, this, rfl⟩) x.1 (by simp))
    rw [putK_new _ hx]
    have e : wkv acc ++ [(Sum.inl (x.1 : Int), V.int (x.2 : Nat))] = wkv (acc ++ [x]) := by
      unfold wkv
      rw [List.map_append]
      rfl
    rw [e, ih (acc ++ [x]) (by rw [List.append_assoc]; exact nd), List.append_assoc]
    rfl
def dDictO (das : DA) (Γ : Gm) (Ω : Om) (Q : DQ) : Prop := das Γ Ω fun ws Ω1 => one1W ws fun x => ∃ wl : WL, x = .sh (.lst (wl.map fun x => D.tup [.int (x.1 : Nat), .int (x.2 : Nat)])) ∧ (wl.map (·.1)).Nodup ∧ ∀ p, notin p Ω1 → Q (.pt p) ((p, .dic (wlK wl) (wlW wl)) :: Ω1)
theorem pairs_lay {H : Hp} {E : Addr → Prop} : ∀ {wl : WL} {vs : List V}, LayL K H E (wl.map fun x => D.tup [.int (x.1 : Nat), .int (x.2 : Nat)]) vs → ∃ ps : List Addr, vs = ps.map V.ref ∧ Paired (fun p kv => SqT K H p [kV kv.1, kv.2]) ps (wkv wl)
  | [], _, h => ⟨[], by rw [show _ = [] from h]; rfl, .nil⟩
  | x :: wl, _, ⟨v, r, e, ⟨a, us, e2, _, ha, u1, r1, e3, h1, u2, r2, e4, h2, h3⟩, hr⟩ => by
    obtain ⟨ps, e5, hp⟩ := pairs_lay hr
    refine ⟨a :: ps, by rw [e, e2, e5]; rfl, .cons ?_ hp⟩
    rw [e3, e4, show u1 = .int _ from h1, show u2 = .int _ from h2, show r2 = [] from h3] at ha
    exact SqT.of ha
instance s_dictO {tas : TA} {das : DA} [s1 : SA K am tas das] : SE K am (ownE (tCB (wDictP K) tas)) (dDictO das) := ⟨fun {c T σ Γ Ω H Q R} e h k =>
  s1.run e h fun vs ws Ω1 H1 h1 e1 hv => by
    obtain ⟨w, v, rfl, hw, wl, rfl, nd, h2⟩ := one1W_el h1 hv
    obtain ⟨a, us, rfl, na, ha, hl⟩ := hw
    obtain ⟨ps, rfl, hp⟩ := pairs_lay hl
    refine ⟨a, ps, wkv wl, rfl, SqL.of ha, hp, fun p hpn => ?_⟩
    rw [show mergeK [] (wkv wl) = wkv wl from by
      have e := merge_nd wl [] (by simpa using nd)
      rw [List.nil_append] at e
      exact e]
    refine k _ _ _ _ (h2 p (fun z => e1.noEx hpn (.inr z))) (e1.own hpn (e1.new hpn) (.inr ⟨wlK wl, wlW wl, _, rfl, by rw [wkv_zip], by simp [wlK, wlW, wlD], wl_oks wl⟩))⟩
/-! sorted(pairs) -/
def prD (p : Int × Int) : D := .tup [.int p.1, .int p.2]
def kOf (H : Hp) (v : V) : Int × Int := match v with
  | .ref t => (match H t with
    | some (.tup [.int i, .int j]) => (i, j)
    | _ => (0, 0))
  | _ => (0, 0)
def dSortP (ws : List W) (Ω : Om) (Q : DQ) : Prop := one1W ws fun w => ∃ prs : List (Int × Int), w = .sh (.lst (prs.map prD)) ∧ ∀ qs : List (Int × Int), qs.Perm prs → qs.Pairwise (fun a b => SrtO.lexB b a = false) → Q (.sh (.lst (qs.map prD))) Ω
theorem prs_lay {H : Hp} {E : Addr → Prop} : ∀ {prs : List (Int × Int)} {vs : List V}, LayL K H E (prs.map prD) vs → vs.map (kOf H) = prs ∧ ∀ x ∈ vs, (∃ t, x = V.ref t ∧ H t = some (.tup [.int (kOf H x).1, .int (kOf H x).2])) ∧ Lay K H E (prD (kOf H x)) x
  | [], _, h => by rw [show _ = [] from h]; exact ⟨rfl, fun x hx => by simp at hx⟩
  | p :: prs, _, ⟨v, r, e, hv, hr⟩ => by
    obtain ⟨h1, h2⟩ := prs_lay hr
    obtain ⟨a, us, e2, na, ha, u1, r1, e3, g1, u2, r2, e4, g2, g3⟩ := hv
    rw [e3, e4, show u1 = .int _ from g1, show u2 = .int _ from g2, show r2 = [] from g3] at ha
    have hk : kOf H v = p := by
      rw [e2]
      show (match H a with | some (.tup [.int i, .int j]) => (i, j) | _ => ((0 : Int), (0 : Int))) = p
      rw [ha]
    rw [e, List.map_cons, hk, h1]
    refine ⟨rfl, fun x hx => ?_⟩
    rcases List.mem_cons.mp hx with rfl | hx
    · rw [hk]
      exact ⟨⟨a, e2, ha⟩, a, _, e2, na, ha, _, _, rfl, rfl, _, _, rfl, rfl, rfl⟩
    · exact h2 x hx
theorem lay_prs {H : Hp} {E : Addr → Prop} : ∀ {ys : List V}, (∀ x ∈ ys, Lay K H E (prD (kOf H x)) x) → LayL K H E ((ys.map (kOf H)).map prD) ys
  | [], _ => rfl
  | y :: ys, h => ⟨y, ys, rfl, h y List.mem_cons_self, lay_prs fun x hx => h x (List.mem_cons_of_mem _ hx)⟩
instance r_sortP : SRC K am (rSortedPO K) dSortP := ⟨fun {c T σ Γ Ω H xs ws Q R} e hs h k => by
  obtain ⟨w, v, rfl, hw, prs, rfl, h2⟩ := one1W_el h hs
  obtain ⟨a, us, rfl, na, ha, hl⟩ := hw
  obtain ⟨h3, h4⟩ := prs_lay hl
  refine ⟨a, us, kOf H, rfl, SqL.of ha, fun x hx => (h4 x hx).1, fun ys p hsr hst hp => ?_⟩
  have pm : ys.Perm us := hst.perm
  have h5 := h2 (ys.map (kOf H)) (by rw [← h3]; exact pm.map _) (by
    rw [List.pairwise_map]
    exact hsr)
  refine k _ _ _ _ h5 (e.lst hp ?_)
  exact lay_prs fun x hx => (h4 x (pm.mem_iff.mp hx)).2⟩
/-- a comprehension, thing by thing -/
theorem dLcP_map {α : Type} {D0 : List α} {f G : α → W} {n : Nat} {g : DG} {dq : DB} {de : DT} {vs : List Nat} {Γ : Gm} {Ω1 : Om} (h8 : D0.length ≤ 1000)
    (h : ∀ x ∈ D0, ∀ acc p (Pn : List W → Prop), notin p Ω1 → lenLt acc → Pn (acc ++ [G x]) → g (f x) (wipeG Γ vs) ((p, .lst acc) :: Ω1) fun Γ2 Ω2 => Ω2 = (p, .lst acc) :: Ω1 ∧ dq Γ2 ((p, .lst acc) :: Ω1) fun b Ω3 => Ω3 = (p, .lst acc) :: Ω1 ∧
      if b = true then de Γ2 ((p, .lst acc) :: Ω1) fun y Ω4 => Ω4 = (p, .lst acc) :: Ω1 ∧ lenLt acc ∧ Pn (acc ++ [y]) else Pn acc) :
    dLcP n (D0.map f) g dq de vs Γ Ω1 fun i acc => acc = (D0.take i).map G := by
  refine ⟨rfl, fun i w acc p hw ha hn => ?_⟩
  rw [List.getElem?_map] at hw
  cases q : D0[i]? with
  | none => rw [q] at hw; cases hw
  | some x =>
    rw [q] at hw
    obtain rfl : f x = w := Option.some.inj hw
    have hi : i < D0.length := (List.getElem?_eq_some_iff.mp q).1
    have ht : D0.take (i + 1) = D0.take i ++ [x] := by rw [List.take_succ, q]; rfl
    refine h x (List.mem_of_getElem? q) acc p (fun a => a = (D0.take (i + 1)).map G) hn ?_ ?_
    · rw [ha]
      unfold lenLt
      rw [sizeLine_eq, List.length_map, List.length_take]
      omega
    · rw [ht, List.map_append, ← ha]
      rfl
/-- a comprehension with a test -/
theorem dLcP_filt {α : Type} {D0 : List α} {f G : α → W} {t : α → Bool} {n : Nat} {g : DG} {dq : DB} {de : DT} {vs : List Nat} {Γ : Gm} {Ω1 : Om} (h8 : D0.length ≤ 1000)
    (h : ∀ x ∈ D0, ∀ acc p (Pn : List W → Prop), notin p Ω1 → lenLt acc → (if t x = true then Pn (acc ++ [G x]) else Pn acc) → g (f x) (wipeG Γ vs) ((p, .lst acc) :: Ω1) fun Γ2 Ω2 => Ω2 = (p, .lst acc) :: Ω1 ∧ dq Γ2 ((p, .lst acc) :: Ω1) fun b Ω3 => Ω3 = (p, .lst acc) :: Ω1 ∧
      if b = true then de Γ2 ((p, .lst acc) :: Ω1) fun y Ω4 => Ω4 = (p, .lst acc) :: Ω1 ∧ lenLt acc ∧ Pn (acc ++ [y]) else Pn acc) :
    dLcP n (D0.map f) g dq de vs Γ Ω1 fun i acc => acc = ((D0.take i).filter t).map G := by
  refine ⟨rfl, fun i w acc p hw ha hn => ?_⟩
  rw [List.getElem?_map] at hw
  cases q : D0[i]? with
  | none => rw [q] at hw; cases hw
  | some x =>
    rw [q] at hw
    obtain rfl : f x = w := Option.some.inj hw
    have hi : i < D0.length := (List.getElem?_eq_some_iff.mp q).1
    have ht : D0.take (i + 1) = D0.take i ++ [x] := by rw [List.take_succ, q]; rfl
    refine h x (List.mem_of_getElem? q) acc p (fun a => a = ((D0.take (i + 1)).filter t).map G) hn ?_ ?_
    · rw [ha]
      unfold lenLt
      have := List.length_filter_le t (D0.take i)
      rw [List.length_take] at this
      rw [sizeLine_eq, List.length_map]
      omega
    · rw [ht, List.filter_append, List.map_append, ← ha]
      cases z : t x with
      | true => simp [z]
      | false => simp [z]
end
end OA

namespace OA
open PySem PySem.Spec PyProof.Rows L2
section
variable {K : PySem.W.Frag} {am : Am}
/-! a list of an own dict's names; an own dict against an empty one; a list again and again -/
theorem keys_lay {H : Hp} {E : Addr → Prop} : ∀ (ks : List Key), LayL K H E (ks.map keyD) (ks.map kV)
  | [] => rfl
  | q :: ks => ⟨_, _, rfl, by cases q <;> exact rfl, keys_lay ks⟩
def dLstK (ws : List W) (Ω : Om) (Q : DQ) : Prop := one1W ws fun w => ownD Ω w fun _ ks _ => Q (.sh (.lst (ks.map keyD))) Ω
instance r_lstK : SRC K am wLstD dLstK := ⟨fun {c T σ Γ Ω H xs ws Q R} e hs h k => by
  obtain ⟨w, v, rfl, hw, h_1⟩ := one1W_el h hs
  obtain ⟨a, ks, vs, us, rfl, hl, ha, hn, hv, h_2⟩ := ownD_el e hw h_1
  show dkO (H a) _
  rw [ha]
  intro l hl'
  have em : (ks.zip vs).map (fun kv => kV kv.1) = ks.map kV := by
    have z : (ks.zip vs).map Prod.fst = ks := List.map_fst_zip (by rw [← hv.len, hn]; exact Nat.le_refl _)
    have : (ks.zip vs).map (fun kv => kV kv.1) = ((ks.zip vs).map Prod.fst).map kV := by rw [List.map_map]; rfl
    rw [this, z]
  rw [em]
  exact k _ _ _ _ h_2 (e.lst hl' (keys_lay ks))⟩
def dNeD0 (x y : W) (Ω : Om) (Q : DQ) : Prop := ownD Ω x fun _ ks _ => y = .sh (.dic [] []) ∧ Q (.sh (.bl (!ks.isEmpty))) Ω
instance r_neD0 : SR2 K am wNeD0 dNeD0 := ⟨fun {c T σ Γ Ω H x y wx wy Q R} e hx hy h k => by
  obtain ⟨a, ks, vs, us, rfl, hl, ha, hn, hv, rfl, h_2⟩ := ownD_el e hx h
  obtain ⟨b, ts, rfl, _, h3, h4⟩ := hy
  obtain rfl : ts = [] := h4.2
  show dkO (H a) _
  rw [ha]
  show dkO (H b) _
  rw [h3]
  refine ⟨by simp, ?_⟩
  have em : (ks.zip vs).isEmpty = ks.isEmpty := by
    have hz : (ks.zip vs).length = ks.length := by rw [List.length_zip, ← hv.len, hn, Nat.min_self]
    cases ks with
    | nil => rfl
    | cons q ks =>
      cases z : (q :: ks).zip vs with
      | nil => rw [z] at hz; simp at hz
      | cons _ _ => rfl
  rw [em]
  exact k _ _ _ _ h_2 (e.addv rfl)⟩
theorem layL_rep {H : Hp} {E : Addr → Prop} {ds : List D} {vs : List V} (h : LayL K H E ds vs) : ∀ n : Nat, LayL K H E (List.replicate n ds).flatten (List.replicate n vs).flatten
  | 0 => rfl
  | n + 1 => by
    rw [List.replicate_succ, List.replicate_succ, List.flatten_cons, List.flatten_cons]
    have h1 := (VOks.sh_of h).app (VOks.sh_of (layL_rep h n))
    rw [← List.map_append] at h1
    exact h1.lay
def dRep (x y : W) (Ω : Om) (Q : DQ) : Prop := seqW Ω x fun us => shsW us fun ds => intW y fun k => (0 ≤ k ∧ k ≤ 1000 ∧ ds.length ≤ 1000) ∧ Q (.sh (.lst (List.replicate k.toNat ds).flatten)) Ω
instance r_rep : SR2 K am wRep dRep := ⟨fun {c T σ Γ Ω H x y wx wy Q R} e hx hy h k => by
  obtain ⟨a, vs, ws, rfl, ha, hv, h_1⟩ := seqW_el e hx h
  obtain ⟨ds, rfl, h_2⟩ := shsW_el h_1
  obtain ⟨i, rfl, ⟨g0, g1, g2⟩, h_3⟩ := intW_el h_2
  obtain rfl : y = .int i := hy
  show lstO (H a) _
  rw [ha]
  refine ⟨⟨g0, g1, by rw [← hv.lay.len]; exact g2⟩, fun p hp => k _ _ _ _ h_3 (e.lst hp (layL_rep hv.lay _))⟩⟩
def dLstRg (da : DT) (Γ : Gm) (Ω : Om) (Q : DQ) : Prop := da Γ Ω fun x Ω1 => intW x fun n => (0 ≤ n ∧ n ≤ 1000) ∧ Q (.sh (.lst ((List.range n.toNat).map fun i => D.int (i : Nat)))) Ω1
theorem range_lay {H : Hp} {E : Addr → Prop} (n : Nat) : LayL K H E ((List.range n).map fun i => D.int (i : Nat)) ((List.range n).map fun i => V.int (i : Nat)) := by
  induction (List.range n) with
  | nil => exact rfl
  | cons x l ih => exact ⟨_, _, rfl, rfl, ih⟩
instance s_lstRg {ta : TE} {da : DT} [s1 : SE K am ta da] : SE K am (vLstRg ta) (dLstRg da) := ⟨fun {c T σ Γ Ω H Q R} e h k =>
  s1.run e h fun x w Ω1 H1 h1 e1 => by
    obtain ⟨n, rfl, hn, h2⟩ := intW_el h1
    obtain rfl : x = .int n := e1.hd
    exact ⟨hn, fun q hq => k _ _ _ _ h2 (e1.drop.lst hq (range_lay _))⟩⟩
end
end OA

namespace OA
open PySem PySem.Spec PyProof.Rows L2
section
variable {K : PySem.W.Frag} {am : Am}
/-! sorted(pairs of a number and a tuple) -/
def ptD (p : Int × List Int) : D := .tup [.int p.1, .tup (p.2.map .int)]
def intsV : List V → List Int
  | [] => []
  | .int i :: r => i :: intsV r
  | _ :: r => intsV r
theorem intsV_map (l : List Int) : intsV (l.map .int) = l := by
  induction l with
  | nil => rfl
  | cons a l ih => rw [List.map_cons, intsV, ih]
def kPT (H : Hp) (v : V) : Int × List Int := match v with
  | .ref t => (match H t with
    | some (.tup [.int i, .ref u]) => (match H u with
      | some (.tup xs) => (i, intsV xs)
      | _ => (0, []))
    | _ => (0, []))
  | _ => (0, [])
def dSortPT (ws : List W) (Ω : Om) (Q : DQ) : Prop := one1W ws fun w => ∃ prs : List (Int × List Int), w = .sh (.lst (prs.map ptD)) ∧ ∀ qs : List (Int × List Int), qs.Perm prs → qs.Pairwise (fun a b => ltPT b a = false) → Q (.sh (.lst (qs.map ptD))) Ω
theorem pts_lay {H : Hp} {E : Addr → Prop} : ∀ {prs : List (Int × List Int)} {vs : List V}, LayL K H E (prs.map ptD) vs → vs.map (kPT H) = prs ∧ ∀ x ∈ vs, (∃ t u, x = V.ref t ∧ H t = some (.tup [.int (kPT H x).1, .ref u]) ∧ H u = some (.tup ((kPT H x).2.map V.int))) ∧ Lay K H E (ptD (kPT H x)) x
  | [], _, h => by rw [show _ = [] from h]; exact ⟨rfl, fun x hx => by simp at hx⟩
  | p :: prs, _, ⟨v, r, e, hv, hr⟩ => by
    obtain ⟨h1, h2⟩ := pts_lay hr
    have hv0 := hv
    obtain ⟨a, us, e2, na, ha, u1, r1, e3, g1, u2, r2, e4, ⟨b, ws, e5, nb, hb, hl⟩, g3⟩ := hv
    have hw := lay_ints hl
    subst hw
    rw [e3, e4, show u1 = .int _ from g1, e5, show r2 = [] from g3] at ha
    have hk : kPT H v = p := by
      rw [e2]
      show (match H a with | some (.tup [.int i, .ref u]) => (match H u with | some (.tup xs) => (i, intsV xs) | _ => ((0 : Int), ([] : List Int))) | _ => ((0 : Int), ([] : List Int))) = p
      rw [ha]
      simp only [hb, intsV_map]
    rw [e, List.map_cons, hk, h1]
    refine ⟨rfl, fun x hx => ?_⟩
    rcases List.mem_cons.mp hx with rfl | hx
    · rw [hk]
      exact ⟨⟨a, b, e2, ha, hb⟩, hv0⟩
    · exact h2 x hx
theorem lay_pts {H : Hp} {E : Addr → Prop} : ∀ {ys : List V}, (∀ x ∈ ys, Lay K H E (ptD (kPT H x)) x) → LayL K H E ((ys.map (kPT H)).map ptD) ys
  | [], _ => rfl
  | y :: ys, h => ⟨y, ys, rfl, h y List.mem_cons_self, lay_pts fun x hx => h x (List.mem_cons_of_mem _ hx)⟩
instance r_sortPT : SRC K am (rSortedPT K) dSortPT := ⟨fun {c T σ Γ Ω H xs ws Q R} e hs h k => by
  obtain ⟨w, v, rfl, hw, prs, rfl, h2⟩ := one1W_el h hs
  obtain ⟨a, us, rfl, na, ha, hl⟩ := hw
  obtain ⟨h3, h4⟩ := pts_lay hl
  refine ⟨a, us, kPT H, rfl, SqL.of ha, fun x hx => (h4 x hx).1, fun ys p hsr hst hp => ?_⟩
  have pm : ys.Perm us := hst.perm
  have h5 := h2 (ys.map (kPT H)) (by rw [← h3]; exact pm.map _) (by
    rw [List.pairwise_map]
    exact hsr)
  refine k _ _ _ _ h5 (e.lst hp ?_)
  exact lay_pts fun x hx => (h4 x (pm.mem_iff.mp hx)).2⟩
end
end OA

namespace OA
open PySem PySem.Spec PyProof.Rows L2
/-! defs that change what they get -/
abbrev MSp := List W → Om → DQ → Prop
def spDM (K : PySem.W.Frag) (am : Am) (sp : MSp) : Sp := fun vs H Q _ => ∃ (E : Addr → Prop) (ws : List W) (Ω0 : Om) (Qd : DQ), (∀ b, E b → EOk H b) ∧ (∀ b, am.M b → E b) ∧ am.I H ∧ (∀ q ∈ Ω0, ObOk K H (ExN E Ω0) q.1 q.2) ∧ (Ω0.map (·.1)).Nodup ∧ (∀ p ∈ Ω0.map (·.1), ¬ E p) ∧
  VOks K H (ExN E Ω0) ws vs ∧ sp ws Ω0 Qd ∧
  ∀ v H' w Ω', Qd w Ω' → VOk K H' (ExN E Ω') w v → (∀ q ∈ Ω', ObOk K H' (ExN E Ω') q.1 q.2) → (Ω'.map (·.1)).Nodup → (∀ p ∈ Ω'.map (·.1), (p ∈ Ω0.map (·.1) ∨ H p = none) ∧ ¬ E p) →
    (∀ b o, ¬ am.M b → b ∉ Ω0.map (·.1) → H b = some o → H' b = some o) → am.I H' → Q v H'
section
variable {K : PySem.W.Frag} {am : Am}
theorem spDM_run {X : Cx} {body : List Stmt} {ts : TS} {td : DS} {sp : MSp} {vs : List V} {H : Hp} {Q : VK} {E0 : XK} {N : List Str} (h : spDM K am sp vs H Q E0) (hP : PSs X body ts) (hs : SS K am ts td)
    (hD : ∀ ws Ω0 Qd, sp ws Ω0 Qd → (Ω0.map (·.1)).Nodup → td ⟨fun _ Ω => Qd (.sh .non) Ω, Qd, fun _ _ => False, fun _ _ => False⟩ (startG N.length ws) Ω0) :
    ∃ t, PSs X body t ∧ t { nx := fun _ H' => Q .non H', rt := Q } (start N vs) H := by
  obtain ⟨E, ws, Ω0, Qd, hE, hM, hI, hob, hnd, hfr, hv, hsp, k⟩ := h
  let c : Cq am := ⟨E, hM, fun b => if b ∈ Ω0.map (·.1) then none else H b⟩
  have ex : ∀ Ω, Ex c Ω = ExN E Ω := fun Ω => rfl
  have e0 : DEnv K c [] (start N vs) (startG N.length ws) Ω0 H := by
    refine ⟨?_, fun i w hw => ?_, fun t ht => by simp at ht, hob, hnd, fun p hp => ⟨if_pos hp, hfr p hp⟩, hE, fun b o _ hb => ?_, hI⟩
    · unfold L2.start startG
      simp [hv.len]
    · rw [ex]
      unfold startG at hw
      rcases Nat.lt_or_ge i ws.length with z | z
      · rw [List.getElem?_append_left (by simpa using z), List.getElem?_map] at hw
        cases q : ws[i]? with
        | none => rw [q] at hw; cases hw
        | some w0 =>
          rw [q] at hw
          cases hw
          obtain ⟨v, h1, h2⟩ := hv.to i q
          refine ⟨v, ?_, h2⟩
          unfold L2.start
          rw [List.getElem?_append_left (by rw [List.length_map, ← hv.len]; exact z), List.getElem?_map, h1]
          rfl
      · rw [List.getElem?_append_right (by simpa using z)] at hw
        rw [List.getElem?_replicate] at hw
        split at hw <;> cases hw
    · have hb : (if b ∈ Ω0.map (·.1) then none else H b) = some o := hb
      split at hb
      · cases hb
      · exact hb
  have fin : ∀ {T σ Γ v w H'} {Ω' : Om}, Qd w Ω' → VOk K H' (Ex c Ω') w v → DEnv K c T σ Γ Ω' H' → Q v H' := fun {T σ Γ v w H' Ω'} q hw e => k v H' w Ω' q hw e.ob e.nd (fun p hp => by
    obtain ⟨h1, h2⟩ := e.fr p hp
    refine ⟨?_, h2⟩
    have h1 : (if p ∈ Ω0.map (·.1) then none else H p) = none := h1
    split at h1
    · exact .inl (by assumption)
    · exact .inr h1) (fun b o n hb he => e.frm b o n (by
    show (if b ∈ Ω0.map (·.1) then none else H b) = some o
    rw [if_neg hb]
    exact he)) e.inv
  exact ⟨ts, hP, hs.run (c := c) (T := []) e0 (hD ws Ω0 Qd hsp hnd) ⟨fun σ Γ Ω H' q e => fin q rfl e, fun v w σ Γ Ω H' q e => fin q e.hd e, fun _ _ _ _ q _ => q, fun _ _ _ _ q _ => q⟩⟩
theorem DEnv.callM {a : Am} [le : AmLe a am] {c : Cq am} {T : List Tp} {σ : L2.St} {Γ : Gm} {Ω Ω' : Om} {H H' : Hp} {w : W} {v : V} (e : DEnv K c T σ Γ Ω H) (hpin : ∀ t ∈ T, ∀ a o, t = .pin a o → True) (hv : VOk K H' (ExN c.E Ω') w v) (ho : ∀ q ∈ Ω', ObOk K H' (ExN c.E Ω') q.1 q.2)
    (nd : (Ω'.map (·.1)).Nodup) (hn : ∀ p ∈ Ω'.map (·.1), (p ∈ Ω.map (·.1) ∨ H p = none) ∧ ¬ c.E p) (k : ∀ b o, ¬ a.M b → b ∉ Ω.map (·.1) → H b = some o → H' b = some o) (hi : am.I H') : DEnv K c (.v w v :: T) σ Γ Ω' H' := by
  have kam : ∀ b o, ¬ am.M b → b ∉ Ω.map (·.1) → H b = some o → H' b = some o := fun b o n m h => k b o (fun z => n (le.M b z)) m h
  have kx : ∀ b o, ¬ Ex c Ω b → H b = some o → ¬ Ex c Ω' b ∧ H' b = some o := fun b o n h => by
    refine ⟨fun z => ?_, kam b o (fun m => n (.inl (c.ME b m))) (fun m => n (.inr m)) h⟩
    rcases z with z | z
    · exact n (.inl z)
    · rcases (hn b z).1 with q | q
      · exact n (.inr q)
      · rw [q] at h
        cases h
  refine ⟨e.len, fun j w h => ?_, fun t ht => ?_, ho, nd, fun p hp => ?_, fun b hb => ?_, fun b o n h => ?_, hi⟩
  · obtain ⟨v, h1, h2⟩ := e.sl j w h
    exact ⟨v, h1, h2.mono kx⟩
  · rcases List.mem_cons.mp ht with rfl | ht
    · exact hv
    · exact (e.tm t ht).mono kx
  · obtain ⟨h1, h2⟩ := hn p hp
    rcases h1 with h1 | h1
    · exact e.fr p h1
    · exact ⟨e.new h1, h2⟩
  · by_cases m : am.M b
    · exact am.ex H' b hi m
    · obtain ⟨o, h1, h2⟩ := e.el b hb
      exact ⟨o, kam b o m (fun z => (e.fr b z).2 hb) h1, h2⟩
  · have h1 := e.frm b o n h
    exact kam b o n (fun z => by
      have := (e.fr b z).1
      rw [h] at this
      cases this) h1
def dFnM (sp : MSp) (das : DA) (Γ : Gm) (Ω : Om) (Q : DQ) : Prop := das Γ Ω fun ws Ω1 => sp ws Ω1 Q
instance s_callM {sp : MSp} {E0 : XK} {tas : TA} {das : DA} [s1 : SA K am tas das] : SE K am (vCall (spDM K am sp) E0 tas) (dFnM sp das) := ⟨fun {c T σ Γ Ω H Q R} e h k =>
  s1.run e h fun vs ws Ω1 H1 h1 e1 hv => ⟨c.E, ws, Ω1, Q, e1.el, c.ME, e1.inv, e1.ob, e1.nd, fun p hp => (e1.fr p hp).2, hv, h1, fun v H' w Ω' q hw ho nd hn kk hi => k v w Ω' H' q (e1.callM (a := am) (fun _ _ _ _ _ => True.intro) hw ho nd hn kk hi)⟩⟩
theorem valV_zipNone {H : Hp} {E : Addr → Prop} : ∀ {ks : List Key} {vs : List V} {ws : List W} {k : Key}, ks.length = ws.length → VOks K H E ws vs → dval ks ws k = none → valV (ks.zip vs) k = none
  | [], vs, ws, k, _, _, _ => rfl
  | q :: ks, vs, [], k, hl, _, _ => by simp at hl
  | q :: ks, vs, w :: ws, k, hl, ⟨v, r, e, h1, h2⟩, hd => by
    subst e
    unfold dval at hd
    rw [List.zip_cons_cons, List.find?_cons] at hd
    unfold valV
    rw [List.zip_cons_cons, List.find?_cons]
    cases z : decide (q = k) with
    | true =>
      have hd : Option.map Prod.snd (match decide (q = k) with | true => some (q, w) | false => List.find? (fun q => decide (q.1 = k)) (ks.zip ws)) = none := hd
      rw [z] at hd
      cases hd
    | false =>
      have hd : Option.map Prod.snd (match decide (q = k) with | true => some (q, w) | false => List.find? (fun q => decide (q.1 = k)) (ks.zip ws)) = none := hd
      rw [z] at hd
      exact valV_zipNone (by simpa using hl) h2 hd
/-- d.get(k, x) -/
def vGet2 (td ty tx : TE) : TE := fun σ H Q => td σ H fun x H1 => refR x fun a => dkR (H1 a) fun _ => ty σ H1 fun y H2 => tx σ H2 fun z H3 => dkR (H3 a) fun kvs => keyR y fun k => Q ((valV kvs k).getD z) H3
theorem q_dget2 {X : Cx} {o e f : Expr} {td ty tx : TE} {apos cpos : Pos} (hu : X.A.units + 1 < cLine) (ho : PE X o td) (he : PE X e ty) (hf : PE X f tx) (m : M2 X o "get" apos e f cpos) : PE X (.Call (.Attribute o "get" apos) [e, f] [] cpos) (vGet2 td ty tx) := im_pe (pe_dget2 hu (up_pe ho) (up_pe he) (up_pe hf) m) fun σ H Q h =>
  ⟨_, h, fun x H1 z => by
    obtain ⟨a, rfl, z1⟩ := refR_el z
    obtain ⟨kvs1, e1, z2⟩ := dkR_el z1
    refine ⟨a, rfl, .inl ⟨kvs1, e1⟩, _, z2, fun y H2 z3 => ⟨_, z3, fun w H3 z4 => ?_⟩⟩
    obtain ⟨kvs, e3, z5⟩ := dkR_el z4
    obtain ⟨k, e4, z6⟩ := keyR_el z5
    exact ⟨valV kvs k, by rw [e4]; exact dget_of e3 rfl, z6⟩⟩
def dvalD (ks : List Key) (ws : List W) (x : Key) (z : W) : W := (dval ks ws x).getD z
def dDGet2 (da db dx : DT) (Γ : Gm) (Ω : Om) (Q : DQ) : Prop := da Γ Ω fun x Ω1 => dicW Ω1 x fun _ _ => db Γ Ω1 fun y Ω2 => dx Γ Ω2 fun z Ω3 => dicW Ω3 x fun ks ws => keyW y fun q => Q (dvalD ks ws q z) Ω3
instance s_dget2 {ta tb tx : TE} {da db dx : DT} [s1 : SE K am ta da] [s2 : SE K am tb db] [s3 : SE K am tx dx] : SE K am (vGet2 ta tb tx) (dDGet2 da db dx) := ⟨fun {c T σ Γ Ω H Q R} e h k =>
  s1.run e h fun x wx Ω1 H1 h1 e1 => by
    obtain ⟨a1, ks1, vs1, ws1, rfl, ha1, hn1, hv1, h1'⟩ := dicW_el e1.drop e1.hd h1
    show dkR (H1 a1) _
    refine rd_dkR ha1 ?_
    refine s2.run e1 h1' fun y wy Ω2 H2 h2 e2 => s3.run e2 h2 fun z wz Ω3 H3 h3 e3 => ?_
    obtain ⟨a, ks, vs, ws, ea, ha, hn, hv, h4⟩ := dicW_el e3.drop.drop.drop e3.drop.drop.hd h3
    obtain rfl : a1 = a := by injection ea
    obtain ⟨q, rfl, h5⟩ := keyW_el h4 e3.drop.hd
    refine rd_dkR ha (keyR_k (k := fun k => R ((valV (ks.zip vs) k).getD z) H3) q ?_)
    unfold dvalD at h5
    cases hw : dval ks ws q with
    | none =>
      rw [hw] at h5
      have : valV (ks.zip vs) q = none := valV_zipNone hn hv hw
      rw [this]
      exact k _ _ _ _ h5 (e3.drop.drop.drop.addv e3.hd)
    | some w =>
      rw [hw] at h5
      obtain ⟨v, g1, g2⟩ := valV_zip hv hw
      rw [g1]
      exact k _ _ _ _ h5 (e3.drop.drop.drop.addv g2)⟩
def dSortDW (ws : List W) (Ω : Om) (Q : DQ) : Prop := one1W ws fun w => dicW Ω w fun ks _ => ∃ ns : List Int, ks = ns.map Sum.inl ∧ ns.length < 64 ∧ ∀ ms : List Int, ms.Perm ns → ms.Pairwise (· ≤ ·) → Q (.sh (.lst (ms.map .int))) Ω
instance (priority := high) r_sortDW : SRC K am wSortDI dSortDW := ⟨fun {c T σ Γ Ω H xs ws Q R} e hs h k => by
  obtain ⟨w, v, rfl, hw, h1⟩ := one1W_el h hs
  obtain ⟨a, ks, vs, us, rfl, ha, hn, hv, ns, rfl, h64, h2⟩ := dicW_el e hw h1
  refine rd_dkR ha ⟨ns, ?_, h64, fun ms p pm pw hp => k _ _ _ _ (h2 ms pm pw) (e.lst hp (ints_lay ms))⟩
  rw [List.map_fst_zip]
  rw [← hv.len, hn]
  exact Nat.le_refl _⟩
end
end OA

namespace OA
namespace P
open PySem L2
abbrev iD (n : Nat) : D := .int (n : Nat)
abbrev tD (ns : List Nat) : D := .tup (ns.map iD)
theorem intsD_nat (g : List Nat) (k : List Int → Prop) : intsD (g.map iD) k = k (g.map fun (n : Nat) => (n : Int)) := by
  have : g.map iD = (g.map fun (n : Nat) => (n : Int)).map .int := by rw [List.map_map]; rfl
  rw [this, intsD_map]
end P
end OA

namespace OA
open PySem PySem.Spec PyProof.Rows L2 P
/-! sets among sets -/
theorem pd_tD (g : List Nat) : pdD (P.tD g) = .tuple ((g.map fun (n : Nat) => (n : Int)).map PyData.int) := by
  have : ∀ g : List Nat, pdL (g.map iD) = (g.map fun (n : Nat) => (n : Int)).map PyData.int := fun g => by
    induction g with
    | nil => rfl
    | cons n g ih =>
      rw [List.map_cons]
      unfold pdL
      rw [ih]
      rfl
  unfold pdD
  rw [this]
theorem pl_tD (g : List Nat) : plD (P.tD g) = true := pl_ints g
theorem eqv_tD (g h : List Nat) : PyData.eqv (pdD (P.tD g)) (pdD (P.tD h)) = decide (g = h) := by
  rw [pd_tD, pd_tD]
  unfold PyData.eqv
  rw [eqvInts]
  by_cases z : g = h
  · rw [z]
    simp
  · rw [decide_eq_false z, decide_eq_false fun y => z ?_]
    have inj : ∀ a b : List Nat, (a.map fun (n : Nat) => (n : Int)) = (b.map fun (n : Nat) => (n : Int)) → a = b := fun a => by
      induction a with
      | nil =>
        intro b h
        cases b with
        | nil => rfl
        | cons y b => cases h
      | cons x a ih =>
        intro b h
        cases b with
        | nil => cases h
        | cons y b =>
          rw [List.map_cons, List.map_cons] at h
          obtain ⟨h1, h2⟩ := List.cons.inj h
          rw [ih b h2, show x = y from by omega]
    exact inj _ _ y
theorem pd_gs (gs : List (List Nat)) : pdL (gs.map P.tD) = gs.map fun g => pdD (P.tD g) := by
  induction gs with
  | nil => rfl
  | cons g gs ih =>
    rw [List.map_cons]
    unfold pdL
    rw [ih]
    rfl
theorem pl_gs (gs : List (List Nat)) : plL (gs.map P.tD) = true := pl_all fun x hx => by
  obtain ⟨g, _, rfl⟩ := List.mem_map.mp hx
  exact pl_tD g
theorem dp_tD (g : List Nat) : (pdD (P.tD g)).depth ≤ 1 := by
  unfold pdD PyData.depth
  have := dp_ints g
  show PyData.depthAll _ + 1 ≤ 1
  rw [show PyData.depthAll (pdL (g.map iD)) = 0 from this]
  exact Nat.le_refl 1
theorem sh_tD (g : List Nat) : SeqAt.shaped (pdD (P.tD g)) = true := shaped_of (pd_can _ (pl_tD g)) (Nat.le_trans (dp_tD g) (by decide))
theorem sh_gs (gs : List (List Nat)) : SeqAt.shaped (.list (pdL (gs.map P.tD))) = true := by
  refine shaped_of ?_ ?_
  · unfold PyData.canLay0
    exact pd_canL _ (pl_gs gs)
  · unfold PyData.depth
    have := dp_all (xs := gs.map P.tD) (n := 1) fun x hx => by
      obtain ⟨g, _, rfl⟩ := List.mem_map.mp hx
      exact dp_tD g
    omega
section
variable {X : Cx}
def wTupT (vs : List V) (H : Hp) (Q : VK) : Prop := one1 vs fun x => refR x fun p => tupO (H p) fun _ => Q (.ref p) H
theorem c_tupT : CallR X (.type "tuple") wTupT := im_call call_tuple_of fun x H Q z => by
  obtain ⟨v, e1, z1⟩ := one1_el z
  obtain ⟨p, e2, z2⟩ := refR_el z1
  obtain ⟨xs, e3, z3⟩ := tupO_el z2
  exact ⟨p, xs, by rw [e1, e2], .inr ⟨.inl e3, z3⟩⟩
end
section
variable {K : PySem.W.Frag} {am : Am}
def dTupT (ws : List W) (Ω : Om) (Q : DQ) : Prop := one1W ws fun w => ∃ ds, w = .sh (.tup ds) ∧ Q w Ω
instance r_tupT : SRC K am wTupT dTupT := ⟨fun {c T σ Γ Ω H xs ws Q R} e hs h k => by
  obtain ⟨w, v, rfl, hw, ds, rfl, h1⟩ := one1W_el h hs
  obtain ⟨a, vs, rfl, n, ha, hl⟩ := hw
  show tupO (H a) _
  rw [ha]
  exact k _ _ _ _ h1 (e.addv ⟨a, vs, rfl, n, ha, hl⟩)⟩
theorem lay_gs {H : Hp} {E : Addr → Prop} {gs : List (List Nat)} {v : V} (h : Lay K H E (.lst (gs.map P.tD)) v) : Dp K H v (.list (pdL (gs.map P.tD))) := pd_dp (.lst (gs.map P.tD)) v (pl_gs gs) h
def dNotInLT (x : W) (y : W) (Ω : Om) (Q : DQ) : Prop := ∃ (g : List Nat) (gs : List (List Nat)), x = .sh (P.tD g) ∧ y = .sh (.lst (gs.map P.tD)) ∧ Q (.sh (.bl (!decide (g ∈ gs)))) Ω
instance r_notInLT : SR2 K am (rNotInD K) dNotInLT := ⟨fun {c T σ Γ Ω H x y wx wy Q R} e hx hy h k => by
  obtain ⟨g, gs, rfl, rfl, q⟩ := h
  refine ⟨pdD (P.tD g), _, pd_dp _ _ (pl_tD g) hx, lay_gs hy, sh_tD g, sh_gs gs, ?_⟩
  have e1 : ((pdL (gs.map P.tD)).any fun z => PyData.eqv z (pdD (P.tD g))) = decide (g ∈ gs) := by
    rw [pd_gs, List.any_map]
    by_cases z : g ∈ gs
    · rw [decide_eq_true z, List.any_eq_true]
      exact ⟨g, z, by show PyData.eqv _ _ = true; rw [eqv_tD, decide_eq_true rfl]⟩
    · rw [decide_eq_false z, List.any_eq_false]
      intro h hh y
      have y : PyData.eqv (pdD (P.tD h)) (pdD (P.tD g)) = true := y
      rw [eqv_tD] at y
      exact z (by rw [← of_decide_eq_true y]; exact hh)
  rw [e1]
  exact k _ _ _ _ q (e.addv rfl)⟩
def dIndexLT (w : W) (ws : List W) (Ω : Om) (Q : DQ) : Prop := ∃ (g : List Nat) (gs : List (List Nat)) (j : Nat), w = .sh (.lst (gs.map P.tD)) ∧ ws = [.sh (P.tD g)] ∧ gs[j]? = some g ∧ (∀ m h, m < j → gs[m]? = some h → h ≠ g) ∧ Q (.sh (.int (j : Nat))) Ω
instance r_indexLT : SRM K am (rIndexD K) dIndexLT := ⟨fun {c T σ Γ Ω H x w xs ws Q R} e hx hs h k => by
  obtain ⟨g, gs, j, rfl, rfl, hj, hno, q⟩ := h
  obtain ⟨y, r, rfl, hy, rfl⟩ := hs
  obtain ⟨a, vs, rfl, _⟩ := (show ∃ a vs, x = .ref a ∧ _ from hx)
  refine ⟨a, y, pdD (P.tD g), _, j, pdD (P.tD g), rfl, rfl, lay_gs hx, pd_dp _ _ (pl_tD g) hy, sh_gs gs, sh_tD g, ?_, ?_, fun m z hm hz => ?_, k _ _ _ _ q (e.addv rfl)⟩
  · rw [pd_gs, List.getElem?_map, hj]
    rfl
  · rw [eqv_tD, decide_eq_true rfl]
  · rw [pd_gs, List.getElem?_map] at hz
    cases q2 : gs[m]? with
    | none => rw [q2] at hz; cases hz
    | some h =>
      rw [q2] at hz
      cases hz
      rw [eqv_tD, decide_eq_false (hno m h hm q2)]⟩
end
end OA

namespace OA
namespace P
open PySem L2
local macro_rules
  | `(tactic| push_cast only [$a,*]) => `(tactic| simp -implicitDefEqProofs only [Int.toNat_natCast, List.cons.injEq, W.sh.injEq, D.int.injEq, D.str.injEq, D.bl.injEq, D.tup.injEq, D.lst.injEq, W.pt.injEq, and_assoc, exists_eq_left', exists_eq_left, exists_and_left, true_implies, dIsi, tn_n, tn_b, tn_i, tn_s, tn_t, tn_nt, tn_l, kr_NoneType_bool, kr_NoneType_int, kr_NoneType_str, kr_NoneType_list, kr_NoneType_tuple, kr_NoneType_dict, kr_bool_bool, kr_bool_int, kr_bool_str, kr_bool_list, kr_bool_tuple, kr_bool_dict, kr_int_bool, kr_int_int, kr_int_str, kr_int_list, kr_int_tuple, kr_int_dict, kr_str_bool, kr_str_int, kr_str_str, kr_str_list, kr_str_tuple, kr_str_dict, kr_list_bool, kr_list_int, kr_list_str, kr_list_list, kr_list_tuple, kr_list_dict, kr_tuple_bool, kr_tuple_int, kr_tuple_str, kr_tuple_list, kr_tuple_tuple, kr_tuple_dict, kr_dict_bool, kr_dict_int, kr_dict_str, kr_dict_list, kr_dict_tuple, kr_dict_dict, dVar, dC_n, dC_b, dC_i, dC_s, dC_t, dC_r, dOp, dUn, dNil, dCons, dStar, dStarT, dTup, dLst, dLstO, dAnd, dOr, dNot, dIf, dTest, dYes, dChain, dCall, dNext, dCut, dSeq, dDrop, dRet, dRetN, dIfS, dName, sgnil_e, sgcons_e, dGtup, dAsg, dAug, dWhile, dFor, dLc, dLcO, dLc2, dDc, dI0, dIC, dEq, dIsN, isNonW, noPy, dAddS, dMulS, dCat, dCatT, dInT, dInLI, dInTI, dInS, dIxL, dIxT, dIxS, dNeg, dNoPart, dPart, dSl, dSlL, dSlT, dSlS, dRev, dDGet, dDIn, dDNew, dDNewS, dsDPut, dgSub, dSetL, isLW, dLM, dLM0, dAppend, dPopAt, dExtend, dPop, dLen, dTupL, dLstL, dAbs, dIntB, dMin2, dMax2, dMaxL, dCKw, dMaxT, dFn, dList, dTupI, dStrI, dR1, dR2, dEnum, dTAnd, dTOr, dTNot, varR_e, intW_e, blW_e, strW_e, shW_e, tyW_e, tupW_e, tupW_n, tup0W_e, lookL_e, lookD_e, lookR_e, lookR_l, seqW_e, seqW_p, dicW_e, dicW_p, ownL_p, ownD_p, keyW_i, keyW_s, one1W_e, two2W_e, shsW_nil, shsW_cons, shsW_app, shsW_map, intsD_nil, intsD_cons, intsD_map, strsD_map, cWR_n, cWR_b, cWR_i, cWR_s, flW_n, flW_b, flW_i, flW_s, fls_nil, fls_n, fls_b, fls_i, fls_s, lenW_l, lenW_d, lenW_t, lenW_n, lenW_s, lenW_p, lenO'_l, lenO'_d, atR_0, atR_1, atR_2, atR_3, atR_4, lenOk_0, lenOk_1, lenOk_2, lenOk_3, lenOk_4, lenOk_5, look_hd, put_c, put_n, notins_nil, startG, scal, List.map, List.replicate, List.length_cons, List.length_nil, List.cons_append, List.nil_append, List.append_nil, List.getElem?_cons_zero, List.getElem?_cons_succ, List.set_cons_zero, List.set_cons_succ, wipeG, true_and, and_true, if_true, if_false, decide_eq_true_eq, reduceCtorEq, reduceIte, Bool.false_eq_true, decide_true, decide_false, Bool.true_and, Bool.false_and, Bool.and_true, Bool.and_false, Bool.not_true, Bool.not_false, V.int.injEq, V.str.injEq, V.bl.injEq, Nat.reduceAdd, Nat.reduceSub, Nat.reduceLT, Int.reduceEq, Int.reduceLT, Int.reduceLE, Int.reduceAdd, Int.reduceSub, Int.cast_ofNat_Int, $a,*])
  | `(tactic| push_cast [$a,*]) => `(tactic| ((repeat refine LaterD.mk ?_); push_cast only [$a,*]; repeat ((refine LaterD.mk ?_); (repeat refine LaterD.mk ?_); push_cast only [$a,*])))
/-! sets -/
def lastN (g : List Nat) : Int := maxI (-1) (g.map fun (n : Nat) => (n : Int))
def growN (many : Nat) (gs : List (List Nat)) : List (List Nat) := gs.flatMap fun g => ((List.range many).filter fun (n : Nat) => decide (lastN g < (n : Int))).map fun n => g ++ [n]
def levN (many : Nat) : Nat → List (List Nat)
  | 0 => [[]]
  | s + 1 => growN many (levN many s)
def setsN (many least most : Nat) : List (List Nat) := ((List.range (most + 1)).filter fun s => decide (least ≤ s)).flatMap (levN many)
theorem levN_len : ∀ many, many ≤ 8 → ∀ s, s ≤ 9 → (levN many s).length ≤ 256 ∧ ∀ g ∈ levN many s, g.length ≤ 8 := by decide +kernel
theorem sets_len {many least : Nat} (h8 : many ≤ 8) : ∀ i, i ≤ 9 → ((((List.range i).filter fun s => decide (least ≤ s)).flatMap (levN many)).length ≤ 256 * i)
  | 0, _ => by simp
  | i + 1, hi => by
    have ih := sets_len (least := least) h8 i (by omega)
    have l := (levN_len many h8 i (by omega)).1
    rw [List.range_succ, List.filter_append, List.flatMap_append, List.length_append]
    have : (([i].filter fun s => decide (least ≤ s)).flatMap (levN many)).length ≤ 256 := by
      by_cases z : least ≤ i
      · simp [z]; omega
      · simp [z]
    omega
section
variable {P : Program} {w : World} {K : PySem.W.Frag} {mg : Str → Option Value} {base : Heap} {A : Ad}
theorem sc_is_whole : FnScope ["number", "least", "most"] ["number", "least", "most"] (defScope s_is_whole) := ⟨rfl, rfl, rfl, by decide +kernel, rfl, by decide +kernel, by decide +kernel⟩
theorem ok_is_whole (T : Txt K mg base A) : FnOk P w K mg base CX0 1 A.is_whole A.d_is_whole ["number", "least", "most"] (spD K am0 (fun ws Q => ∃ i lo hi : Int, ws = [.sh (.int i), .sh (.int lo), .sh (.int hi)] ∧ Q (.sh (.bl (decide (lo ≤ i) && decide (i ≤ hi)))) [])) := by
  refine T.F_is_whole.ok sc_is_whole (fun vs H Q E h => by
    obtain ⟨_, ws, Qd, _, _, _, hv, hsp, _⟩ := h
    obtain ⟨i, lo, hi, rfl, _⟩ := hsp
    exact hv.len.symm) (fun cdv A' outer s H vs Q E hr h => ?_)
  have hu := hu_of hr
  refine spD_run (td := ?td) h (qs_cons (q_if (PW.pt (pw_or (q_val (pe_callB c_isi (by rfl) T.m_isinstance (by decide +kernel) (pa_cons (qv 0) (pa_cons (pe_bltn (v := .ty "bool") (by rfl) T.m_bool (by decide +kernel) rfl) pa_nil)))) (pw_or1 (pt_not (q_val (pe_callB c_isi (by rfl) T.m_isinstance (by decide +kernel) (pa_cons (qv 0) (pa_cons (pe_bltn (v := .ty "int") (by rfl) T.m_int (by decide +kernel) rfl) pa_nil)))))))) (pss_one (ps_ret pe_bl)) pss_nil)
    (pss_one (ps_ret (q_chain o_le o_le (qv 1) (qv 0) (qv 2))))) ?hs ?hD
  case hs => (try simp only [cx_K, cx_prog, cx_w, blkK]); exact inferInstance
  rintro ws Qd ⟨i, lo, hi, rfl, kk⟩
  push_cast []
  refine ite2 (fun h => ?_) (fun h => ?_)
  · rw [decide_eq_true h, Bool.true_and] at kk
    exact .sh kk
  · rw [decide_eq_false h, Bool.false_and] at kk
    exact .sh kk
theorem sc_check_many : FnScope ["many"] ["many"] (defScope s_check_many) := ⟨rfl, rfl, rfl, by decide +kernel, rfl, by decide +kernel, by decide +kernel⟩
theorem ok_check_many (T : Txt K mg base A) : FnOk P w K mg base CX0 2 A.check_many A.d_check_many ["many"] (spD K am0 (fun ws Q => ∃ n : Nat, ws = [.sh (.int n)] ∧ (1 ≤ n ∧ n ≤ 8) ∧ Q (.sh .non) [])) := by
  refine T.F_check_many.ok sc_check_many (fun vs H Q E h => by
    obtain ⟨_, ws, Qd, _, _, _, hv, hsp, _⟩ := h
    obtain ⟨n, rfl, _⟩ := hsp
    exact hv.len.symm) (fun cdv A' outer s H vs Q E hr h => ?_)
  have hu := hu_of hr
  refine spD_run (td := ?td) h (pss_one (q_if (pt_not (q_val (q_call (ok_is_whole T) (hr.mono (by decide)) rfl T.g_is_whole T.k_is_whole T.b_is_whole pass0 (pa_cons (qv 0) (pa_cons pe_int (pa_cons (q_gi rfl T.c_MOST_STATIONS) pa_nil)))))) (pss_one ps_never) pss_nil)) ?hs ?hD
  case hs => (try simp only [cx_K, cx_prog, cx_w, blkK]); exact inferInstance
  rintro ws Qd ⟨n, rfl, hn, kk⟩
  push_cast []
  rw [decide_eq_true (by omega), decide_eq_true (by omega)]
  push_cast []
  exact kk
theorem sc_check_numbers : FnScope ["many", "most"] ["many", "most"] (defScope s_check_numbers) := ⟨rfl, rfl, rfl, by decide +kernel, rfl, by decide +kernel, by decide +kernel⟩
theorem ok_check_numbers (T : Txt K mg base A) : FnOk P w K mg base CX0 3 A.check_numbers A.d_check_numbers ["many", "most"] (spD K am0 (fun ws Q => ∃ n m : Nat, ws = [.sh (.int n), .sh (.int m)] ∧ (1 ≤ n ∧ n ≤ 8 ∧ 1 ≤ m ∧ m ≤ n) ∧ Q (.sh .non) [])) := by
  refine T.F_check_numbers.ok sc_check_numbers (fun vs H Q E h => by
    obtain ⟨_, ws, Qd, _, _, _, hv, hsp, _⟩ := h
    obtain ⟨n, m, rfl, _⟩ := hsp
    exact hv.len.symm) (fun cdv A' outer s H vs Q E hr h => ?_)
  have hu := hu_of hr
  refine spD_run (td := ?td) h (qs_cons (ps_expr (q_call (ok_check_many T) (hr.mono (by decide)) rfl T.g_check_many T.k_check_many T.b_check_many pass0 (pa_cons (qv 0) pa_nil)))
    (pss_one (q_if (pt_not (q_val (q_call (ok_is_whole T) (hr.mono (by decide)) rfl T.g_is_whole T.k_is_whole T.b_is_whole pass0 (pa_cons (qv 1) (pa_cons pe_int (pa_cons (qv 0) pa_nil)))))) (pss_one ps_never) pss_nil))) ?hs ?hD
  case hs => (try simp only [cx_K, cx_prog, cx_w, blkK]); exact inferInstance
  rintro ws Qd ⟨n, m, rfl, hn, kk⟩
  push_cast []
  refine ⟨n, rfl, by omega, by omega, ?_⟩
  push_cast []
  rw [decide_eq_true (by omega), decide_eq_true (by omega)]
  push_cast []
  exact kk
theorem sc_sets_of : FnScope ["many", "least", "most", "told", "groups", "size", "group", "number"] ["many", "least", "most"] (defScope s_sets_of) := ⟨rfl, rfl, rfl, by decide +kernel, rfl, by decide +kernel, by decide +kernel⟩
theorem ok_sets_of (T : Txt K mg base A) : FnOk P w K mg base CX0 1 A.sets_of A.d_sets_of ["many", "least", "most"] (spD K am0 (fun ws Q => ∃ many least most : Nat, ws = [.sh (.int many), .sh (.int least), .sh (.int most)] ∧ (many ≤ 8 ∧ most ≤ 8) ∧ Q (.sh (.lst ((setsN many least most).map tD))) [])) := by
  refine T.F_sets_of.ok sc_sets_of (fun vs H Q E h => by
    obtain ⟨_, ws, Qd, _, _, _, hv, hsp, _⟩ := h
    obtain ⟨many, least, most, rfl, _⟩ := hsp
    exact hv.len.symm) (fun cdv A' outer s H vs Q E hr h => ?_)
  have hu := hu_of hr
  refine spD_run (td := ?td) h (qs_cons (ps_set (i := 3) sc_sets_of.nd rfl (Or.inl rfl) (q_own (pe_lst pa_nil)))
    (qs_cons (ps_set (i := 4) sc_sets_of.nd rfl (Or.inl rfl) (pe_lst (pa_cons (pe_tup pa_nil) pa_nil)))
    (qs_cons (q_for PassesOwn.never rfl (qi_r1 (by rfl) T.m_range (pa_cons (pe_op o_add (qv 2) pe_int) pa_nil)) (pg_name (i := 5) sc_sets_of.nd rfl (Or.inl rfl)) (qs_cons (q_cut (q_if (q_cmp o_ge (qv 5) (qv 1) (nomark _)) (pss_one (ps_expr (lm1 PySem.F.slot_list_extend PySem.F.type_list_extend m_extend (qv 3) (pa_cons (qv 4) pa_nil)))) pss_nil))
    (pss_one (ps_setLc2 (i := 4) (own := [("group", 6), ("number", 7)]) (vs1 := [7]) (g := gName 6) (g1 := gName 7) (tt := tYes) rfl sc_sets_of.nd rfl rfl (sw_true rfl rfl rfl (by decide +kernel)) (qi_list (qv 4)) (blkOk_by (own := [("group", 6), ("number", 7)]) (N := ["many", "least", "most", "told", "groups", "size", "group", "number"]) (sc := defScope s_sets_of) (by decide +kernel)) (by decide) (fun _ _ _ _ _ => (pg_name (i := 6) sc_sets_of.nd rfl (Or.inl rfl))) (fun _ _ _ _ _ => pts_nil) (fun _ _ _ _ _ => (qi_r1 (by rfl) T.m_range (pa_cons (qv 0) pa_nil))) (fun _ _ _ _ _ => (pg_name (i := 7) sc_sets_of.nd rfl (Or.inl rfl))) (fun _ _ _ _ _ => pts_one (q_cmp o_gt (qv 7) (pe_callBK (c_maxT rfl) (by rfl) T.m_max (by decide +kernel) (pa_cons (qv 6) pa_nil) (pk_cons (pe_un o_neg pe_int) pk_nil)) (nomark _))) (fun _ _ _ _ _ => (pe_tup (q_starT (qv 6) (pa_cons (qv 7) pa_nil))))))))
    (pss_one (ps_ret (qv 3)))))) ?hs ?hD
  case hs => (try simp only [cx_K, cx_prog, cx_w, blkK]); exact inferInstance
  rintro ws Qd ⟨many, least, most, rfl, hn, kk⟩
  push_cast []
  intro p hp
  push_cast []
  have e1 : ((most : Int) + 1).toNat = most + 1 := by omega
  rw [e1]
  refine ⟨by omega, by omega, fun i Γ Ω => ∃ v5 v6 v7, Γ = [some (.sh (.int many)), some (.sh (.int least)), some (.sh (.int most)), some (.pt p), some (.sh (.lst ((levN many i).map tD))), v5, v6, v7] ∧ Ω = [(p, .lst ((((List.range i).filter fun s => decide (least ≤ s)).flatMap (levN many)).map fun g => W.sh (tD g)))], ⟨none, none, none, rfl, rfl⟩, ?_, ?_⟩
  · rintro i w Γ Ω hw ⟨v5, v6, v7, rfl, rfl⟩
    have hi : i < most + 1 := by
      have := (List.getElem?_eq_some_iff.mp hw).1
      simpa [natsW] using this
    obtain rfl : W.sh (.int (i : Nat)) = w := by
      unfold natsW at hw
      rw [List.getElem?_map, List.getElem?_range hi] at hw
      exact Option.some.inj hw
    push_cast []
    refine ⟨fun Γ Ω => Γ = [some (.sh (.int many)), some (.sh (.int least)), some (.sh (.int most)), some (.pt p), some (.sh (.lst ((levN many i).map tD))), some (.sh (.int i)), v6, v7] ∧ Ω = [(p, .lst ((((List.range (i + 1)).filter fun s => decide (least ≤ s)).flatMap (levN many)).map fun g => W.sh (tD g)))], ?_, ?_⟩
    · rintro Γ Ω ⟨rfl, rfl⟩
      push_cast []
      refine ⟨by decide, by decide, fun i1 acc => acc = (growN many ((levN many i).take i1)).map fun g => W.sh (tD g), ⟨rfl, fun i1 w acc p1 hw ha hn1 => ?_⟩, ?_⟩
      · rw [List.map_map, List.getElem?_map] at hw
        cases q : (levN many i)[i1]? with
        | none => rw [q] at hw; cases hw
        | some g =>
          rw [q] at hw
          obtain rfl : W.sh (tD g) = w := Option.some.inj hw
          have ht : (levN many i).take (i1 + 1) = (levN many i).take i1 ++ [g] := by rw [List.take_succ, q]; rfl
          have hg := (levN_len many hn.1 i (by omega)).2 g (List.mem_of_getElem? q)
          push_cast [intsD_nat]
          refine ⟨by omega, by omega, fun j acc' => acc' = acc ++ ((List.range j).filter fun (n : Nat) => decide (lastN g < (n : Int))).map fun n => W.sh (tD (g ++ [n])), by simp, fun j u acc' hu hacc' => ?_, fun acc' h => ?_⟩
          · have hj : j < many := by
              have := (List.getElem?_eq_some_iff.mp hu).1
              simpa [natsW] using this
            obtain rfl : W.sh (.int (j : Nat)) = u := by
              unfold natsW at hu
              rw [List.getElem?_map, List.getElem?_range hj] at hu
              exact Option.some.inj hu
            have hr : ((List.range (j + 1)).filter fun (n : Nat) => decide (lastN g < (n : Int))) = if lastN g < (j : Int) then ((List.range j).filter fun (n : Nat) => decide (lastN g < (n : Int))) ++ [j] else (List.range j).filter fun (n : Nat) => decide (lastN g < (n : Int)) := by
              rw [List.range_succ, List.filter_append]
              by_cases z : lastN g < (j : Int)
              · simp [z]
              · simp [z]
            push_cast [hr]
            refine ite2 (fun h => ?_) (fun h => ?_)
            · have h' : lastN g < (j : Int) := h
              rw [if_pos h']
              refine ⟨lenOk_of (by simp; omega), ?_, ?_⟩
              · subst hacc' ha
                unfold lenLt
                rw [sizeLine_eq, List.length_append, List.length_map, List.length_map]
                have b1 : (growN many ((levN many i).take i1)).length ≤ 8 * 256 := by
                  unfold growN
                  rw [List.length_flatMap]
                  have : ∀ l : List (List Nat), (l.map fun g => (((List.range many).filter fun (n : Nat) => decide (lastN g < (n : Int))).map fun n => g ++ [n]).length).sum ≤ 8 * l.length := fun l => by
                    induction l with
                    | nil => simp
                    | cons a l ih =>
                      rw [List.map_cons, List.sum_cons, List.length_cons]
                      have : (((List.range many).filter fun (n : Nat) => decide (lastN a < (n : Int))).map fun n => a ++ [n]).length ≤ many := by
                        rw [List.length_map]
                        exact Nat.le_trans (List.length_filter_le _ _) (by rw [List.length_range]; exact Nat.le_refl _)
                      omega
                  have t := this ((levN many i).take i1)
                  have t2 := List.length_take_le i1 (levN many i)
                  have t3 := (levN_len many hn.1 i (by omega)).1
                  have t4 : ((levN many i).take i1).length ≤ (levN many i).length := by rw [List.length_take]; omega
                  omega
                have b2 := List.length_filter_le (fun (n : Nat) => decide (lastN g < (n : Int))) (List.range j)
                rw [List.length_range] at b2
                omega
              · rw [hacc']
                simp
            · have h' : ¬ lastN g < (j : Int) := h
              rw [if_neg h']
              exact hacc'
          · have el : (natsW many).length = many := by simp [natsW]
            rw [el] at h
            rw [h, ha, ht]
            simp [growN, List.map_map]
      · rintro acc rfl
        have el : (List.map W.sh (List.map tD (levN many i))).length = (levN many i).length := by simp
        rw [el, List.take_length]
        have e2 : (growN many (levN many i)).map (fun g => W.sh (tD g)) = ((growN many (levN many i)).map tD).map W.sh := by rw [List.map_map]; rfl
        rw [e2]
        push_cast []
        first | done | exact ⟨rfl, _, rfl⟩ | exact ⟨_, rfl⟩
    · have hf : ((List.range (i + 1)).filter fun s => decide (least ≤ s)) = if least ≤ i then ((List.range i).filter fun s => decide (least ≤ s)) ++ [i] else (List.range i).filter fun s => decide (least ≤ s) := by
        rw [List.range_succ, List.filter_append]
        by_cases z : least ≤ i
        · simp [z]
        · simp [z]
      rw [hf]
      refine ite2 (fun h => ?_) (fun h => ?_)
      · have h' : least ≤ i := by omega
        simp only [h', if_true, List.flatMap_append, List.map_append]
        push_cast []
        refine ⟨lenOk_of ?_, ?_⟩
        · rw [List.length_append, List.length_map, List.length_map, List.length_map]
          have := (levN_len many hn.1 i (by omega)).1
          have := sets_len (least := least) hn.1 i (by omega)
          omega
        · simp [List.map_map]
      · have h' : ¬ least ≤ i := by omega
        simp only [h', if_false]
        push_cast []
  · rintro Γ Ω ⟨v5, v6, v7, rfl, rfl⟩
    push_cast []
    have e2 : (natsW (most + 1)).length = most + 1 := by simp [natsW]
    rw [e2]
    refine .frz (.lst (ds := (setsN many least most).map tD) ?_) kk
    rw [look_hd, List.map_map]
    rfl
end
end P
end OA

namespace OA
namespace P
open PySem L2
theorem sets_ok {many : Nat} : ∀ s, ∀ g ∈ levN many s, g.Nodup ∧ (∀ j ∈ g, j < many)
  | 0, g, h => by
    have : g = [] := by simpa [levN] using h
    rw [this]; simp
  | s + 1, g, h => by
    unfold levN growN at h
    obtain ⟨g0, h0, h1⟩ := List.mem_flatMap.mp h
    obtain ⟨n, h2, rfl⟩ := List.mem_map.mp h1
    obtain ⟨h3, h4⟩ := List.mem_filter.mp h2
    obtain ⟨a, b⟩ := sets_ok s g0 h0
    have h5 := List.mem_range.mp h3
    have h6 : lastN g0 < (n : Int) := of_decide_eq_true h4
    have mx : ∀ j ∈ g0, (j : Int) ≤ lastN g0 := fun j hj => by
      unfold lastN
      cases g0 with
      | nil => simp at hj
      | cons x r =>
        show _ ≤ maxI (-1) ((x : Int) :: r.map fun (n : Nat) => (n : Int))
        exact (foldl_max _ _).2 _ (by
          have : (j : Int) ∈ (x :: r).map fun (n : Nat) => (n : Int) := List.mem_map.mpr ⟨j, hj, rfl⟩
          exact this)
    refine ⟨?_, fun j hj => ?_⟩
    · rw [List.nodup_append]
      refine ⟨a, by simp, fun x hx y hy => ?_⟩
      have : y = n := by simpa using hy
      have := mx x hx
      omega
    · rcases List.mem_append.mp hj with hj | hj
      · exact b j hj
      · have : j = n := by simpa using hj
        omega
theorem setsN_ok {many least most : Nat} {g : List Nat} (h : g ∈ setsN many least most) : g.Nodup ∧ (∀ j ∈ g, j < many) := by
  obtain ⟨s, _, h⟩ := List.mem_flatMap.mp h
  exact sets_ok s g h
end P
end OA

namespace OA
namespace P
open PySem L2
local macro_rules
  | `(tactic| push_cast only [$a,*]) => `(tactic| simp -implicitDefEqProofs only [Int.toNat_natCast, List.cons.injEq, W.sh.injEq, D.int.injEq, D.str.injEq, D.bl.injEq, D.tup.injEq, D.lst.injEq, W.pt.injEq, and_assoc, exists_eq_left', exists_eq_left, exists_and_left, true_implies, dIsi, tn_n, tn_b, tn_i, tn_s, tn_t, tn_nt, tn_l, kr_NoneType_bool, kr_NoneType_int, kr_NoneType_str, kr_NoneType_list, kr_NoneType_tuple, kr_NoneType_dict, kr_bool_bool, kr_bool_int, kr_bool_str, kr_bool_list, kr_bool_tuple, kr_bool_dict, kr_int_bool, kr_int_int, kr_int_str, kr_int_list, kr_int_tuple, kr_int_dict, kr_str_bool, kr_str_int, kr_str_str, kr_str_list, kr_str_tuple, kr_str_dict, kr_list_bool, kr_list_int, kr_list_str, kr_list_list, kr_list_tuple, kr_list_dict, kr_tuple_bool, kr_tuple_int, kr_tuple_str, kr_tuple_list, kr_tuple_tuple, kr_tuple_dict, kr_dict_bool, kr_dict_int, kr_dict_str, kr_dict_list, kr_dict_tuple, kr_dict_dict, dVar, dC_n, dC_b, dC_i, dC_s, dC_t, dC_r, dOp, dUn, dNil, dCons, dStar, dStarT, dTup, dLst, dLstO, dAnd, dOr, dNot, dIf, dTest, dYes, dChain, dCall, dNext, dCut, dSeq, dDrop, dRet, dRetN, dIfS, dName, sgnil_e, sgcons_e, dGtup, dAsg, dAug, dWhile, dFor, dLc, dLcO, dLc2, dDc, dI0, dIC, dEq, dIsN, isNonW, noPy, dAddS, dMulS, dCat, dCatT, dInT, dInLI, dInTI, dInS, dIxL, dIxT, dIxS, dNeg, dNoPart, dPart, dSl, dSlL, dSlT, dSlS, dRev, dDGet, dDIn, dDNew, dDNewS, dsDPut, dgSub, dSetL, isLW, dLM, dLM0, dAppend, dPopAt, dExtend, dPop, dLen, dTupL, dLstL, dAbs, dIntB, dMin2, dMax2, dMaxL, dCKw, dMaxT, dFn, dList, dTupI, dStrI, dR1, dR2, dEnum, dTAnd, dTOr, dTNot, varR_e, intW_e, blW_e, strW_e, shW_e, tyW_e, tupW_e, tupW_n, tup0W_e, lookL_e, lookD_e, lookR_e, lookR_l, seqW_e, seqW_p, dicW_e, dicW_p, ownL_p, ownD_p, keyW_i, keyW_s, one1W_e, two2W_e, shsW_nil, shsW_cons, shsW_app, shsW_map, intsD_nil, intsD_cons, intsD_map, strsD_map, cWR_n, cWR_b, cWR_i, cWR_s, flW_n, flW_b, flW_i, flW_s, fls_nil, fls_n, fls_b, fls_i, fls_s, lenW_l, lenW_d, lenW_t, lenW_n, lenW_s, lenW_p, lenO'_l, lenO'_d, atR_0, atR_1, atR_2, atR_3, atR_4, lenOk_0, lenOk_1, lenOk_2, lenOk_3, lenOk_4, lenOk_5, look_hd, put_c, put_n, notins_nil, startG, scal, List.map, List.replicate, List.length_cons, List.length_nil, List.cons_append, List.nil_append, List.append_nil, List.getElem?_cons_zero, List.getElem?_cons_succ, List.set_cons_zero, List.set_cons_succ, wipeG, true_and, and_true, if_true, if_false, decide_eq_true_eq, reduceCtorEq, reduceIte, Bool.false_eq_true, decide_true, decide_false, Bool.true_and, Bool.false_and, Bool.and_true, Bool.and_false, Bool.not_true, Bool.not_false, V.int.injEq, V.str.injEq, V.bl.injEq, Nat.reduceAdd, Nat.reduceSub, Nat.reduceLT, Int.reduceEq, Int.reduceLT, Int.reduceLE, Int.reduceAdd, Int.reduceSub, Int.cast_ofNat_Int, dForK, dDcO, dLstVals, dEqLI, dDictO, dSortP, dSortPT, $a,*])
  | `(tactic| push_cast [$a,*]) => `(tactic| ((repeat refine LaterD.mk ?_); push_cast only [$a,*]; repeat ((refine LaterD.mk ?_); (repeat refine LaterD.mk ?_); push_cast only [$a,*])))
/-! the law's own sets -/
def subG : Nat → List (List Nat)
  | 0 => [[]]
  | n + 1 => subG n ++ (subG n).map (· ++ [n])
def allL (many : Nat) : List (List Nat) := (List.range (many + 1)).flatMap (levN many)
abbrev ptN (g : List Nat) : Int × List Int := ((g.length : Int), g.map fun (n : Nat) => (n : Int))
def srtC : List (List Nat) → Bool
  | [] => true
  | [_] => true
  | a :: b :: r => ltPT (ptN a) (ptN b) && srtC (b :: r)
def setsC (many : Nat) : Bool := (allL many).isPerm (subG many) && srtC (allL many) && ((List.range 9).all fun most => decide ((allL many).filter (fun g => decide (1 ≤ g.length) && decide (g.length ≤ most)) = setsN many 1 most)) && decide ((subG many).length ≤ 256) && (subG many).all fun g => decide (g.length ≤ 8)
theorem sets_all : ((List.range 9).all setsC) = true := by decide +kernel
theorem ltL_tot : ∀ l m : List Int, l ≠ m → ltL m l = false → ltL l m = true
  | [], [], h, _ => (h rfl).elim
  | [], _ :: _, _, _ => rfl
  | _ :: _, [], _, h => by cases h
  | a :: l, b :: m, h, h2 => by
    unfold ltL at h2 ⊢
    by_cases z : a = b
    · rw [if_pos z]
      rw [if_pos z.symm] at h2
      exact ltL_tot l m (fun e => h (by rw [z, e])) h2
    · rw [if_neg z]
      rw [if_neg fun y => z y.symm] at h2
      have := of_decide_eq_false h2
      exact decide_eq_true (by omega)
theorem ltPT_tot {p q : Int × List Int} (h : p ≠ q) (h2 : ltPT q p = false) : ltPT p q = true := by
  unfold ltPT at h2 ⊢
  by_cases z : p.1 = q.1
  · rw [if_pos z]
    rw [if_pos z.symm] at h2
    exact ltL_tot _ _ (fun e => h (Prod.ext z e)) h2
  · rw [if_neg z]
    rw [if_neg fun y => z y.symm] at h2
    have := of_decide_eq_false h2
    exact decide_eq_true (by omega)
theorem srtC_pw : ∀ l : List (List Nat), srtC l = true → (l.map ptN).Pairwise fun a b => ltPT a b = true
  | [], _ => List.Pairwise.nil
  | [a], _ => List.pairwise_singleton _ _
  | a :: b :: r, h => by
    unfold srtC at h
    obtain ⟨h1, h2⟩ := Bool.and_eq_true_iff.mp h
    have ih := srtC_pw (b :: r) h2
    rw [List.map_cons]
    refine List.pairwise_cons.mpr ⟨fun y hy => ?_, ih⟩
    rcases List.mem_cons.mp hy with rfl | hy
    · exact h1
    · have h3 := (List.pairwise_cons.mp ih).1 y hy
      exact (ltPT_swo (id : Int × List Int → Int × List Int)).ltle h1 (ltPT_asym _ _ h3)
theorem sets_at {many : Nat} (h8 : many ≤ 8) : (allL many).Perm (subG many) ∧ ((allL many).map ptN).Pairwise (fun a b => ltPT a b = true) ∧ (∀ most, most ≤ 8 → (allL many).filter (fun g => decide (1 ≤ g.length) && decide (g.length ≤ most)) = setsN many 1 most) ∧ (subG many).length ≤ 256 ∧ ∀ g ∈ subG many, g.length ≤ 8 := by
  have h := sets_all
  rw [List.all_eq_true] at h
  have h := h many (List.mem_range.mpr (by omega))
  unfold setsC at h
  simp only [Bool.and_eq_true, List.all_eq_true, decide_eq_true_eq] at h
  obtain ⟨⟨⟨⟨h1, h2⟩, h3⟩, h4⟩, h5⟩ := h
  exact ⟨List.isPerm_iff.mp h1, srtC_pw _ h2, fun most hm => h3 most (List.mem_range.mpr (by omega)), h4, h5⟩
theorem sets_sorted {many : Nat} (h8 : many ≤ 8) {qs : List (Int × List Int)} (pm : qs.Perm ((subG many).map ptN)) (pw : qs.Pairwise fun a b => ltPT b a = false) : qs = (allL many).map ptN := by
  obtain ⟨h1, h2, _⟩ := sets_at h8
  have pm2 : qs.Perm ((allL many).map ptN) := pm.trans (h1.map ptN).symm
  have nd : qs.Nodup := pm2.nodup_iff.mpr (h2.imp fun {a b} hh e => by
    rw [e, ltPT_irr] at hh
    cases hh)
  refine ext_srt (lt := fun a b => ltPT a b = true) (fun a b h h' => by rw [ltPT_asym _ _ h] at h'; cases h') _ _ ((pw.and nd).imp fun hh => ltPT_tot hh.2 hh.1) h2 fun x => pm2.mem_iff
section
variable {P : Program} {w : World} {K : PySem.W.Frag} {mg : Str → Option Value} {base : Heap} {A : Ad}
theorem sc__law_sets : FnScope ["_law_many_here", "_law_most", "_law_some", "_law_number", "_law_one", "_law_pair"] ["_law_many_here", "_law_most"] (defScope s__law_sets) := ⟨rfl, rfl, rfl, by decide +kernel, rfl, by decide +kernel, by decide +kernel⟩
theorem ok__law_sets (T : Txt K mg base A) : FnOk P w K mg base CX0 1 A._law_sets A.d__law_sets ["_law_many_here", "_law_most"] (spD K am0 (fun ws Q => ∃ many most : Nat, ws = [.sh (.int many), .sh (.int most)] ∧ (many ≤ 8 ∧ most ≤ 8) ∧ Q (.sh (.lst ((setsN many 1 most).map tD))) [])) := by
  refine T.F__law_sets.ok sc__law_sets (fun vs H Q E h => by
    obtain ⟨_, ws, Qd, _, _, _, hv, hsp, _⟩ := h
    obtain ⟨many, most, rfl, _⟩ := hsp
    exact hv.len.symm) (fun cdv A' outer s H vs Q E hr h => ?_)
  have hu := hu_of hr
  refine spD_run (td := ?td) h (qs_cons (ps_set (i := 2) sc__law_sets.nd rfl (Or.inl rfl) (pe_lst (pa_cons (pe_tup pa_nil) pa_nil)))
    (qs_cons (q_for PassesOwn.never rfl (qi_r1 (by rfl) T.m_range (pa_cons (qv 0) pa_nil)) (pg_name (i := 3) sc__law_sets.nd rfl (Or.inr rfl)) (pss_one (ps_set (i := 2) sc__law_sets.nd rfl (Or.inl rfl) (pe_op o_cat (qv 2) (q_lc (own := [("_law_one", 4)]) (g := gName 4) (tt := tYes) rfl sc__law_sets.nd (qi_list (qv 2)) (blkOk_by (own := [("_law_one", 4)]) (N := ["_law_many_here", "_law_most", "_law_some", "_law_number", "_law_one", "_law_pair"]) (sc := defScope s__law_sets) (by decide +kernel)) (fun _ _ _ _ _ => (pg_name (i := 4) sc__law_sets.nd rfl (Or.inl rfl))) (fun _ _ _ _ _ => pts_nil) (fun _ _ _ _ _ => (pe_op (o_catA (K' := K)) (qv 4) (pe_tup (pa_cons (qv 3) pa_nil)))))))))
    (pss_one (ps_ret (q_lc (own := [("_law_pair", 5)]) (g := gName 5) rfl sc__law_sets.nd (qi_list (pe_callB (cr_sortedPT hr.units) (by rfl) T.m_sorted (by decide +kernel) (pa_cons (q_lc (own := [("_law_one", 4)]) (g := gName 4) (tt := tYes) rfl sc__law_sets.nd (qi_list (qv 2)) (blkOk_by (own := [("_law_one", 4)]) (N := ["_law_many_here", "_law_most", "_law_some", "_law_number", "_law_one", "_law_pair"]) (sc := defScope s__law_sets) (by decide +kernel)) (fun _ _ _ _ _ => (pg_name (i := 4) sc__law_sets.nd rfl (Or.inl rfl))) (fun _ _ _ _ _ => pts_nil) (fun _ _ _ _ _ => (pe_tup (pa_cons (pe_callB c_len (by rfl) T.m_len (by decide +kernel) (pa_cons (qv 4) pa_nil)) (pa_cons (qv 4) pa_nil))))) pa_nil))) (blkOk_by (own := [("_law_pair", 5)]) (N := ["_law_many_here", "_law_most", "_law_some", "_law_number", "_law_one", "_law_pair"]) (sc := defScope s__law_sets) (by decide +kernel)) (fun _ _ _ _ _ => (pg_name (i := 5) sc__law_sets.nd rfl (Or.inl rfl))) (fun _ _ _ _ _ => pts_one (q_tchain o_le o_le pe_int (pe_ix ix_T (qv 5) pe_int (fun _ _ => rfl)) (qv 1))) (fun _ _ _ _ _ => (pe_ix ix_T (qv 5) pe_int (fun _ _ => rfl)))))))) ?hs ?hD
  case hs => (try simp only [cx_K, cx_prog, cx_w, blkK]); exact inferInstance
  rintro ws Qd ⟨many, most, rfl, hn, kk⟩
  push_cast []
  refine ⟨by omega, by omega, fun i Γ Ω => ∃ v3 v4 v5, Γ = [some (.sh (.int many)), some (.sh (.int most)), some (.sh (.lst ((subG i).map tD))), v3, v4, v5] ∧ Ω = [], ⟨_, _, _, rfl, rfl⟩, ?_, ?_⟩
  · rintro i w Γ Ω hw ⟨v3, v4, v5, rfl, rfl⟩
    have hi : i < many := by
      have := (List.getElem?_eq_some_iff.mp hw).1
      simpa [natsW] using this
    obtain rfl : W.sh (.int (i : Nat)) = w := by
      unfold natsW at hw
      rw [List.getElem?_map, List.getElem?_range hi] at hw
      exact Option.some.inj hw
    obtain ⟨_, _, _, s4, s5⟩ := sets_at (many := i) (by omega)
    push_cast []
    have e0 : List.map W.sh (List.map tD (subG i)) = (subG i).map fun g => W.sh (tD g) := by rw [List.map_map]; rfl
    rw [e0]
    refine ⟨by simp, _, dLcP_map (D0 := subG i) (f := fun g => W.sh (tD g)) (G := fun g => W.sh (tD (g ++ [i]))) (by omega) (fun g hg acc q Pn hn0 ll k1 => ?_), fun acc hacc => ?_⟩
    · have lg := s5 g hg
      have ea : tD (g ++ [i]) = D.tup (g.map iD ++ [iD i]) := by simp [tD]
      rw [ea] at k1
      push_cast []
      exact ⟨lenOk_of (by simp; omega), ll, k1⟩
    · have : acc = ((subG i).map fun g => tD (g ++ [i])).map W.sh := by
        rw [hacc, List.length_map, List.take_length, List.map_map]
        rfl
      subst this
      push_cast []
      refine ⟨lenOk_of (by simp; omega), ?_, _, rfl⟩
      simp [subG, List.map_map]
  · rintro Γ Ω ⟨v3, v4, v5, rfl, rfl⟩
    have e2 : (natsW many).length = many := by simp [natsW]
    rw [e2]
    obtain ⟨_, _, s3, s4, s5⟩ := sets_at hn.1
    push_cast []
    have e0 : List.map W.sh (List.map tD (subG many)) = (subG many).map fun g => W.sh (tD g) := by rw [List.map_map]; rfl
    rw [e0]
    have ep : ∀ g : List Nat, ptD (ptN g) = D.tup [.int (g.length : Nat), tD g] := fun g => by
      unfold ptD tD
      rw [List.map_map]
      rfl
    refine ⟨by simp, by simp, _, dLcP_map (D0 := subG many) (f := fun g => W.sh (tD g)) (G := fun g => W.sh (ptD (ptN g))) (by omega) (fun g hg acc q Pn hn0 ll k1 => ?_), fun acc hacc => ?_⟩
    · have k1' := k1
      rw [ep] at k1'
      have eg : ((g.map iD).length : Int) = (g.length : Int) := by rw [List.length_map]
      push_cast [eg]
      exact ⟨ll, k1'⟩
    · have : acc = (((subG many).map ptN).map ptD).map W.sh := by
        rw [hacc, List.length_map, List.take_length, List.map_map, List.map_map]
        rfl
      subst this
      push_cast []
      refine ⟨(subG many).map ptN, rfl, fun qs pm pw => ?_⟩
      have eq := sets_sorted hn.1 pm pw
      subst eq
      have e1 : List.map W.sh (List.map ptD (List.map ptN (allL many))) = (allL many).map fun g => W.sh (ptD (ptN g)) := by rw [List.map_map, List.map_map]; rfl
      rw [e1]
      have al : (allL many).length ≤ 256 := by rw [(sets_at hn.1).1.length_eq]; exact s4
      refine ⟨_, dLcP_filt (D0 := allL many) (f := fun g => W.sh (ptD (ptN g))) (G := fun g => W.sh (tD g)) (t := fun g => decide (1 ≤ g.length) && decide (g.length ≤ most)) (by omega) (fun g hg acc q Pn hn0 ll k1 => ?_), fun acc hacc => ?_⟩
      · rw [ep]
        push_cast []
        by_cases c1 : 1 ≤ g.length
        · rw [if_pos (by omega)]
          by_cases c2 : g.length ≤ most
          · rw [if_pos (by omega)]
            exact ⟨ll, by simpa [c1, c2] using k1⟩
          · rw [if_neg (by omega)]
            simpa [c1, c2] using k1
        · rw [if_neg (by omega)]
          simpa [c1] using k1
      · rw [List.length_map, List.take_length, s3 most hn.2] at hacc
        have : acc = ((setsN many 1 most).map tD).map W.sh := by rw [hacc, List.map_map]; rfl
        subst this
        push_cast []
        exact .sh kk
end
end P
end OA

namespace OA
open PySem PySem.Spec PyProof.Rows L2
/-! all(elt for x in iter): the element's own frame -/
theorem inv_regens {X : Cx} {pins : List (Addr × Obj)} {σ : L2.St} {H : Hp} {s s' : Shared} (I : Inv X pins σ H s) (h1 : s'.heap = s.heap) (h2 : s'.os = s.os) (h3 : AllBare s'.gens) : Inv X pins σ H s' :=
  ⟨I.ok, h2.trans I.os, h3, by rw [h1]; exact I.base, by rw [h1]; exact I.loc, by rw [h1]; exact I.cell, I.free, I.freeC, by rw [h1]; exact I.pin, by rw [h1]; exact I.hok, I.len⟩
def gxY (X : Cx) (N : List Str) (scope : Scope) (cl : List (Str × Addr)) (C : Addr) (code : Value) (fp : List Addr) (pn : List (Addr × Obj)) (A : Around) (s4 : Shared) (H4 : Hp) : Cx :=
  { prog := X.prog, w := X.w, K := X.K, mg := X.mg, base := X.base, A := A, N := N, s_0 := s4, H_0 := H4, env := genEnv scope cl C code builtinsNs X.env, outer := X.stack, stack := genEnv scope cl C code builtinsNs X.env :: X.stack, ex := fp, fn := fun _ => false, calm := true, pn := pn, xe := fun _ _ => False }
/-- the names that the generator takes from the def -/
def FreeOk (X : Cx) (σ : L2.St) (scope : Scope) (N : List Str) (σY : L2.St) : Prop := ∀ (i : Nat) (y : Str) (v : V), N[i]? = some y → σY[i]? = some (some v) → scope.names.lookup y = some .free ∧ ∃ j : Nat, X.N[j]? = some y ∧ σ[j]? = some (some v) ∧ (X.env.kindOf y = some .cell ∨ X.env.kindOf y = some .free)
theorem gx_start {X : Cx} {pins : List (Addr × Obj)} {σ σY : L2.St} {H4 : Hp} {s4 s5 : Shared} {N : List Str} {scope : Scope} {code : Value} {fp : List Addr} {A : Around} {x : Str} {a : Addr} {go : Obj} {m : Str → Option Value}
    (I : Inv X pins σ H4 s4) (S : GxR.GenS X.env scope x) (hfp : ∀ b ∈ fp, FpOk X pins H4 b ∧ b < s4.heap.objs.size) (hd : A.handled = none) (hfr : A.frames = some (genEnv scope (cloFrom X.env.cells scope.names []) s4.heap.objs.size code builtinsNs X.env :: X.stack))
    (hk : ∀ b o, s4.heap.get? b = some o → s5.heap.get? b = some o) (hos : s5.os = s4.os) (hg : AllBare s5.gens) (hm : s5.heap.Ns s4.heap.objs.size m) (ha : s5.heap.get? a = some go) (han : s4.heap.objs.size < a) (hgo : ∀ v, go.data ≠ .cell v)
    (hl : σY.length = N.length) (hf : FreeOk X σ scope N σY) :
    Inv (gxY X N scope (cloFrom X.env.cells scope.names []) s4.heap.objs.size code fp [(a, go)] A s4 H4) [] σY H4 s5 := by
  have cm : ∀ {y : Str} {c : Addr}, (cloFrom X.env.cells scope.names []).lookup y = some c → X.env.cells.lookup y = some c := fun e => NdefX.clo_cm S.free e
  have lt4 : ∀ b, b ∈ fp → b ≠ s4.heap.objs.size := fun b hb => Nat.ne_of_lt (hfp b hb).2
  refine ⟨⟨I.ok.mod, S.kind, I.ok.glob, rfl, Nat.le_refl _, fun y z c h1 h2 => I.ok.inj y z c (cm h1) (cm h2), fun y hy => ?_, fun _ _ h => (by cases h), fun _ => hd, hfr, .inr ⟨rfl, rfl⟩, fun b hb => ⟨lt4 b hb, fun y c h => (hfp b hb).1.2.2.2.2.1 y c (cm h)⟩,
    fun b o e => I.bs b o e, Nat.le_trans I.ok.bsz I.sz, fun b o e hb => ?_, fun b hb hs => ?_, I.stack, I.stkFree⟩, hos, hg, Un.kept hk, ⟨m, hm, fun i y v h1 h2 h3 => ?_⟩, fun y c h => ?_, I.hok.fresh (Nat.le_refl _), fun y c h => I.freeC y c (cm h), fun p hp => ?_, I.hok.kept hk, hl⟩
  · have hy : scope.names.lookup y = some .cell ∨ scope.names.lookup y = some .free := hy
    rcases hy with hy | hy
    · exact absurd rfl (S.cell _ (PySem.mem_of_lookup hy))
    · obtain ⟨c, hc⟩ := S.free _ (PySem.mem_of_lookup hy) rfl
      exact ⟨c, NdefX.clo_has S.free (PySem.mem_of_lookup hy) hc⟩
  · rcases (hfp b hb).1.2.2.2.1 with z | z
    · exact I.ok.noex b o e z
    · have h1 := Heap.lt_size e
      exact absurd (Nat.lt_of_lt_of_le h1 (Nat.le_trans I.ok.bsz z)) (Nat.lt_irrefl _)
  · rcases List.mem_cons.mp (I.stkSub b hs) with z | z
    · exact (hfp b hb).1.2.1 z
    · exact (hfp b hb).1.2.2.1 z
  · obtain ⟨k1, j, j1, j2, j3⟩ := hf i y v h1 h2
    obtain ⟨mX, _, hX⟩ := I.loc
    obtain ⟨u, ru, lu⟩ := hX j y v j1 j2 (by
      rcases j3 with j3 | j3
      · exact .inr (.inl j3)
      · exact .inr (.inr j3))
    obtain ⟨c, hc⟩ := S.free _ (PySem.mem_of_lookup k1) rfl
    refine ⟨u, ru, .inr ⟨.inr k1, c, NdefX.clo_has S.free (PySem.mem_of_lookup k1) hc, ?_⟩⟩
    rcases lu with ⟨l1, l2⟩ | ⟨l1, c', l2, l3⟩
    · rcases j3 with j3 | j3 <;> rw [j3] at l1 <;> cases l1
    · rw [hc] at l2
      cases l2
      exact l3.keeps hk
  · obtain ⟨v, hv⟩ := I.cell y c (cm h)
    exact ⟨v, hv.keeps hk⟩
  · have hp : p = (a, go) := by simpa [gxY] using hp
    rw [hp]
    refine ⟨ha, I.hok.fresh (Nat.le_of_lt han), Nat.ne_of_gt han, fun hm => ?_, hgo⟩
    obtain ⟨_, o, ho, _⟩ := I.stack.mem hm
    exact absurd (Heap.lt_size ho) (Nat.not_lt_of_gt (Nat.lt_of_lt_of_le han (Nat.le_refl _)))
/-! one turn after another -/
def slR (Y : Cx) (pins : List (Addr × Obj)) (fp : List Addr) (tn : Nat → Heap → Prop) (Sl : L2.St → Prop) (Pv : Nat → Hp → Prop) (i : Nat) (s : Shared) : Prop := ∃ σ H, Sl σ ∧ Pv i H ∧ Inv Y pins σ H s ∧ tn i s.heap ∧ ∀ b ∈ fp, H b = none
def gxR (Y : Cx) (pins : List (Addr × Obj)) (Pv : Nat → Hp → Prop) (n : Nat) : GenEnd := fun m _ r s1 => r = .ok .next ∧ m = 0 ∧ ∃ σ H, Pv n H ∧ Inv Y pins σ H s1
def gxP (Y : Cx) (pins : List (Addr × Obj)) (fp : List Addr) (tn : Nat → Heap → Prop) (Sl : L2.St → Prop) (Pv : Nat → Hp → Prop) (n : Nat) (tr : Nat → Bool) : Protocol := fun m _ v s kap =>
  ∃ i, i < n ∧ m = n - 1 - i ∧ v = .bool (tr i) ∧ slR Y pins fp tn Sl Pv (i + 1) s ∧ ∀ s'' : Shared, s''.heap = s.heap → s''.os = s.os → AllBare s''.gens → kap (.send .none) s''
section
variable {P : Program} {w : World} {K : PySem.W.Frag} {Y : Cx} {pins : List (Addr × Obj)} {S : Around} {elt iter : Expr} {x : Str} {px pos : Pos} {scope : Scope} {J : It} {it : Addr} {fp : List Addr} {tn : Nat → Heap → Prop} {g : TG} {te : TE} {Sl : L2.St → Prop} {Pv : Nat → Hp → Prop} {n : Nat} {tr : Nat → Bool} {env : Env}
theorem seg_gx (hP : Y.prog = P) (hw : Y.w = w) (hK : Y.K = K) (hcl : Y.calm = true) (hxe : Y.xe = fun _ _ => False) (henv : Y.env = env) (hA : Y.A = S.over (.compLoop (.GeneratorExp elt [⟨.Name x px, iter, [], 0⟩] scope pos) 0 (.ref it) .none env) [])
    (hco : env.scope.isCoroutine = false) (T : Turn P w K (.Name x px) J fp it tn) (hst : ∀ H, (∀ b ∈ fp, H b = none) → ∀ b ∈ fp, FpOk Y pins H b) (hg : PG Y (.Name x px) g) (he : PE Y elt te)
    (stop : ∀ H, Pv n H → J.stop n H) (go : ∀ i H, i < n → Pv i H → J.go i H) (turn : ∀ i σ H u H', i < n → Sl σ → Pv i H → J.yld i H u H' → g u σ H' fun σ2 H2 => Sl σ2 ∧ te σ2 H2 fun y H3 => y = .bl (tr i) ∧ Pv (i + 1) H3) :
    ∀ (k i : Nat) (s₀ s : Shared), n - i = k → i ≤ n → slR Y pins fp tn Sl Pv i s →
      Seg (model P w) S (gxR Y pins Pv n) (gxP Y pins fp tn Sl Pv n tr) (n - i) s₀ (.compLoop (.GeneratorExp elt [⟨.Name x px, iter, [], 0⟩] scope pos) 0 (.ref it) .none env)
        ((model P w).den (.compLoop (.GeneratorExp elt [⟨.Name x px, iter, [], 0⟩] scope pos) 0 (.ref it) .none env)) [] s := by
  subst hP hw hK henv
  intro k
  induction k with
  | zero =>
    intro i s₀ s hk hi ⟨σ, H, sl, pv, I, st, fr⟩
    have hin : i = n := by omega
    subst hin
    show Seg _ S _ _ _ s₀ _ ((compTurn (.GeneratorExp elt [⟨.Name x px, iter, [], 0⟩] scope pos) 0 (.ref it) .none Y.env).onRaise (leaving Y.env)) [] s
    rw [compTurn_gen, Sem.onRaise_eq_wrap]
    refine seg_bind_wrap (wpAny_standAt ?_)
    have d := T.done Y rfl rfl rfl hcl i pins s σ H
    rw [hA] at d
    refine seg_bind_wrap (wpAny_mono (d (fun x s' => Seg _ _ _ _ _ _ _ _ _ _) I (hst H fr) st (stop H pv)) (fun r s1 ⟨hr, I1⟩ => ?_) fun _ _ e => e)
    subst hr
    exact seg_end (.ok .next) ⟨rfl, by omega, σ, H, pv, I1⟩
  | succ k ih =>
    intro i s₀ s hk hi ⟨σ, H, sl, pv, I, st, fr⟩
    have hlt : i < n := by omega
    show Seg _ S _ _ _ s₀ _ ((compTurn (.GeneratorExp elt [⟨.Name x px, iter, [], 0⟩] scope pos) 0 (.ref it) .none Y.env).onRaise (leaving Y.env)) [] s
    rw [compTurn_gen, Sem.onRaise_eq_wrap]
    refine seg_bind_wrap (wpAny_standAt ?_)
    have d := T.item Y rfl rfl rfl hcl i pins s σ H
    rw [hA] at d
    refine seg_bind_wrap (wpAny_mono (d (fun x s' => Seg _ _ _ _ _ _ _ _ _ _) I (hst H fr) st (go i H hlt pv)) (fun r s1 ⟨u, hr, h4⟩ => ?_) fun _ _ e => e)
    subst hr
    refine seg_bind_wrap (wpAny_mono h4 (fun _ s2 ⟨y, H', I2, r2, y2, st2, fr2⟩ => ?_) fun _ _ e => e)
    have I2' := I2.pinned (hst H' fr2) (T.obj _ _ st2)
    have hgr := hg.run _ s2 σ H' y u _ I2' r2 (turn i σ H y H' hlt sl pv y2)
    rw [hA, hxe] at hgr
    refine seg_bind_wrap (wpAny_mono hgr (fun _ s3 ⟨σ3, H3, I3, sl3, q3⟩ => ?_) fun _ _ e => e.elim)
    simp only [List.forIn_nil]
    refine seg_bind_wrap (wpAny_pure ?_)
    simp only [if_true]
    have hy : ∀ v, yieldOut Y.env v = yieldValue v := fun v => by simp only [yieldOut, hco, Bool.false_eq_true, if_false]
    simp only [hy]
    rw [Sem.bind_eq_wrap', Sem.bind_eq_wrap', Sem.wrap_wrap, Sem.wrap_wrap]
    have her := he.run _ s3 σ3 H3 _ I3 q3
    rw [hA, hxe] at her
    refine seg_wrap (wpAny_mono her (fun z s4 ⟨v, H4, I4, rv, hv, pv4⟩ => ?_) fun _ _ e => e.elim)
    have hz : z = .bool (tr i) := by rw [hv] at rv; exact rv
    have en : n - i = (n - 1 - i) + 1 := by omega
    rw [en]
    have st4 : tn (i + 1) s4.heap := T.keep _ _ _ st2 fun b hb o e => (I4.pin (b, o) (List.mem_append_right _ (List.mem_append_right _ (mem_pinsAt hb e)))).1
    have fr4 : ∀ b ∈ fp, H4 b = none := fun b hb => by
      obtain ⟨o, e, d⟩ := T.obj _ _ st2 b hb
      exact (I4.pin (b, o) (List.mem_append_right _ (List.mem_append_right _ (mem_pinsAt hb e)))).2.1
    refine seg_at (seg_yield rfl rfl rfl ⟨i, hlt, rfl, hz, ⟨σ3, H4, sl3, pv4, I4.unpinned, st4, fr4⟩, fun s'' e1 e2 e3 => ?_⟩)
    have : n - 1 - i = n - (i + 1) := by omega
    rw [this]
    exact seg_again rfl (ih (i + 1) s'' s'' (by omega) hlt ⟨σ3, H4, sl3, pv4, inv_regens I4.unpinned e1 e2 e3, by rw [e1]; exact st4, fr4⟩)
/-- the generator, ready for its i-th turn -/
def gxSt (S : Around) (Y : Cx) (pins : List (Addr × Obj)) (fp : List Addr) (tn : Nat → Heap → Prop) (Sl : L2.St → Prop) (Pv : Nat → Hp → Prop) (n : Nat) (tr : Nat → Bool) (a : Addr) (gi : Nat) (i : Nat) (s : Shared) : Prop :=
  s.heap.IsGen a gi ∧ gi < s.gens.size ∧ (∃ σ H, Pv i H ∧ Inv Y pins σ H s) ∧ ∃ gs, s.gens[gi]? = some gs ∧ ∀ s'' : Shared, s''.heap = s.heap → s''.os = s.os → AllBare s''.gens → gs.Goes (model Y.prog Y.w) S (gxR Y pins Pv n) (gxP Y pins fp tn Sl Pv n tr) (n - i) (.send .none) s''
def gxFin (Y : Cx) (pins : List (Addr × Obj)) (Pv : Nat → Hp → Prop) (n : Nat) (s : Shared) : Prop := ∃ i σ H, ((0 < i ∨ i = n) ∧ i ≤ n) ∧ Pv i H ∧ Inv Y pins σ H s
section
variable {B : Around} {a : Addr} {gi i : Nat} {s : Shared} {Q : Option Value → Shared → Prop} {E : Value → Shared → Prop} {go : Obj}
theorem gx_item (hh : B.handled = none) (hroom : B.depth < recursionLimit) (hpn : (a, go) ∈ Y.pn) (hi : i < n) (st : gxSt B.in1 Y pins fp tn Sl Pv n tr a gi i s) (hQ : ∀ s', gxSt B.in1 Y pins fp tn Sl Pv n tr a gi (i + 1) s' → Q (some (.bool (tr i))) s') :
    wpAny (model Y.prog Y.w) B (pyNext (.ref a)) Q E s := by
  obtain ⟨hg, hlt, ⟨σ, H, pv, I⟩, gs, hgs, hgo⟩ := st
  have en : n - i = (n - 1 - i) + 1 := by omega
  rw [en] at hgo
  have hga := hg
  obtain ⟨o, nm, qn, ho, hoc, hod, hos⟩ := hga
  have hpin := (I.pin (a, go) (List.mem_append_left _ hpn)).1
  have hpin : s.heap.get? a = some go := hpin
  refine GenW.wpAny_gsz (n := s.gens.size) (Nat.le_refl _) ?_
  refine wpAny_pyNext_genexpQ (A := B) (n := n - 1 - i + 1) (P := fun m _ s1 => m = 0 ∧ ∃ σ H, Pv n H ∧ Inv Y pins σ H s1) hh I.nolimit hroom hg hgs (hgo _ rfl rfl (allBare_setGen I.bare rfl)) (fun v s1 gs' hb hv hsz => ?_) (fun s1 hp h' hk hsz => ?_)
  · obtain ⟨i', hi', em, rfl, ⟨σ2, H2, sl2, pv2, I2, st2, fr2⟩, kap⟩ := hv
    have : i' = i := by omega
    subst this
    have hsz' : s.gens.size ≤ s1.gens.size := by rw [GenW.setGen_size] at hsz; exact hsz
    have hpin2 : s1.heap.get? a = some go := (I2.pin (a, go) (List.mem_append_left _ hpn)).1
    have hog : o = go := by rw [ho] at hpin; exact Option.some.inj hpin
    have hb2 : AllBare (s1.setGen gi gs').gens := allBare_setGen I2.bare hb
    refine hQ _ ⟨⟨go, nm, qn, hpin2, by rw [← hog]; exact hoc, by rw [← hog]; exact hod, by rw [← hog]; exact hos⟩, by rw [GenW.setGen_size]; omega, ⟨σ2, H2, pv2, inv_regens I2 rfl rfl hb2⟩, gs', setGen_at (by omega), fun s'' e1 e2 e3 => ?_⟩
    have := kap s'' e1 e2 e3
    have e4 : n - 1 - i' = n - (i' + 1) := by omega
    rw [← e4]
    exact this
  · exact absurd hp.1 (Nat.succ_ne_zero _)
theorem gx_done (hh : B.handled = none) (hroom : B.depth < recursionLimit) (st : gxSt B.in1 Y pins fp tn Sl Pv n tr a gi n s) (hQ : ∀ s', gxFin Y pins Pv n s' → Q none s') : wpAny (model Y.prog Y.w) B (pyNext (.ref a)) Q E s := by
  obtain ⟨hg, hlt, ⟨σ, H, pv, I⟩, gs, hgs, hgo⟩ := st
  rw [Nat.sub_self] at hgo
  refine wpAny_pyNext_genexpQ (A := B) (n := 0) (P := fun m _ s1 => m = 0 ∧ ∃ σ H, Pv n H ∧ Inv Y pins σ H s1) hh I.nolimit hroom hg hgs (hgo _ rfl rfl (allBare_setGen I.bare rfl)) (fun v s1 gs' hb hv => ?_) (fun s1 hp h' hk => ?_)
  · obtain ⟨i', hi', em, _, _, kap⟩ := hv
    exact False.elim (kap s1 rfl rfl (by
      obtain ⟨_, _, _, _, I2, _⟩ := ‹slR Y pins fp tn Sl Pv (i' + 1) s1›
      exact I2.bare))
  · obtain ⟨_, σ2, H2, pv2, I2⟩ := hp
    refine hQ _ ⟨n, σ2, H2, ⟨.inr rfl, Nat.le_refl _⟩, pv2, ?_⟩
    have I3 := I2.kept (h' := h') (t' := s1.toks) hk
    exact inv_regens I3 rfl rfl (allBare_setGen I2.bare rfl)
end
theorem all_loop {prog : Program} {w : World} {A : Around} {I : Addr} {n : Nat} {tr : Nat → Bool} {R : Result → Shared → Prop} (St : Nat → Shared → Prop) (Fin : Shared → Prop)
    (item : ∀ i s (Q : Option Value → Shared → Prop) (E : Value → Shared → Prop), i < n → St i s → (∀ s', St (i + 1) s' → Q (some (.bool (tr i))) s') → wpAny (model prog w) A.in1 (pyNext (.ref I)) Q E s)
    (done : ∀ s (Q : Option Value → Shared → Prop) (E : Value → Shared → Prop), St n s → (∀ s', Fin s' → Q none s') → wpAny (model prog w) A.in1 (pyNext (.ref I)) Q E s) (fin : ∀ i s, 0 < i → i ≤ n → St i s → Fin s) :
    ∀ (k i : Nat) (s : Shared), n - i = k → i ≤ n → St i s → (∀ s', Fin s' → R (.ok (.ret (.bool (((List.range n).drop i).all tr)))) s') → codeAny (model prog w) A (.builtin "all.loop" ⟨[.ref I], []⟩) R s := by
  intro k
  induction k with
  | zero =>
    intro i s hk hi hst hR
    have hin : i = n := by omega
    subst hin
    refine codeAny_builtin F.entry_all_loop ?_
    rw [Around.under_plainId F.plain_all_loop _]
    show wpAny _ A.in1 (pyNext (.ref I) >>= _) _ _ s
    refine wpAny_bind (done s _ _ hst fun s' hm => ?_)
    refine wpAny_bind (wpAny_rule (wpAny_pure ?_))
    have := hR s' hm
    rw [List.drop_of_length_le (by simp)] at this
    exact this
  | succ k ih =>
    intro i s hk hi hst hR
    have hlt : i < n := by omega
    have hd : (List.range n).drop i = i :: (List.range n).drop (i + 1) := by
      rw [List.drop_eq_getElem_cons (by simpa using hlt)]; simp
    refine codeAny_builtin F.entry_all_loop ?_
    rw [Around.under_plainId F.plain_all_loop _]
    show wpAny _ A.in1 (pyNext (.ref I) >>= _) _ _ s
    refine wpAny_bind (item i s _ _ hlt hst fun s' hst' => ?_)
    refine wpAny_bind (wpAny_holding (wpAny_truthy_bool ?_))
    refine wpAny_bind (wpAny_letGo ?_)
    cases hb : tr i with
    | true =>
      simp only [if_true]
      refine wpAny_pure ⟨plainId_quiet F.plain_all_loop _, ih (i + 1) _ (by omega) hlt hst' fun s'' hm' => ?_⟩
      have := hR s'' hm'
      rw [hd, List.all_cons, hb, Bool.true_and] at this
      exact this
    | false =>
      simp only [Bool.false_eq_true, if_false]
      refine wpAny_bind (wpAny_rule (wpAny_pure ?_))
      have := hR s' (fin (i + 1) s' (Nat.succ_pos _) hlt hst')
      rw [hd, List.all_cons, hb, Bool.false_and] at this
      exact this
end
end OA

namespace OA
open PySem PySem.Spec PyProof.Rows L2
/-! all(elt for x in iter): the rule -/
section
variable {P : Program} {w : World} {K : PySem.W.Frag} {Y : Cx} {pins : List (Addr × Obj)} {S : Around} {elt iter : Expr} {x : Str} {px pos : Pos} {scope : Scope} {J : It} {it : Addr} {fp : List Addr} {tn : Nat → Heap → Prop} {g : TG} {te : TE} {Sl : L2.St → Prop} {Pv : Nat → Hp → Prop} {n : Nat} {tr : Nat → Bool} {env : Env}
theorem seg_gx0 (hP : Y.prog = P) (hw : Y.w = w) (hK : Y.K = K) (hcl : Y.calm = true) (hxe : Y.xe = fun _ _ => False) (henv : Y.env = env) (hA : Y.A = S.over (.compLoop (.GeneratorExp elt [⟨.Name x px, iter, [], 0⟩] scope pos) 0 (.ref it) .none env) [])
    (hco : env.scope.isCoroutine = false) (T : Turn P w K (.Name x px) J fp it tn) (hst : ∀ H, (∀ b ∈ fp, H b = none) → ∀ b ∈ fp, FpOk Y pins H b) (hg : PG Y (.Name x px) g) (he : PE Y elt te)
    (stop : ∀ H, Pv n H → J.stop n H) (go : ∀ i H, i < n → Pv i H → J.go i H) (turn : ∀ i σ H u H', i < n → Sl σ → Pv i H → J.yld i H u H' → g u σ H' fun σ2 H2 => Sl σ2 ∧ te σ2 H2 fun y H3 => y = .bl (tr i) ∧ Pv (i + 1) H3)
    (s₀ s : Shared) (h : slR Y pins fp tn Sl Pv 0 s) :
      Seg (model P w) S (gxR Y pins Pv n) (gxP Y pins fp tn Sl Pv n tr) n s₀ (.compStart (.GeneratorExp elt [⟨.Name x px, iter, [], 0⟩] scope pos) 0 (.ref it) .none env)
        ((model P w).den (.compStart (.GeneratorExp elt [⟨.Name x px, iter, [], 0⟩] scope pos) 0 (.ref it) .none env)) [] s := by
  have loop := seg_gx hP hw hK hcl hxe henv hA hco T hst hg he stop go turn n 0 s₀ s (Nat.sub_zero _) (Nat.zero_le _) h
  rw [Nat.sub_zero] at loop
  obtain ⟨_, _, _, _, _, st, _⟩ := h
  show Seg _ S _ _ _ s₀ _ ((compStart (.GeneratorExp elt [⟨.Name x px, iter, [], 0⟩] scope pos) 0 (.ref it) .none env).onRaise (leaving env)) [] s
  unfold compStart
  rw [Sem.onRaise_eq_wrap]
  show Seg _ S _ _ _ s₀ _ ((ask >>= _).wrap _ _ _ _) [] s
  refine seg_bind_wrap (wpAny_askSetting ?_)
  split
  · exact seg_again rfl loop
  · first
      | exact seg_bind_wrap (wpAny_rule (seg_bind_wrap (wpAny_standAt (seg_bind_wrap (T.self _ 0 s _ _ st (seg_again rfl loop))))))
      | (refine seg_bind_wrap (wpAny_rule ?_); show Seg _ S _ _ _ s₀ _ ((standAt iter.pos >>= _).wrap _ _ _ _) [] s; exact seg_bind_wrap (wpAny_standAt (seg_bind_wrap (T.self _ 0 s _ _ st (seg_again rfl loop)))))
end
theorem call_all_own {prog : Program} {w : World} {A : Around} {a : Addr} {gi n : Nat} {tr : Nat → Bool} {s : Shared} {Q : Value → Shared → Prop} {E : Value → Shared → Prop} (hg : s.heap.IsGen a gi) (St : Nat → Shared → Prop) (Fin : Shared → Prop)
    (item : ∀ i s (Q : Option Value → Shared → Prop) (E : Value → Shared → Prop), i < n → St i s → (∀ s', St (i + 1) s' → Q (some (.bool (tr i))) s') → wpAny (model prog w) A.in1 (pyNext (.ref a)) Q E s)
    (done : ∀ s (Q : Option Value → Shared → Prop) (E : Value → Shared → Prop), St n s → (∀ s', Fin s' → Q none s') → wpAny (model prog w) A.in1 (pyNext (.ref a)) Q E s) (fin : ∀ i s, 0 < i → i ≤ n → St i s → Fin s)
    (h0 : St 0 s) (hQ : ∀ s', Fin s' → Q (.bool ((List.range n).all tr)) s') : wpAny (model prog w) A (call (.builtin "all") [.ref a]) Q E s := by
  refine call_function_tree F.kind_all F.plain_all F.entry_all (F.args_all1 _) ?_
  unfold Builtin.«all»
  refine wpAny_bind (m := oneArg "all" _) (wpAny_pure ?_)
  refine wpAny_bind (wpAny_pyIter_gen hg ?_)
  exact wpAny_pure ⟨plainId_quiet F.plain_all_loop _, all_loop St Fin item done fin n 0 s rfl (Nat.zero_le _) h0 fun s' hm => by simpa using hQ s' hm⟩
/-- a generator that is ready: n answers tr, from the state it stands in -/
def ReadyG (X : Cx) (pins : List (Addr × Obj)) (σ : L2.St) (n : Nat) (tr : Nat → Bool) (Pv : Nat → Hp → Prop) (a : Addr) (s5 : Shared) : Prop :=
  ∃ (gi : Nat) (St : Nat → Shared → Prop) (Fin : Shared → Prop), s5.heap.IsGen a gi ∧ St 0 s5 ∧
    (∀ i s (Q : Option Value → Shared → Prop) (E : Value → Shared → Prop), i < n → St i s → (∀ s', St (i + 1) s' → Q (some (.bool (tr i))) s') → wpAny (model X.prog X.w) X.A.in1 (pyNext (.ref a)) Q E s) ∧
    (∀ s (Q : Option Value → Shared → Prop) (E : Value → Shared → Prop), St n s → (∀ s', Fin s' → Q none s') → wpAny (model X.prog X.w) X.A.in1 (pyNext (.ref a)) Q E s) ∧
    (∀ i s, 0 < i → i ≤ n → St i s → Fin s) ∧ ∀ s', Fin s' → ∃ i H2, ((0 < i ∨ i = n) ∧ i ≤ n) ∧ Pv i H2 ∧ Inv X pins σ H2 s'
/-- the names of the generator's frame: own ones, taken ones with their places in the def -/
def gxSl (σ : L2.St) (sl : List (Option Nat)) : L2.St := sl.map fun o => match o with
  | none => none
  | some j => (σ[j]?).join
structure GxN (X : Cx) (scope : Scope) (N : List Str) (sl : List (Option Nat)) : Prop where
  len : sl.length = N.length
  ok : ∀ i j : Nat, sl[i]? = some (some j) → ∃ y : Str, N[i]? = some y ∧ scope.names.lookup y = some .free ∧ X.N[j]? = some y ∧ (X.env.kindOf y = some .cell ∨ X.env.kindOf y = some .free)
theorem GxN.free {X : Cx} {scope : Scope} {N : List Str} {sl : List (Option Nat)} (h : GxN X scope N sl) (σ : L2.St) : FreeOk X σ scope N (gxSl σ sl) := by
  intro i y v h1 h2
  unfold gxSl at h2
  rw [List.getElem?_map] at h2
  cases q : sl[i]? with
  | none => rw [q] at h2; cases h2
  | some o =>
    rw [q] at h2
    cases o with
    | none => cases h2
    | some j =>
      obtain ⟨y', e1, e2, e3, e4⟩ := h.ok i j q
      rw [h1] at e1
      cases e1
      refine ⟨e2, j, e3, ?_, e4⟩
      have h3 : (σ[j]?).join = some v := Option.some.inj h2
      cases q2 : σ[j]? with
      | none => rw [q2] at h3; cases h3
      | some u => rw [q2] at h3; rw [show u = some v from h3]
theorem gxSl_len {σ : L2.St} {sl : List (Option Nat)} : (gxSl σ sl).length = sl.length := by simp [gxSl]
/-- the table at P has the code that belongs to gp -/
def WarmAt (H : Hp) (P : Addr) (gp : Pos) : Prop := ∃ ps : Array Value, H P = some (.tbl ps) ∧ TriplesOk ps.toList ∧ ∃ cv, codeAmong gp ps.toList = some cv
def TabbedW (P : Addr) (gp : Pos) (H H' : Hp) : Prop := WarmAt H' P gp ∧ (∀ b, b ≠ P → H' b = H b) ∧ (WarmAt H P gp → H' = H)
theorem upd_self {H : Hp} {P : Addr} {o : HO} (h : H P = some o) : upd H P o = H := by
  funext b
  by_cases hb : b = P
  · rw [hb, upd_same, h]
  · rw [upd_ne hb]
def tAllG (P0 : Addr) (gp : Pos) (sl : List (Option Nat)) (wi : TI) (g : TG) (te : TE) : TE := fun σ H Q => wi σ H fun J H1 => GxR.TabG H1 P0 ∧ ∃ (n : Nat) (Sl : L2.St → Prop) (Pv : Nat → Hp → Prop) (tr : Nat → Bool),
  Sl (gxSl σ sl) ∧ (∀ H2, TabbedW P0 gp H1 H2 → Pv 0 H2) ∧ (∀ H, Pv n H → J.stop n H) ∧ (∀ i H, i < n → Pv i H → J.go i H) ∧
  (∀ i σ H u H', i < n → Sl σ → Pv i H → J.yld i H u H' → g u σ H' fun σ2 H2 => Sl σ2 ∧ te σ2 H2 fun y H3 => y = .bl (tr i) ∧ Pv (i + 1) H3) ∧
  ∀ i H, ((0 < i ∨ i = n) ∧ i ≤ n) → Pv i H → Q (.bl ((List.range n).all tr)) H
structure GenS0 (env : Env) (scope : Scope) (x : Str) : Prop where
  kind : scope.kind = .function
  co : scope.isCoroutine = false
  cell : ∀ y ∈ scope.names, y.2 ≠ .cell
  dot : scope.names.lookup (".0" : Str) = some NameKind.local
  loc : scope.names.lookup x = some .local
  free : ∀ y ∈ scope.names, y.2 = .free → env.scope.names.lookup y.1 = some .cell ∨ env.scope.names.lookup y.1 = some .free
theorem GenS0.to {env : Env} {scope : Scope} {x : Str} (h : GenS0 env scope x) (has : ∀ y, (env.kindOf y = some .cell ∨ env.kindOf y = some .free) → ∃ c, env.cells.lookup y = some c) : GxR.GenS env scope x :=
  ⟨h.kind, h.co, h.cell, h.dot, h.loc, fun y hy e => has y.1 (h.free y hy e)⟩
def gsC (sc scope : Scope) (x : Str) : Bool := (match scope.kind with | .function => true | _ => false) && !scope.isCoroutine && (scope.names.all fun y => decide (y.2 ≠ .cell)) && decide (scope.names.lookup (".0" : Str) = some NameKind.local) && decide (scope.names.lookup x = some .local) &&
  (scope.names.all fun y => !decide (y.2 = .free) || decide (sc.names.lookup y.1 = some .cell) || decide (sc.names.lookup y.1 = some .free))
theorem gs_by {env : Env} {sc scope : Scope} {x : Str} (h : gsC sc scope x = true) (he : env.scope = sc := by rfl) : GenS0 env scope x := by
  subst he
  unfold gsC at h
  simp only [Bool.and_eq_true, List.all_eq_true, decide_eq_true_eq, Bool.or_eq_true, Bool.not_eq_true', decide_eq_false_iff_not] at h
  obtain ⟨⟨⟨⟨⟨h1, h2⟩, h3⟩, h4⟩, h5⟩, h6⟩ := h
  refine ⟨?_, h2, h3, h4, h5, fun y hy e => ?_⟩
  · split at h1
    · assumption
    · cases h1
  · rcases h6 y hy with (z | z) | z
    · exact absurd e z
    · exact .inl z
    · exact .inr z
def gnC (XN : List Str) (sc scope : Scope) (N : List Str) (sl : List (Option Nat)) : Bool := decide (sl.length = N.length) && (List.range sl.length).all fun i => match sl[i]? with
  | some (some j) => (match N[i]? with
    | some y => decide (scope.names.lookup y = some .free) && decide (XN[j]? = some y) && (decide (sc.names.lookup y = some .cell) || decide (sc.names.lookup y = some .free))
    | none => false)
  | _ => true
theorem gn_by {X : Cx} {scope : Scope} {N : List Str} {sl : List (Option Nat)} {XN : List Str} {sc : Scope} (h : gnC XN sc scope N sl = true) (hn : X.N = XN := by rfl) (he : X.env.scope = sc := by rfl) : GxN X scope N sl := by
  subst hn he
  unfold gnC at h
  simp only [Bool.and_eq_true, List.all_eq_true, decide_eq_true_eq] at h
  obtain ⟨h1, h2⟩ := h
  refine ⟨h1, fun i j e => ?_⟩
  have q := h2 i (List.mem_range.mpr (List.getElem?_eq_some_iff.mp e).1)
  simp only [e] at q
  cases hn : N[i]? with
  | none => rw [hn] at q; cases q
  | some y =>
    rw [hn] at q
    simp only [Bool.and_eq_true, Bool.or_eq_true, decide_eq_true_eq] at q
    exact ⟨y, rfl, q.1.1, q.1.2, q.2⟩
theorem frames_gx {A : Around} {c : Code} {env : Env} {st : List Env} (h : A.frames = some st) (hc : c.envs = [env]) : (A.over c []).frames = some (env :: st) := by
  show pushEnvs c.envs (pushEnvs (envsOf []) A.frames) = _
  rw [hc, h]
  rfl
section
variable {X : Cx} {pins : List (Addr × Obj)} {σ : L2.St} {H : Hp} {s : Shared}
theorem gen_gx {c P0 : Addr} {elt iter : Expr} {x : Str} {px gpos : Pos} {scope : Scope} {N : List Str} {sl : List (Option Nat)} {k : Nat} {wi : TI} {g : TG} {te : TE} {Q : VK} {Q' : Value → Shared → Prop}
    (hr : Room (k + 1) X.A) (TB : GxR.TabB X.base X.mg c P0) (hcode : X.env.code = .ref c) (S0 : GenS0 X.env scope x) (hN : GxN X scope N sl) (hi : PI X (.Name x px) iter wi)
    (hG : ∀ cl C code fp pn A s H, PG (gxY X N scope cl C code fp pn A s H) (.Name x px) g) (he : ∀ cl C code fp pn A s H, Room k A → PE (gxY X N scope cl C code fp pn A s H) elt te)
    (hs : ∀ v, genFold iter X.env v = pure v) (I : Inv X pins σ H s) (h : tAllG P0 gpos sl wi g te σ H Q)
    (hQ : ∀ n tr Pv a s5, (∀ i H, ((0 < i ∨ i = n) ∧ i ≤ n) → Pv i H → Q (.bl ((List.range n).all tr)) H) → ReadyG X pins σ n tr Pv a s5 → Q' (.ref a) s5) :
    wpAny (model X.prog X.w) X.A (eval (.GeneratorExp elt [⟨.Name x px, iter, [], 0⟩] scope gpos) X.env) Q' X.xe s := by
  have S : GxR.GenS X.env scope x := S0.to I.ok.has
  refine wpAny_GeneratorExp_make S.co (closure_ok S.free) S.cell S.dot S.kind (by have := hr.dp; omega) ?_ hs
  refine thn (hi.run pins s σ H _ I h) fun xv s1 h1 => ?_
  refine wpAny_mono h1 (fun itv s2 hp => ?_) fun _ _ e => e
  obtain ⟨it, fp, tn, J, H', rfl, I2, T, st0, hfp, ⟨ps, hP, ht⟩, n, Sl, Pv, tr, hSl, h0, hstop, hgo, hturn, hfin⟩ := hp
  have hPs : s2.heap.get? P0 = some { cls := .none, data := .fields ps } := I2.hok P0 _ hP
  have hPlt : P0 < s2.heap.objs.size := Heap.lt_size hPs
  have cd : PySem.W.CodeHd s2.heap c P0 := TB.code.keeps fun b u e => I2.bk b u e
  have fpP : ∀ b ∈ fp, b ≠ P0 := fun b hb z => by
    have := (hfp b hb).1
    rw [z, hP] at this
    cases this
  refine ⟨I2.nolimit, ?_⟩
  have cont : ∀ (code : Value) (h3 : Heap) (tk : Nat) (ps' : Array Value), Heap.ExtBut P0 s2.heap h3 → h3.get? P0 = some { cls := .none, data := .fields ps' } → (∃ more, ps' = ps ++ more ∧ ∀ cv, codeAmong gpos ps.toList = some cv → more = #[]) → TriplesOk ps'.toList → (∃ cv, codeAmong gpos ps'.toList = some cv) →
      wpAny (model X.prog X.w) X.A (builtinsFor X.env.globals X.env.builtins) (fun bi s₄ => ∀ h', h'.Ns s₄.heap.objs.size (fun y => if y = ".0" then some (.ref it) else none) → Heap.SameBut s₄.heap.objs.size (s₄.heap.push { cls := .type "frame", data := .dict #[] }) h' →
          Q' (.ref h'.objs.size) { s₄ with
            gens := s₄.gens.push (.fresh (.compStart (.GeneratorExp elt [⟨.Name x px, iter, [], 0⟩] scope gpos) 0 (.ref it) .none (genEnv scope (cloFrom X.env.cells scope.names []) s₄.heap.objs.size code bi X.env))),
            toks := s₄.toks + 1 + 1 + 1,
            heap := h'.push { cls := .type "generator", data := .fields #[.int s₄.gens.size 0, .str "<genexpr>" (s₄.toks + 1), .str (X.env.qual ++ "<genexpr>") (s₄.toks + 1 + 1)] } }) X.xe { s2 with heap := h3, toks := tk } := by
    intro code h3 tk ps' hx hP3 hmore ht3 hcv
    obtain ⟨bm, ob, e1, e2, e3, e4, e5, e6, e7, e8⟩ := TB.bm
    have keep3 : ∀ b u, b ≠ P0 → s2.heap.get? b = some u → h3.get? b = some u := fun b u hb e => hx b u hb e
    refine wpAny_builtinsFor (m := X.mg) (by rw [I2.ok.glob]; exact (I2.mod.glob.keeps I2.bk).extBut hx TB.gP) e1 e2 (keep3 _ _ e4 (I2.bk _ _ e5)) e6 e7 e8 ?_
    intro h' hn' hs'
    obtain ⟨more, rfl, hsame⟩ := hmore
    have hpv : Pv 0 (upd H' P0 (.tbl (ps ++ more))) := h0 _ ⟨⟨_, upd_same, ht3, hcv⟩, fun b hb => upd_ne hb, fun hw => by
      obtain ⟨ps1, w1, _, cv, w3⟩ := hw
      rw [hP] at w1
      cases w1
      rw [hsame cv w3, Array.append_empty]
      exact upd_self hP⟩
    -- behind the table
    have I4 : Inv X pins σ (upd H' P0 (.tbl (ps ++ more))) { s2 with heap := h3, toks := tk } := GxR.inv_tab (g' := s2.gens) (d' := s2.drawn) I2 hP keep3 hP3 I2.bare
    have hfp4 : ∀ b ∈ fp, FpOk X pins (upd H' P0 (.tbl (ps ++ more))) b ∧ b < h3.objs.size := fun b hb => by
      obtain ⟨f1, f2, f3, f4, f5, f6⟩ := hfp b hb
      obtain ⟨o, e, _⟩ := T.obj _ _ st0 b hb
      exact ⟨⟨by rw [upd_ne (fpP b hb)]; exact f1, f2, f3, f4, f5, f6⟩, Heap.lt_size (keep3 b o (fpP b hb) e)⟩
    have hsz : h'.objs.size = h3.objs.size + 1 := by rw [hs'.1, Heap.size_push]
    have keep' : ∀ b o, h3.get? b = some o → h'.get? b = some o := fun b o e => hs'.extBut b o (Nat.ne_of_lt (Heap.lt_size e)) (Heap.get?_push_of_some _ e)
    generalize hgo' : ({ cls := .type "generator", data := .fields #[.int s2.gens.size 0, .str "<genexpr>" (tk + 1), .str (X.env.qual ++ "<genexpr>") (tk + 1 + 1)] } : Obj) = go
    have hgoc : ∀ v, go.data ≠ .cell v := fun v z => by
      rw [← hgo'] at z
      cases z
    have hgf : go.isFreed = false := by rw [← hgo']; rfl
    have keep5 : ∀ b o, h3.get? b = some o → (h'.push go).get? b = some o := fun b o e => Heap.get?_push_of_some _ (keep' b o e)
    have hga : (h'.push go).get? h'.objs.size = some go := Heap.get?_push_size _ hgf
    let env : Env := genEnv scope (cloFrom X.env.cells scope.names []) h3.objs.size code builtinsNs X.env
    let AY : Around := X.A.in1.in1.over (.compLoop (.GeneratorExp elt [⟨.Name x px, iter, [], 0⟩] scope gpos) 0 (.ref it) .none env) []
    have hAd : AY.handled = none := hr.hd
    have hAf : AY.frames = some (env :: X.stack) := frames_gx (A := X.A.in1.in1) I2.ok.frames rfl
    have start : ∀ s'' : Shared, s''.heap = h'.push go → s''.os = s2.os → AllBare s''.gens → Inv (gxY X N scope (cloFrom X.env.cells scope.names []) h3.objs.size code fp [(h'.objs.size, go)] AY { s2 with heap := h3, toks := tk } (upd H' P0 (.tbl (ps ++ more)))) [] (gxSl σ sl) (upd H' P0 (.tbl (ps ++ more))) s'' := fun s'' q1 q2 q3 =>
      gx_start I4 S hfp4 hAd hAf (fun b o e => by rw [q1]; exact keep5 b o e) q2 q3 (by rw [q1]; exact hn'.push _) (by rw [q1]; exact hga) (by show h3.objs.size < h'.objs.size; omega) hgoc (gxSl_len.trans hN.len) (hN.free σ)
    have hst : ∀ H, (∀ b ∈ fp, H b = none) → ∀ b ∈ fp, FpOk (gxY X N scope (cloFrom X.env.cells scope.names []) h3.objs.size code fp [(h'.objs.size, go)] AY { s2 with heap := h3, toks := tk } (upd H' P0 (.tbl (ps ++ more)))) [] H b := fun H hH b hb => by
      have I5 := start { s2 with heap := h'.push go } rfl rfl I2.bare
      refine ⟨hH b hb, (I5.ok.exf b hb).1, I5.ok.exfs b hb, .inl hb, fun y c h z => (I5.ok.exf b hb).2 y c h z, fun p hp z => ?_⟩
      have hp : p = (h'.objs.size, go) := by simpa [gxY] using hp
      rw [hp] at z
      have := (hfp4 b hb).2
      have z : b = h'.objs.size := Eq.symm z
      have l1 : b < h3.objs.size := this
      rw [z, hsz] at l1
      exact absurd l1 (Nat.not_lt_of_ge (Nat.le_succ _))
    have hRoom : Room k AY := ⟨hAd, by have := hr.dp; show X.A.depth + 0 + 1 + 3 * k + 5 < recursionLimit; omega, by have := hr.un; show X.A.units + 1 + 1 + 0 + 3 + 16 * k + 200 < cLine; omega⟩
    refine hQ n tr Pv h'.objs.size _ hfin ⟨s2.gens.size, gxSt X.A.in1.in1 (gxY X N scope (cloFrom X.env.cells scope.names []) h3.objs.size code fp [(h'.objs.size, go)] AY { s2 with heap := h3, toks := tk } (upd H' P0 (.tbl (ps ++ more)))) [] fp tn Sl Pv n tr h'.objs.size s2.gens.size, gxFin (gxY X N scope (cloFrom X.env.cells scope.names []) h3.objs.size code fp [(h'.objs.size, go)] AY { s2 with heap := h3, toks := tk } (upd H' P0 (.tbl (ps ++ more)))) [] Pv n, ?_, ?_, ?_, ?_, ?_, ?_⟩
    · exact ⟨go, _, _, hga, by rw [← hgo'], by rw [← hgo'], by rw [← hgo']⟩
    · refine ⟨⟨go, _, _, hga, by rw [← hgo'], by rw [← hgo'], by rw [← hgo']⟩, by simp, ⟨_, _, hpv, start _ rfl rfl ?_⟩, _, Array.getElem?_push_size .., fun s'' q1 q2 q3 => ⟨rfl, ?_⟩⟩
      · exact I2.bare.push rfl
      · exact seg_gx0 (Y := (gxY X N scope (cloFrom X.env.cells scope.names []) h3.objs.size code fp [(h'.objs.size, go)] AY { s2 with heap := h3, toks := tk } (upd H' P0 (.tbl (ps ++ more))))) rfl rfl rfl rfl rfl rfl rfl S.co T hst (hG _ _ _ _ _ _ _ _) (he _ _ _ _ _ _ _ _ hRoom) hstop hgo hturn _ s'' ⟨gxSl σ sl, _, hSl, hpv, start s'' q1 q2 q3, T.keep _ _ _ st0 fun b hb o e => by rw [q1]; exact keep5 b o (keep3 b o (fpP b hb) e), fun b hb => (hfp4 b hb).1.1⟩
    · exact fun i s Q E hi st hQ => gx_item (Y := (gxY X N scope (cloFrom X.env.cells scope.names []) h3.objs.size code fp [(h'.objs.size, go)] AY { s2 with heap := h3, toks := tk } (upd H' P0 (.tbl (ps ++ more))))) hr.hd (by have := hr.dp; show X.A.depth < recursionLimit; omega) (List.mem_singleton.mpr rfl) hi st hQ
    · exact fun s Q E st hQ => gx_done (Y := (gxY X N scope (cloFrom X.env.cells scope.names []) h3.objs.size code fp [(h'.objs.size, go)] AY { s2 with heap := h3, toks := tk } (upd H' P0 (.tbl (ps ++ more))))) hr.hd (by have := hr.dp; show X.A.depth < recursionLimit; omega) st hQ
    · exact fun i s h0 hi ⟨_, _, ⟨σ, H, pv, I⟩, _⟩ => ⟨i, σ, H, ⟨.inl h0, hi⟩, pv, I⟩
    · rintro s' ⟨i, σ5, H5, hi, pv, I5⟩
      refine ⟨i, H5, hi, pv, I4.call' (ch := fp) I5.os I5.base I5.hok I5.bare fun b hb => ?_⟩
      obtain ⟨f1, f2, f3, f4, f5, f6⟩ := hfp b hb
      exact ⟨f4, f2, f5, f6⟩
  cases hf : codeAmong gpos ps.toList with
  | none =>
    refine wpAny_genexprCodeX hcode (cd.code hPs ht) (cd.tab hPs) hf fun c' h' tk hx hge hlt hco' _ htab' _ => ?_
    obtain ⟨o1, vs, f1, tf, fl, tg, inF, tx, tt, op, _, _, _, _, _, _, _, _, _, htr, _⟩ := hco'
    exact cont _ h' tk _ hx htab'.2 ⟨_, rfl, fun cv z => by rw [hf] at z; cases z⟩ htr ⟨_, by rw [Array.toList_append]; exact codeAmong_snoc _ ht hf⟩
  | some cv =>
    refine wpAny_genexprCode_hit hcode (cd.code hPs ht) hf ?_
    exact cont cv s2.heap s2.toks ps (Heap.ExtBut.refl _ _) hPs ⟨#[], by simp, fun _ _ => rfl⟩ ht ⟨cv, hf⟩
theorem pe_allG {c P0 : Addr} {elt iter : Expr} {x : Str} {px p pos gpos : Pos} {scope : Scope} {N : List Str} {sl : List (Option Nat)} {k : Nat} {wi : TI} {g : TG} {te : TE}
    (hr : Room (k + 1) X.A) (hg : Gl X "all") (hm : X.mg "all" = none) (hb : bootBuiltins "all" = some (.builtin "all")) (TB : GxR.TabB X.base X.mg c P0) (hcode : X.env.code = .ref c) (S0 : GenS0 X.env scope x) (hN : GxN X scope N sl) (hi : PI X (.Name x px) iter wi)
    (hG : ∀ cl C code fp pn A s H, PG (gxY X N scope cl C code fp pn A s H) (.Name x px) g) (he : ∀ cl C code fp pn A s H, Room k A → PE (gxY X N scope cl C code fp pn A s H) elt te)
    (hs : ∀ v, genFold iter X.env v = pure v)
    (hst : starEach [.GeneratorExp elt [⟨.Name x px, iter, [], 0⟩] scope gpos] X.env = (false, eval (.GeneratorExp elt [⟨.Name x px, iter, [], 0⟩] scope gpos) X.env) :: starEach [] X.env := by rfl) :
    PE X (.Call (.Name "all" p) [.GeneratorExp elt [⟨.Name x px, iter, [], 0⟩] scope gpos] [] pos) (tAllG P0 gpos sl wi g te) := by
  refine ⟨fun pins s σ H Q I h => ?_⟩
  refine wpAny_Call_Name_kw (ld_blt I hg hm hb ?_)
  refine PyProof.Rows.callWith_builtin1 ?_ hst (by rfl)
  rw [hst]
  show wpAny _ _ (spliced ((false, eval (.GeneratorExp elt [⟨.Name x px, iter, [], 0⟩] scope gpos) X.env) :: backTo pos (starEach [] X.env))) _ _ s
  refine Calls.spliced_cons (gen_gx hr TB hcode S0 hN hi hG he hs I h fun n tr Pv a s5 hfin hG5 => ?_)
  obtain ⟨gi, St, Fin, hgen, st0, item, done, fin, hF⟩ := hG5
  refine Calls.spliced_nil ?_
  refine call_all_own hgen St Fin item done fin st0 fun s' hf => ?_
  obtain ⟨i, H2, hi, pv, J⟩ := hF s' hf
  exact ⟨.bl _, H2, J, rfl, hfin i H2 hi pv⟩
end
end OA

namespace OA
open PySem PySem.Spec PyProof.Rows L2
/-! a def whose code object is known; where a generator stands in a def -/
theorem okC {P : Program} {w : World} {K : PySem.W.Frag} {mg : Str → Option Value} {base : Heap} {x qual : Str} {st : Stmt} {f c : Addr} {fd : FuncData} {N ps : List Str} {k : Nat} {sp : Sp} (F : Fun K x qual st f fd) (hc : fd.code = .ref c) (S : FnScope N ps (defScope st)) (len : ∀ vs H Q E, sp vs H Q E → vs.length = ps.length)
    (hbody : ∀ (cdv : Value) (A : Around) (outer : List Env) (s : Shared) (H : Hp) (vs : List V) (Q : VK) (E : XK), cdv = .ref c → Room k (A.deeper (envOfC qual (defScope st) s.heap.objs.size f cdv)) → sp vs H Q E →
      ∃ t, PSs (cxOf CX0 P w K mg base N qual (defScope st) f cdv A outer s H E).nox (defBody st) t ∧ t { nx := fun _ H' => Q .non H', rt := Q } (start N vs) H) : FnOk P w K mg base CX0 (k + 1) f fd ps sp := by
  obtain ⟨oc, od, kV, doc, pm, an, cdv, ct, osl, rfl, lk, hcd⟩ := F.ex
  refine fn_of lk hcd S len fun A outer s H vs Q E hr hsp => ?_
  obtain ⟨t, h, q⟩ := hbody cdv A outer s H vs Q E hc hr hsp
  exact ⟨t, h.nox, q⟩
def gpE : Expr → Option Pos
  | .Call _ [.GeneratorExp _ _ _ g] _ _ => some g
  | .UnaryOp _ e _ => gpE e
  | _ => none
def gpS : List Stmt → Option Pos
  | [] => none
  | .Return (some e) _ :: r => (match gpE e with
    | some g => some g
    | none => gpS r)
  | .If e _ _ _ :: r => (match gpE e with
    | some g => some g
    | none => gpS r)
  | _ :: r => gpS r
def gpOf (st : Stmt) : Pos := (gpS (defBody st)).getD ⟨0, 0, 0, 0⟩
end OA

namespace OA
open PySem L2
local macro_rules
  | `(tactic| simp! [$a,*]) => `(tactic| simp -implicitDefEqProofs only [wNeD0, wRep, tDNewK, vDc, wSortDI, dkR_e, dkR_f, e_cut, wSetL, vLstRg, wLstD, e_lock, vVals, gSub, tCKw, frzO_e, viItems, viKeys, vRev, e_while, e_for, e_asgG, gName, vgTup, vgCons_e, vgNil_e, viList, viTup, viStr, viR1, viEnum, vLc, tYes, wipe, e_seq, e_next, e_drop, e_ret, e_retN, e_sfld, e_augI, e_aug, e_dput, vIf, vTest, wInT, vVar, vFld, tC, tOp, tUn, wI0, wIC, rEq, rNe, scal, wAddS, wMulS, wCat, wNeg, wIxL, wIxT, wIxS, vPart, tNoPart, tSl, wSlL, tCB, tCons, tNil, len_s, wTupL, wLstL, wAbs, wIntB, wMin2, wMax2, vAnd, vOr, vNot, vChain, vMeth, vCall, vMake, vLM0, vLM, isLst, wAppend, wPopAt, wInsert0, vStar, vDGet, vDIn, vDNotIn, tTup, tLst, tIf, tAnd, tOr, tNot, refR_e, intR_e, blR_e, strR_e, optR_e, keyR_i, keyR_s, insO_e, lstO_e, tupO_e, tupO_f, dkO_e, one1_e, two2_e, len_r, lenO_l, lenO_t, lenO_f, lenO_d, L2.start, List.map, List.replicate, List.length_cons, List.length_nil, List.cons_append, List.nil_append, List.append_nil, List.getElem?_cons_zero, List.getElem?_cons_succ, List.set_cons_zero, List.set_cons_succ, true_and, and_true, cx_K, cx_prog, cx_w, blkK, Int.toNat_natCast, upd_same, upd_upd, if_true, if_false, decide_eq_true_eq, reduceCtorEq, reduceIte, Bool.false_eq_true, decide_true, decide_false, Bool.true_and, Bool.false_and, Bool.and_true, Bool.and_false, Bool.not_true, Bool.not_false, V.int.injEq, V.str.injEq, V.bl.injEq, putF_nil, Nat.reduceAdd, Nat.reduceSub, Nat.reduceLT, Int.reduceEq, Int.reduceLT, Int.reduceLE, Int.reduceAdd, Int.reduceSub, Int.cast_ofNat_Int, wIsi, tyR_e, tyO_l, tyO_t, tyO_f, tyO_d, tyN_n, tyN_b, tyN_i, tyN_s, tyN_r, kit_NoneType_bool, kit_NoneType_int, kit_NoneType_str, kit_NoneType_list, kit_NoneType_tuple, kit_NoneType_dict, kit_bool_bool, kit_bool_int, kit_bool_str, kit_bool_list, kit_bool_tuple, kit_bool_dict, kit_int_bool, kit_int_int, kit_int_str, kit_int_list, kit_int_tuple, kit_int_dict, kit_str_bool, kit_str_int, kit_str_str, kit_str_list, kit_str_tuple, kit_str_dict, kit_list_bool, kit_list_int, kit_list_str, kit_list_list, kit_list_tuple, kit_list_dict, kit_tuple_bool, kit_tuple_int, kit_tuple_str, kit_tuple_list, kit_tuple_tuple, kit_tuple_dict, kit_dict_bool, kit_dict_int, kit_dict_str, kit_dict_list, kit_dict_tuple, kit_dict_dict, $a,*])
  | `(tactic| dsimp! [$a,*]) => `(tactic| ((try refine Later.mk ?_); simp! [$a,*]; repeat (refine Later.mk ?_; simp! [$a,*])))
section
variable {P : Program} {w : World} {K : PySem.W.Frag} {mg : Str → Option Value} {base : Heap} {A : Ad}
theorem sc__law_mixed : FnScope ["_law_d", "_law_row", "_law_left", "_law_found"] ["_law_d", "_law_row"] (defScope s__law_mixed) := ⟨rfl, rfl, rfl, by decide +kernel, rfl, by decide +kernel, by decide +kernel⟩
theorem ok__law_mixed (T : Txt K mg base A) : FnOk P w K mg base CX0 2 A._law_mixed A.d__law_mixed ["_law_d", "_law_row"] (spMixed A) := by
  refine T.F__law_mixed.ok sc__law_mixed (fun vs H Q E h => ?_) (fun cdv A' outer s H vs Q E hr h => ?_)
  · obtain ⟨d, r, ns, rfl, _⟩ := h
    rfl
  obtain ⟨d, r, ns, rfl, hD, hr0, hl, kk⟩ := h
  have hu := hu_of hr
  refine ⟨_, (qs_cons (ps_set (i := 2) sc__law_mixed.nd rfl (Or.inl rfl) (pe_callTy c_lstL (by rfl) T.m_list (by decide +kernel) (pa_cons (qv 1) pa_nil)))
    (qs_cons (ps_set (i := 3) sc__law_mixed.nd rfl (Or.inl rfl) (pe_lst pa_nil))
    (qs_cons (q_while PassesOwn.never (q_cmp (o_neLI hr.units) (qv 2) (pe_lst pa_nil) (nomark _)) (pss_one (ps_expr (lm1 PySem.F.slot_list_append PySem.F.type_list_append m_append (qv 3) (pa_cons (lm1 PySem.F.slot_list_pop PySem.F.type_list_pop m_popAt (qv 2) (pa_cons (q_call (ok__law_off T) (hr.mono (by decide)) rfl T.g__law_off T.k__law_off T.b__law_off pass0 (pa_cons (qv 0) (pa_cons (pe_callB c_len (by rfl) T.m_len (by decide +kernel) (pa_cons (qv 2) pa_nil)) pa_nil))) pa_nil)) pa_nil)))))
    (pss_one (ps_ret (qv 3)))))), ?_⟩
  dsimp! [hr0]
  intro l hl0
  obtain ⟨od, hdo⟩ := hD.some
  have ndl : d ≠ l := ne_of_none hdo hl0
  have s1 : Same H (upd H l (.lst (ns.map V.int))) := Same.new hl0
  have hl1 : (upd H l (.lst (ns.map V.int))) l = some (.lst (ns.map V.int)) := upd_same
  have D1 := hD.same s1
  generalize upd H l (.lst (ns.map V.int)) = H1 at *
  dsimp! []
  refine ⟨by decide, fun f hf => ?_⟩
  have hf0 : H f = none := Same.back s1 _ hf
  have nlf : l ≠ f := ne_of_none hl1 hf
  have ndf : d ≠ f := ne_of_none hdo hf0
  dsimp! []
  refine ⟨fun m σ H2 => ∃ ls ms : List Int, m = ls.length ∧ σ = [some (.ref d), some (.ref r), some (.ref l), some (.ref f)] ∧ KeptD d H H2 ∧ DrawAt H2 d ∧ H2 l = some (.lst (ls.map V.int)) ∧ H2 f = some (.lst (ms.map V.int)) ∧ (ms ++ ls).Perm ns, ns.length, ?_, ?_⟩
  · exact ⟨ns, [], rfl, rfl, fun b o e n => by rw [upd_ne (ne_of_none e hf0)]; exact s1 _ _ e, D1.put ndf, by rw [upd_ne nlf]; exact hl1, upd_same, List.Perm.refl _⟩
  · rintro m σ H2 ⟨ls, ms, rfl, rfl, k2, D2, hl2, hf2, pm⟩
    have hlen := pm.length_eq
    rw [List.length_append] at hlen
    simp! []
    refine ⟨by decide, fun e he => ?_⟩
    have s3 : Same H2 (upd H2 e (.lst [])) := Same.new he
    have he0 : H e = none := k2.back (fun h => by
      obtain ⟨o, q⟩ := D2.some
      rw [← h, he] at q
      cases q) he
    refine ⟨l, e, ls, [], rfl, rfl, s3 _ _ hl2, upd_same, ?_⟩
    have k3 : KeptD d H (upd H2 e (.lst [])) := k2.trans (KeptD.same s3)
    have D3 := D2.same s3
    have hl3 := s3 _ _ hl2
    have hf3 := s3 _ _ hf2
    generalize upd H2 e (.lst []) = H3 at *
    cases ls with
    | nil =>
      dsimp! []
      exact kk f ms H3 hf0 k3 D3 hf3 (by simpa using pm)
    | cons z ls =>
      simp! []
      refine Later.mk ?_
      simp! [hf3, hl3]
      rw [List.length_map]
      refine ⟨d, ls.length + 1, rfl, D3, by omega, by simp at hlen; omega, fun x H4 hx k4 D4 => ?_⟩
      have hl4 := k4 _ _ hl3 ndl.symm
      have hf4 := k4 _ _ hf3 ndf.symm
      obtain ⟨v, hv⟩ : ∃ v, (z :: ls)[x]? = some v := ⟨_, List.getElem?_eq_getElem (by simpa using hx)⟩
      have hv' : ((z :: ls).map V.int)[x]? = some (.int v) := by rw [List.getElem?_map, hv]; rfl
      have fl : (upd H4 l (.lst (((z :: ls).map V.int).eraseIdx x))) f = some (.lst (ms.map V.int)) := by rw [upd_ne nlf.symm]; exact hf4
      have ex : ((z :: ls).map V.int).eraseIdx x = ((z :: ls).eraseIdx x).map V.int := by
        have gen : ∀ (ws : List Int) (j : Nat), (ws.map V.int).eraseIdx j = (ws.eraseIdx j).map V.int := fun ws => by
          induction ws with
          | nil => intro j; rfl
          | cons a ws ih =>
            intro j
            cases j with
            | zero => rfl
            | succ j => simp [ih j]
        exact gen _ _
      have hl4' : H4 l = some (.lst ((z :: ls).map V.int)) := hl4
      have xn : ((x : Int)).toNat = x := rfl
      generalize (z :: ls).map V.int = XS at hl4' hv' fl ex
      simp! [hl4', hv', xn, fl]
      have lp : ((z :: ls).eraseIdx x).length = ls.length := by
        rw [List.length_eraseIdx]
        simp at hx ⊢
        omega
      refine ⟨⟨by omega, by simp at hlen; omega⟩, by rw [List.length_map, sizeLine_eq]; simp at hlen; omega, ls.length, by omega, (z :: ls).eraseIdx x, ms ++ [v], lp.symm, fun b o e n => ?_, ?_, ?_, ?_, ?_⟩
      · have h4 := k4 _ _ (k3 b o e n) n
        rw [upd_ne (ne_of_none e hf0), upd_ne (ne_of_none e hl0)]
        exact h4
      · exact (D4.put ndl).put ndf
      · rw [upd_ne nlf, upd_same, ex]
      · rw [List.map_append]
        rfl
      · refine List.Perm.trans ?_ pm
        rw [List.append_assoc]
        refine List.Perm.append_left ms ?_
        have hx' : x < (z :: ls).length := by simpa using hx
        have e1 : v = (z :: ls)[x] := by
          rw [List.getElem?_eq_getElem hx'] at hv
          exact (Option.some.inj hv).symm
        rw [e1]
        exact erase_perm _ _ hx'
end
end OA

namespace OA
open PySem PySem.Spec PyProof.Rows L2
/-! lists of fresh lists; zip; a tuple again and again -/
section
variable {K : PySem.W.Frag} {am : Am}
abbrev fresL (ps : List Addr) : Om := ps.map fun q => (q, OD.lst [])
def dLcN (ix : List Nat) (di : DI) (g : DG) (vs : List Nat) (Γ : Gm) (Ω : Om) (Q : DQ) : Prop := (∀ i ∈ ix, i ∈ vs) ∧ di Γ Ω fun ws Ω1 => ws.length < 1000 ∧ (∀ w ∈ ws, ∀ Ω2, g w (wipeG Γ vs) Ω2 fun _ Ω3 => Ω3 = Ω2) ∧
  ∀ (ps : List Addr) (p : Addr), ps.length = ws.length → (p :: ps).Nodup → (∀ q ∈ p :: ps, notin q Ω1) → Q (.pt p) ((p, .lst (ps.map .pt)) :: (fresL ps ++ Ω1))
instance (priority := 2000) s_lcN {wi : TI} {di : DI} {g : TG} {d : DG} {ix vs : List Nat} [s0 : SI K am wi di] [s1 : SG K am g d ix] : SE K am (ownE (vLc wi g tYes (ownE (tLst tNil)) vs)) (dLcN ix di d vs) := ⟨fun {c T σ Γ Ω H Q R} e ⟨hix, h⟩ k =>
  s0.run e h fun J H1 ws Ω1 T' G Y ⟨hl, hg, hz⟩ e1 hw hG hY => fun D hD => by
    obtain ⟨S, e2, back⟩ := e1.save
    have nD : notin D Ω1 := fun z => e1.noEx hD (.inr z)
    have e3 : DEnv K c (.v (.pt D) (.ref D) :: (S ++ (T' ++ T))) σ Γ ((D, .lst []) :: Ω1) (upd H1 D (.lst [])) := e2.own hD (e2.new hD) (.inl ⟨[], [], rfl, rfl, rfl⟩)
    have to' : ∀ {σ : L2.St} {Γ : Gm} {Ω : Om} {H : Hp}, DEnv K c (.v (.pt D) (.ref D) :: (S ++ (T' ++ T))) σ Γ Ω H → DEnv K c (T' ++ T) σ Γ Ω H := fun e => e.drop.drops
    refine ⟨ws.length, G, Y, fun i H => ∃ (ps : List Addr) (σ2 : L2.St) (Γ2 : Gm), ps.length = i ∧ DEnv K c (.v (.pt D) (.ref D) :: (S ++ (T' ++ T))) σ2 Γ2 ((D, .lst (ps.map .pt)) :: (fresL ps ++ Ω1)) H, hw, ⟨[], σ, Γ, rfl, e3⟩, fun i H _ ⟨ps, σ2, Γ2, _, e⟩ => hG _ _ _ _ (to' e), fun i x H H' hi ⟨ps, σ2, Γ2, pl, e⟩ y => ?_, fun H ⟨ps, σ2, Γ2, pl, e⟩ => ?_⟩
    · have eW : DEnv K c (.v (.pt D) (.ref D) :: (S ++ (T' ++ T))) (L2.wipe σ vs) (wipeG Γ vs) ((D, .lst (ps.map .pt)) :: (fresL ps ++ Ω1)) H := by
        have b1 := (back e.drop).wipe vs
        exact ⟨b1.len, b1.sl, e.tm, e.ob, e.nd, e.fr, e.el, e.frm, e.inv⟩
      obtain ⟨w, hw', e5⟩ := hY (.v (.pt D) (.ref D) :: S) i x _ _ _ H H' hi eW y
      refine s1.run e5.drop e5.hd (hg w (List.mem_of_getElem? hw') _) fun σ3 Γ3 Ω3 H3 z3 e6 hwp => ⟨by rw [hwp vs hix, wipe_wipe], ?_⟩
      have z3 : Ω3 = (D, .lst (ps.map .pt)) :: (fresL ps ++ Ω1) := z3
      subst z3
      refine ⟨Nat.zero_le _, fun q hq => ?_⟩
      have e7 := (e6.own hq (e6.new hq) (.inl ⟨[], [], rfl, rfl, rfl⟩)).perm (Ω' := (D, .lst (ps.map .pt)) :: (fresL (ps ++ [q]) ++ Ω1)) (by
        refine (List.Perm.swap _ _ _).trans (List.Perm.cons _ ?_)
        show ((q, OD.lst []) :: (fresL ps ++ Ω1)).Perm (fresL (ps ++ [q]) ++ Ω1)
        unfold fresL
        rw [List.map_append, List.append_assoc]
        exact List.perm_middle.symm)
      obtain ⟨vs', a1, a2⟩ := e7.ob (D, .lst (ps.map .pt)) List.mem_cons_self
      show lstO (upd H3 q (.lst []) D) _
      rw [a1]
      have e9 := e7.drop.putL (vs' := vs' ++ [.ref q]) (ws' := ps.map .pt ++ [.pt q]) look_hd (a2.app (.one e7.hd))
      have nd := e7.nd
      have nD2 : notin D (fresL (ps ++ [q]) ++ Ω1) := (List.nodup_cons.mp nd).1
      rw [put_hd nD2] at e9
      have pl2 : vs'.length = ps.length := by rw [← a2.len, List.length_map]
      refine ⟨by rw [pl2, sizeLine_eq]; omega, ps ++ [q], σ3, Γ3, by rw [List.length_append, pl]; rfl, ?_⟩
      rw [List.map_append]
      exact e9
    · have b1 := back e.drop
      have nd := e.nd
      obtain ⟨n1, n2⟩ := List.nodup_cons.mp nd
      have em : (fresL ps ++ Ω1).map (·.1) = ps ++ Ω1.map (·.1) := by
        rw [List.map_append]
        congr 1
        rw [List.map_map]
        exact List.map_id ps
      rw [em] at n1 n2
      obtain ⟨m1, m2, m3⟩ := List.nodup_append.mp n2
      refine k _ _ _ _ (hz ps D pl (List.nodup_cons.mpr ⟨fun z => n1 (List.mem_append_left _ z), m1⟩) fun q hq => ?_) ⟨b1.len, b1.sl, fun t ht => by
        rcases List.mem_cons.mp ht with rfl | ht
        · exact rfl
        · exact b1.drops.tm t ht, b1.ob, b1.nd, b1.fr, b1.el, b1.frm, b1.inv⟩
      rcases List.mem_cons.mp hq with rfl | hq
      · exact nD
      · exact fun z => m3 q hq q z rfl⟩
/-! zip of two lists -/
def viZip (K : PySem.W.Frag) (ta : TA) : TI := fun σ H R => ta σ H fun vs H1 => two2 vs fun x y => refR x fun a => refR y fun b => lstO (H1 a) fun _ => lstO (H1 b) fun _ => R (Itz K a b) H1
theorem qi_zip {X : Cx} {e e2 : Expr} {ta : TA} {p pos tpos : Pos} {elts : List Expr} {kk : Nat} (hg : Gl X "zip") (hm : X.mg "zip" = none) (ha : PA X [e, e2] ta)
    (hs : starEach [e, e2] X.env = (false, eval e X.env) :: starEach [e2] X.env := by rfl) (hpl : (backTo pos (starEach [e2] X.env)).any (·.1) = false := by rfl) :
    PI X (.Tuple elts kk tpos) (.Call (.Name "zip" p) [e, e2] [] pos) (viZip X.K ta) := im_pi (pi_zip hg hm (up_pa ha) hs hpl) fun σ H R h => ⟨_, h, fun vs H1 z => by
  obtain ⟨x, y, e, z1⟩ := two2_el z
  obtain ⟨a, e1, z2⟩ := refR_el z1
  obtain ⟨b, e2, z3⟩ := refR_el z2
  obtain ⟨xs, h1, z4⟩ := lstO_el z3
  obtain ⟨ys, h2, z5⟩ := lstO_el z4
  exact ⟨a, b, xs, ys, by rw [e, e1, e2], SqL.of h1, SqL.of h2, z5⟩⟩
def dZipI (das : DA) (Γ : Gm) (Ω : Om) (Q : List W → Om → Prop) : Prop := das Γ Ω fun ws Ω1 => two2W ws fun x y => shW x fun x => shW y fun y => match x, y with
  | .lst ds, .lst es => Q ((ds.zip es).map fun p => .sh (.tup [p.1, p.2])) Ω1
  | _, _ => False
instance i_zip {ta : TA} {das : DA} [s1 : SA K am ta das] : SI K am (viZip K ta) (dZipI das) := ⟨fun {c T σ Γ Ω H Q R} e h k =>
  s1.run e h fun vs ws Ω1 H1 h1 e1 hv => by
    obtain ⟨w, v, w2, v2, rfl, hw, hw2, h2⟩ := two2W_el h1 hv
    obtain ⟨x, rfl, h3⟩ := shW_el h2
    obtain ⟨y, rfl, h4⟩ := shW_el h3
    split at h4
    · rename_i ds es
      obtain ⟨a, xs, rfl, na, ha, hl⟩ := hw
      obtain ⟨b, ys, rfl, nb, hb, hm⟩ := hw2
      show lstO (H1 a) _
      rw [ha]
      show lstO (H1 b) _
      rw [hb]
      have l1 := hl.len
      have l2 := hm.len
      have hlen : ((ds.zip es).map fun p => W.sh (.tup [p.1, p.2])).length = min xs.length ys.length := by rw [List.length_map, List.length_zip, l1, l2]
      have hx : VOk K H1 (Ex c Ω1) (.sh (.lst ds)) (.ref a) := ⟨a, xs, rfl, na, ha, hl⟩
      have hy : VOk K H1 (Ex c Ω1) (.sh (.lst es)) (.ref b) := ⟨b, ys, rfl, nb, hb, hm⟩
      refine k (Itz K a b) H1 _ Ω1 [.pin a (.lst xs), .pin b (.lst ys), .v (.sh (.lst ds)) (.ref a), .v (.sh (.lst es)) (.ref b)] _ _ h4 (((e1.addv hy).addv hx).add (t := .pin b (.lst ys)) ⟨(fun u z => by cases z), nb, hb⟩ |>.add (t := .pin a (.lst xs)) ⟨(fun u z => by cases z), na, ha⟩) (walk_zip (xs := xs) (ys := ys) hlen)
        (fun σ Γ Ω H e => ⟨SqL.of (e.tm (.pin a (.lst xs)) (by simp)).2.2, SqL.of (e.tm (.pin b (.lst ys)) (by simp)).2.2⟩) fun S i z σ Γ Ω H H' hi e y => ?_
      obtain ⟨t, u, u2, rfl, hT, rfl, g1, g2⟩ := y
      have p1 := (e.tm (.pin a (.lst xs)) (by simp)).2.2
      have p2 := (e.tm (.pin b (.lst ys)) (by simp)).2.2
      obtain ⟨a', xs', ea, _, ha', hl'⟩ := (e.tm (.v (.sh (.lst ds)) (.ref a)) (by simp))
      cases ea
      rw [p1] at ha'
      cases ha'
      obtain ⟨b', ys', eb, _, hb', hm'⟩ := (e.tm (.v (.sh (.lst es)) (.ref b)) (by simp))
      cases eb
      rw [p2] at hb'
      cases hb'
      obtain ⟨w1, q1, q2⟩ := (VOks.sh_of hl').at i g1
      obtain ⟨w2, q3, q4⟩ := (VOks.sh_of hm').at i g2
      rw [List.getElem?_map] at q1 q3
      cases r1 : ds[i]? with
      | none => rw [r1] at q1; cases q1
      | some d1 =>
        rw [r1] at q1
        cases q1
        cases r2 : es[i]? with
        | none => rw [r2] at q3; cases q3
        | some d2 =>
          rw [r2] at q3
          cases q3
          refine ⟨.sh (.tup [d1, d2]), ?_, e.tup hT ⟨u, _, rfl, q2, u2, _, rfl, q4, rfl⟩⟩
          rw [List.getElem?_map, List.getElem?_zip_eq_some (z := (d1, d2)) |>.mpr ⟨r1, r2⟩]
          rfl
    · exact h4.elim⟩
end
/-! a tuple again and again, once at least -/
theorem tuple_mul1 (l : Addr) (items : Array Value) (n : Nat) (dd : Option Addr) (sl : Array (Option Value)) (u : Tok) :
    Meets (Builtin.«tuple.__mul__» ⟨[.ref l, .int 1 u], []⟩) (fun _ R s => s.heap.get? l = some { cls := .type "tuple", dict := dd, data := .seq items n, slots := sl } ∧ R (.ok (.ret (Value.ref l))) s) :=
  .of_wp fun prog w A R s h => by
    obtain ⟨hp, g, d, tk, os⟩ := s
    obtain ⟨hl, h⟩ := h
    have f1 := AutoSeq1.idx_int
    wp_walk using wpAny_loadPart' hl
    exact ⟨_, rfl, h⟩
def wRepT : R2 := fun x y H Q => refR x fun l => intR y fun k => tupO (H l) fun xs => (xs ≠ [] ∧ 1 ≤ k ∧ k ≤ 1000 ∧ xs.length ≤ 1000) ∧ (k = 1 → Q (.ref l) H) ∧ (k ≠ 1 → ∀ p, H p = none → Q (.ref p) (upd H p (.tup (List.replicate k.toNat xs).flatten)))
theorem o_repT {X : Cx} : OpR X (binaryOp .Mult) wRepT := by
  intro pins s σ H x y v u Q I rx ry h
  obtain ⟨l, rfl, h1⟩ := refR_el h
  obtain ⟨k, rfl, h2⟩ := intR_el h1
  obtain ⟨xs, hx, ⟨hne, k1, k2, hz⟩, q1, q2⟩ := tupO_el h2
  by_cases e : k = 1
  · subst e
    cases rx
    obtain ⟨t, rfl⟩ := ry
    obtain ⟨its, r, ⟨⟨cls, dd, data, sl⟩, ho, hc, n, hd⟩, hs⟩ := I.tuple (X := X) (.inl hx)
    simp only at hc hd
    subst hc hd
    refine wpAny_binaryOp_repeat_ref (T := "tuple") (U := "int") (by decide) ⟨_, ho, rfl⟩ (fun s' => typeIs_int s' 1 t) noFill_tuple_mul F.fills_int_mul F.slot_int_rmul repeat_tuple F.slot_int_index.lookup
      (call_meets F.slot_int_rmul (typeIs_int s 1 t) F.entry_int_rmul (F.args_int_rmul_2 _ _) (int_rmul_tuple 1 t l its.toArray n dd sl)
        ⟨ho, rfl, ⟨_, ho, rfl⟩, call_meets F.slot_tuple_mul ⟨_, ho, rfl⟩ F.entry_tuple_mul (F.args_tuple_mul_2 _ _) (tuple_mul1 l its.toArray n dd sl t) ⟨ho, ?_⟩⟩)
    exact ⟨.ref l, H, I, rfl, q1 rfl⟩
  · exact op_repT pins s σ H _ _ v u Q I rx ry ⟨l, k, xs, rfl, rfl, .inl hx, hne, by omega, k2, hz, q2 e⟩
section
variable {K : PySem.W.Frag} {am : Am}
def dRepT (x y : W) (Ω : Om) (Q : DQ) : Prop := tup0W x fun ds => intW y fun k => (ds ≠ [] ∧ 1 ≤ k ∧ k ≤ 1000 ∧ ds.length ≤ 1000) ∧ Q (.sh (.tup (List.replicate k.toNat ds).flatten)) Ω
instance r_repT : SR2 K am wRepT dRepT := ⟨fun {c T σ Γ Ω H x y wx wy Q R} e hx hy h k => by
  obtain ⟨ds, rfl, h1⟩ := tup0W_el h
  obtain ⟨n, rfl, ⟨hne, n1, n2, hz⟩, h2⟩ := intW_el h1
  obtain rfl : y = .int n := hy
  obtain ⟨a, vs, rfl, na, ha, hv⟩ := hx
  show tupO (H a) _
  rw [ha]
  have l := hv.len
  refine ⟨⟨fun z => hne (List.eq_nil_of_length_eq_zero (by rw [l, z]; rfl)), n1, n2, by rw [← l]; exact hz⟩, fun e1 => ?_, fun _ p hp => k _ _ _ _ h2 (e.tup hp (layL_rep hv _))⟩
  subst e1
  have er : (List.replicate (1 : Int).toNat ds).flatten = ds := by simp
  rw [er] at h2
  exact k _ _ _ _ h2 (e.addv ⟨a, vs, rfl, na, ha, hv⟩)⟩
end
end OA

namespace OA
open PySem PySem.Spec PyProof.Rows L2
/-! own dicts whose keys are tuples -/
section
variable {κ : Type} [DecidableEq κ]
def hasG (ks : List κ) (q : κ) : Bool := ks.any fun x => decide (x = q)
def dvalG (ks : List κ) (ws : List W) (k : κ) : Option W := ((ks.zip ws).find? fun q => decide (q.1 = k)).map (·.2)
def putG (ks : List κ) (ws : List W) (q : κ) (w : W) : List κ × List W := if hasG ks q = true then (ks, (ks.zip ws).map fun p => if p.1 = q then w else p.2) else (ks ++ [q], ws ++ [w])
variable {K : PySem.W.Frag} {H : Hp} {E : Addr → Prop}
theorem putG_ok {ks : List κ} {ws : List W} {vs : List V} (q : κ) {w : W} {v : V} (hn : ks.length = ws.length) (hv : VOks K H E ws vs) (hw : VOk K H E w v) :
    ∃ vs', putK (ks.zip vs) q v = (putG ks ws q w).1.zip vs' ∧ (putG ks ws q w).1.length = (putG ks ws q w).2.length ∧ VOks K H E (putG ks ws q w).2 vs' := by
  have any_eq : ∀ {ks : List κ} {vs : List V}, ks.length = vs.length → ((ks.zip vs).any fun kv => decide (kv.1 = q)) = hasG ks q := by
    intro ks
    induction ks with
    | nil => intro vs _; rfl
    | cons k ks ih =>
      intro vs h
      cases vs with
      | nil => simp at h
      | cons v vs =>
        unfold hasG at ih ⊢
        rw [List.zip_cons_cons, List.any_cons, List.any_cons, ih (by simpa using h)]
  have n2 : ks.length = vs.length := by rw [hn, hv.len]
  unfold putK putG
  rw [any_eq n2]
  by_cases hb : hasG ks q = true
  · rw [if_pos hb, if_pos hb]
    refine ⟨(ks.zip vs).map fun kv => if kv.1 = q then v else kv.2, ?_, ?_, ?_⟩
    · clear hb hv hw any_eq hn
      induction ks generalizing vs with
      | nil => rfl
      | cons k ks ih =>
        cases vs with
        | nil => simp at n2
        | cons u us =>
          rw [List.zip_cons_cons, List.map_cons, List.map_cons, List.zip_cons_cons, ← ih (by simpa using n2)]
          congr 1
          by_cases z : k = q <;> simp [z]
    · simp [List.length_zip, hn]
    · clear hb any_eq n2
      induction ks generalizing ws vs with
      | nil => exact rfl
      | cons k ks ih =>
        cases ws with
        | nil => simp at hn
        | cons w0 ws =>
          obtain ⟨u, us, rfl, h1, h2⟩ := hv
          rw [List.zip_cons_cons, List.map_cons, List.zip_cons_cons, List.map_cons]
          refine ⟨_, _, rfl, ?_, ih (by simpa using hn) h2⟩
          by_cases z : k = q
          · simp only [z, if_true]; exact hw
          · simp only [z, if_false]; exact h1
  · rw [if_neg hb, if_neg hb]
    exact ⟨vs ++ [v], by rw [List.zip_append n2]; rfl, by simp [hn], hv.app (.one hw)⟩
theorem valG_zip : ∀ {ks : List κ} {vs : List V} {ws : List W} {k : κ} {w : W}, VOks K H E ws vs → dvalG ks ws k = some w → ∃ v, valV (ks.zip vs) k = some v ∧ VOk K H E w v
  | [], _, _, _, _, _, e => by simp [dvalG] at e
  | _ :: _, _, [], _, _, _, e => by simp [dvalG] at e
  | k0 :: ks, _, w0 :: ws, k, w, ⟨v, r, rfl, h1, h2⟩, e => by
    unfold valV
    unfold dvalG at e
    rw [List.zip_cons_cons, List.find?_cons] at e ⊢
    by_cases z : k0 = k
    · simp only [z, decide_true] at e ⊢
      cases e
      exact ⟨v, rfl, h1⟩
    · simp only [z, decide_false] at e ⊢
      exact valG_zip h2 e
theorem valG_none : ∀ {ks : List κ} {vs : List V} {ws : List W} {k : κ}, ks.length = ws.length → VOks K H E ws vs → dvalG ks ws k = none → valV (ks.zip vs) k = none
  | [], _, _, _, _, _, _ => rfl
  | k0 :: ks, _, [], k, hn, _, _ => by simp at hn
  | k0 :: ks, _, w0 :: ws, k, hn, ⟨v, r, rfl, h1, h2⟩, e => by
    unfold valV
    unfold dvalG at e
    rw [List.zip_cons_cons, List.find?_cons] at e ⊢
    by_cases z : k0 = k
    · simp only [z, decide_true] at e
      cases e
    · simp only [z, decide_false] at e ⊢
      exact valG_none (by simpa using hn) h2 e
end
def keysD : List D → (List Key → Prop) → Prop
  | [], k => k []
  | .int i :: r, k => keysD r fun ks => k (.inl i :: ks)
  | .str s :: r, k => keysD r fun ks => k (.inr s :: ks)
  | _ :: _, _ => False
def keyTW (w : W) (k : List Key → Prop) : Prop := tup0W w fun ds => keysD ds k
def keyTD (k : List Key) : D := .tup (k.map keyD)
def dtW (Ω : Om) (w : W) (k : Addr → List (List Key) → List W → Prop) : Prop := match w with
  | .pt p => match look Ω p with
    | some (.dt ks ws) => k p ks ws
    | _ => False
  | _ => False
def lookT (o : Option OD) (k : List (List Key) → List W → Prop) : Prop := match o with | some (.dt ks ws) => k ks ws | _ => False
theorem lookT_e {ks : List (List Key)} {ws : List W} {k : List (List Key) → List W → Prop} : lookT (some (.dt ks ws)) k = k ks ws := rfl
theorem dtW_p {Ω : Om} {p : Addr} {k : Addr → List (List Key) → List W → Prop} : dtW Ω (.pt p) k = lookT (look Ω p) (k p) := rfl
theorem keysD_nil {k : List Key → Prop} : keysD [] k = k [] := rfl
theorem keysD_i {i : Int} {r : List D} {k : List Key → Prop} : keysD (.int i :: r) k = keysD r fun ks => k (.inl i :: ks) := rfl
section
variable {K : PySem.W.Frag} {am : Am} {c : Cq am} {T : List Tp} {σ : L2.St} {Γ : Gm} {Ω : Om} {H : Hp} {w : W} {v : V}
theorem dtW_el {k : Addr → List (List Key) → List W → Prop} (e : DEnv K c T σ Γ Ω H) (hv : VOk K H (Ex c Ω) w v) (h : dtW Ω w k) : ∃ a ks vs ws, v = .ref a ∧ look Ω a = some (.dt ks ws) ∧ H a = some (.dT (ks.zip vs)) ∧ ks.length = ws.length ∧ VOks K H (Ex c Ω) ws vs ∧ k a ks ws := by
  unfold dtW at h
  split at h
  · split at h
    · rename_i ks ws hl
      obtain ⟨vs, h1, hn, h2⟩ := e.ob _ (look_mem hl)
      exact ⟨_, ks, vs, _, hv, hl, h1, hn, h2, h⟩
    · exact h.elim
  · exact h.elim
theorem keysD_el {E : Addr → Prop} : ∀ {ds : List D} {vs : List V} {k : List Key → Prop}, keysD ds k → LayL K H E ds vs → ∃ ks : List Key, vs = ks.map kV ∧ k ks
  | [], _, _, h, hv => ⟨[], hv, h⟩
  | .int i :: r, _, k, h, ⟨v, us, e, h1, h2⟩ => by
    obtain ⟨ks, e2, z⟩ := keysD_el (ds := r) h h2
    exact ⟨.inl i :: ks, by rw [e, e2, show v = .int i from h1]; rfl, z⟩
  | .str s :: r, _, k, h, ⟨v, us, e, h1, h2⟩ => by
    obtain ⟨ks, e2, z⟩ := keysD_el (ds := r) h h2
    exact ⟨.inr s :: ks, by rw [e, e2, show v = .str s from h1]; rfl, z⟩
  | .non :: _, _, _, h, _ => (show False from h).elim
  | .bl _ :: _, _, _, h, _ => (show False from h).elim
  | .tup _ :: _, _, _, h, _ => (show False from h).elim
  | .lst _ :: _, _, _, h, _ => (show False from h).elim
  | .dic _ _ :: _, _, _, h, _ => (show False from h).elim
  | .py _ :: _, _, _, h, _ => (show False from h).elim
  | .nt _ :: _, _, _, h, _ => (show False from h).elim
theorem keyTW_el {E : Addr → Prop} {k : List Key → Prop} (h : keyTW w k) (hv : VOk K H E w v) : ∃ b ks, v = .ref b ∧ H b = some (.tup (ks.map kV)) ∧ k ks := by
  obtain ⟨ds, rfl, h1⟩ := tup0W_el h
  obtain ⟨a, vs, rfl, n, ha, hl⟩ := hv
  obtain ⟨ks, e, z⟩ := keysD_el h1 hl
  exact ⟨a, ks, rfl, by rw [ha, e], z⟩
theorem DEnv.putT (e : DEnv K c T σ Γ Ω H) {p : Addr} {od : OD} {ks : List (List Key)} {ws' : List W} {vs' : List V} {kvs : List (List Key × V)} (hl : look Ω p = some od) (hk : kvs = ks.zip vs') (hn : ks.length = ws'.length) (h : VOks K H (Ex c Ω) ws' vs') : DEnv K c T σ Γ (OA.put Ω p (.dt ks ws')) (upd H p (.dT kvs)) :=
  e.put hl ⟨vs', by rw [hk]; exact upd_same, hn, h.mono fun b o n h => ⟨n, by rw [upd_ne fun z => n (.inr (by rw [z]; exact List.mem_map.mpr ⟨_, look_mem hl, rfl⟩))]; exact h⟩⟩
end
/-! {} -/
section
variable {K : PySem.W.Frag} {am : Am} {ta tb tx : TE} {da db dx : DT} {tas : TA} {das : DA}
theorem DEnv.ownT {c : Cq am} {T : List Tp} {σ : L2.St} {Γ : Gm} {Ω : Om} {H : Hp} (e : DEnv K c T σ Γ Ω H) {p : Addr} (hp : H p = none) : DEnv K c (.v (.pt p) (.ref p) :: T) σ Γ ((p, .dt [] []) :: Ω) (upd H p (.dT [])) := by
  have e1 := e.own (o := .lst []) (od := .lst []) hp (e.new hp) (.inl ⟨[], [], rfl, rfl, rfl⟩)
  have e2 := e1.put (o := .dT []) (od' := .dt [] []) look_hd ⟨[], upd_same, rfl, rfl⟩
  rw [put_hd (fun z => e.noEx hp (.inr z)), upd_upd] at e2
  exact e2
def dDNewT (_Γ0 : Gm) (Ω : Om) (Q : DQ) : Prop := ∀ p, notin p Ω → Q (.pt p) ((p, .dt [] []) :: Ω)
instance s_dnewT : SE K am (ownE tDNewT) dDNewT := ⟨fun {c T σ Γ Ω H Q R} e h k => fun p hp => k _ _ _ _ (h p fun z => e.noEx hp (.inr z)) (e.ownT hp)⟩
/-! d[k] = v -/
def vsDPutT (td ty tv : TE) : TS := fun D σ H => tv σ H fun v H1 => td σ H1 fun x H2 => ty σ H2 fun y H3 => refR x fun a => refR y fun b => ∃ kvs k, H3 a = some (.dT kvs) ∧ H3 b = some (.tup (k.map kV)) ∧ kvs.length < sizeLine ∧ D.nx σ (upd H3 a (.dT (putK kvs k v)))
theorem q_dputT {X : Cx} {o i e : Expr} {td ty tv : TE} {pos pos' : Pos} (hu : X.A.units + 1 < cLine) (ho : PE X o td) (hi : PE X i ty) (hv : PE X e tv) (hs : swapsWith e (some (.Subscript o i pos')) pos.line X.env = pure false) : PS X (.Assign [.Subscript o i pos'] e pos) (vsDPutT td ty tv) :=
  im_ps (ps_dput hu (up_pe ho) (up_pe hi) (up_pe hv) hs) fun _ _ _ h => ⟨_, h, fun _ _ h1 => ⟨_, h1, fun _ _ h2 => ⟨_, h2, fun _ _ z => by
    obtain ⟨a, e1, z1⟩ := refR_el z
    obtain ⟨b, e2, kvs, k, h1, h2, hz, z3⟩ := refR_el z1
    exact ⟨a, _, e1, by rw [e2]; exact DPut.t h1 h2 hz, z3⟩⟩⟩⟩
def dsDPutT (dd dk dv : DT) (N : DN) (Γ : Gm) (Ω : Om) : Prop := dv Γ Ω fun v Ω1 => dd Γ Ω1 fun x Ω2 => dk Γ Ω2 fun y Ω3 => dtW Ω3 x fun p ks ws => keyTW y fun q => lenLt ks ∧ N.nx Γ (OA.put Ω3 p (.dt (putG ks ws q v).1 (putG ks ws q v).2))
instance s_dputT {td ty tv : TE} {dd dk dv : DT} [s1 : SE K am tv dv] [s2 : SE K am td dd] [s3 : SE K am ty dk] : SS K am (vsDPutT td ty tv) (dsDPutT dd dk dv) := ⟨fun {c T σ Γ Ω H D N} e h o =>
  s1.run e h fun v wv Ω1 H1 h1 e1 => s2.run e1 h1 fun x wx Ω2 H2 h2 e2 => s3.run e2 h2 fun y wy Ω3 H3 h3 e3 => by
    obtain ⟨a, ks, vs, ws, rfl, hl, ha, hn, hv, h⟩ := dtW_el e3 e3.drop.hd h3
    obtain ⟨b, q, rfl, hb, h0, h_1⟩ := keyTW_el h e3.hd
    obtain ⟨vs', g1, g2, g3⟩ := putG_ok q hn hv e3.drop.drop.hd
    refine ⟨_, q, ha, hb, ?_, o.nx _ _ _ _ h_1 (e3.drop.drop.drop.putT hl g1 g2 g3)⟩
    rw [List.length_zip, ← hv.len, hn, Nat.min_self, ← hn]
    exact h0⟩
/-! d.get(k, x) -/
def vGet2T (td ty tx : TE) : TE := fun σ H Q => td σ H fun x H1 => refR x fun a => (∃ kvs, H1 a = some (.dT kvs)) ∧ ty σ H1 fun y H2 => tx σ H2 fun z H3 => refR y fun b => ∃ kvs k, H3 a = some (.dT kvs) ∧ H3 b = some (.tup (k.map kV)) ∧ Q ((valV kvs k).getD z) H3
theorem q_dget2T {X : Cx} {o e f : Expr} {td ty tx : TE} {apos cpos : Pos} (hu : X.A.units + 1 < cLine) (ho : PE X o td) (he : PE X e ty) (hf : PE X f tx) (m : M2 X o "get" apos e f cpos) : PE X (.Call (.Attribute o "get" apos) [e, f] [] cpos) (vGet2T td ty tx) := im_pe (pe_dget2 hu (up_pe ho) (up_pe he) (up_pe hf) m) fun σ H Q h =>
  ⟨_, h, fun x H1 z => by
    obtain ⟨a, rfl, ⟨kvs1, e1⟩, z2⟩ := refR_el z
    refine ⟨a, rfl, .inr ⟨kvs1, .inl e1⟩, _, z2, fun y H2 z3 => ⟨_, z3, fun w H3 z4 => ?_⟩⟩
    obtain ⟨b, rfl, kvs, k, h1, h2, q⟩ := refR_el z4
    exact ⟨valV kvs k, DGet.t h1 h2, q⟩⟩
def dGet2T (da db dx : DT) (Γ : Gm) (Ω : Om) (Q : DQ) : Prop := da Γ Ω fun x Ω1 => dtW Ω1 x fun _ _ _ => db Γ Ω1 fun y Ω2 => dx Γ Ω2 fun z Ω3 => dtW Ω3 x fun _ ks ws => keyTW y fun q => Q ((dvalG ks ws q).getD z) Ω3
instance s_dget2T [s1 : SE K am ta da] [s2 : SE K am tb db] [s3 : SE K am tx dx] : SE K am (vGet2T ta tb tx) (dGet2T da db dx) := ⟨fun {c T σ Γ Ω H Q R} e h k =>
  s1.run e h fun x wx Ω1 H1 h1 e1 => by
    obtain ⟨a1, ks1, vs1, ws1, rfl, _, ha1, hn1, hv1, h1'⟩ := dtW_el e1.drop e1.hd h1
    refine ⟨⟨_, ha1⟩, s2.run e1 h1' fun y wy Ω2 H2 h2 e2 => s3.run e2 h2 fun z wz Ω3 H3 h3 e3 => ?_⟩
    obtain ⟨a, ks, vs, ws, ea, hl, ha, hn, hv, h4⟩ := dtW_el e3.drop.drop.drop e3.drop.drop.hd h3
    obtain rfl : a1 = a := by injection ea
    obtain ⟨b, q, rfl, hb, h5⟩ := keyTW_el h4 e3.drop.hd
    refine ⟨_, q, ha, hb, ?_⟩
    cases hw : dvalG ks ws q with
    | none =>
      rw [hw] at h5
      rw [valG_none hn hv hw]
      exact k _ _ _ _ h5 (e3.drop.drop.drop.addv e3.hd)
    | some w =>
      rw [hw] at h5
      obtain ⟨v, g1, g2⟩ := valG_zip hv hw
      rw [g1]
      exact k _ _ _ _ h5 (e3.drop.drop.drop.addv g2)⟩
/-! list(d) -/
def wLstDT (vs : List V) (H : Hp) (Q : VK) : Prop := one1 vs fun x => refR x fun d => ∃ kvs, H d = some (.dT kvs) ∧ ∀ p bs, H p = none → IsKeys H kvs bs → Q (.ref p) (upd H p (.lst (bs.map V.ref)))
theorem c_lstDT {X : Cx} (hc : X.calm = true) : CallR X (.type "list") wLstDT := im_call (call_list_dT hc) fun xs H Q z => by
  obtain ⟨x, e1, z1⟩ := one1_el z
  obtain ⟨p, e2, kvs, h1, z2⟩ := refR_el z1
  exact ⟨p, kvs, by rw [e1, e2], .inl h1, z2⟩
theorem keys_layT {c : Cq am} {T : List Tp} {σ : L2.St} {Γ : Gm} {Ω : Om} {H : Hp} (e : DEnv K c T σ Γ Ω H) : ∀ {ks : List (List Key)} {vs : List V} {bs : List Addr}, ks.length = vs.length → IsKeys H (ks.zip vs) bs → LayL K H (Ex c Ω) (ks.map keyTD) (bs.map V.ref)
  | [], _, bs, _, h => by
    cases h
    exact rfl
  | k :: ks, [], bs, hl, h => by simp at hl
  | k :: ks, v :: vs, bs, hl, h => by
    cases h with
    | cons h1 h2 => exact ⟨_, _, rfl, ⟨_, _, rfl, e.noTup h1, h1, keys_lay k⟩, keys_layT e (by simpa using hl) h2⟩
def dLstDT (ws : List W) (Ω : Om) (Q : DQ) : Prop := one1W ws fun w => dtW Ω w fun _ ks _ => Q (.sh (.lst (ks.map keyTD))) Ω
instance r_lstDT : SRC K am wLstDT dLstDT := ⟨fun {c T σ Γ Ω H xs ws Q R} e hs h k => by
  obtain ⟨w, v, rfl, hw, h1⟩ := one1W_el h hs
  obtain ⟨a, ks, vs, us, rfl, hl, ha, hn, hv, h2⟩ := dtW_el e hw h1
  exact ⟨_, ha, fun p bs hp hk => k _ _ _ _ h2 (e.lst hp (keys_layT e (by rw [hn, hv.len]) hk))⟩⟩
/-! data in a list of data; a bool in a list of bools -/
def dInLD (x y : W) (Ω : Om) (Q : DQ) : Prop := shW x fun x => shW y fun y => match y with
  | .lst ds => (plD x = true ∧ (pdD x).depth ≤ 64) ∧ (plL ds = true ∧ (pdD (.lst ds)).depth ≤ 64) ∧ Q (.sh (.bl ((pdL ds).any fun z => PyData.eqv z (pdD x)))) Ω
  | _ => False
instance r_inLD : SR2 K am (rInD K) dInLD := ⟨fun {c T σ Γ Ω H x y wx wy Q R} e hx hy h k => by
  obtain ⟨x', rfl, h1⟩ := shW_el h
  obtain ⟨y', rfl, h2⟩ := shW_el h1
  split at h2
  · rename_i ds
    obtain ⟨⟨a1, a2⟩, ⟨b1, b2⟩, q⟩ := h2
    exact ⟨_, _, pd_dp _ _ a1 hx, pd_dp (.lst ds) _ b1 hy, shaped_of (pd_can _ a1) a2, shaped_of (by unfold PyData.canLay0; exact pd_canL _ b1) b2, k _ _ _ _ q (e.addv rfl)⟩
  · exact h2.elim⟩
def bolsD : List D → (List Bool → Prop) → Prop
  | [], k => k []
  | .bl x :: r, k => bolsD r fun ds => k (x :: ds)
  | _ :: _, _ => False
theorem bolsD_map (ns : List Bool) (k : List Bool → Prop) : bolsD (ns.map .bl) k = k ns := by
  induction ns generalizing k with
  | nil => rfl
  | cons d ds ih => exact ih _
theorem bolsD_el : ∀ {ds : List D} {k : List Bool → Prop}, bolsD ds k → ∃ ns, ds = ns.map .bl ∧ k ns
  | [], k, h => ⟨[], rfl, h⟩
  | .bl x :: r, k, h => by
    obtain ⟨ds, e, z⟩ := bolsD_el (ds := r) h
    exact ⟨x :: ds, by rw [e]; rfl, z⟩
  | .non :: _, _, h => (show False from h).elim
  | .int _ :: _, _, h => (show False from h).elim
  | .str _ :: _, _, h => (show False from h).elim
  | .tup _ :: _, _, h => (show False from h).elim
  | .lst _ :: _, _, h => (show False from h).elim
  | .dic _ _ :: _, _, h => (show False from h).elim
  | .py _ :: _, _, h => (show False from h).elim
  | .nt _ :: _, _, h => (show False from h).elim
theorem lay_bols {H : Hp} {E : Addr → Prop} : ∀ {ns : List Bool} {vs : List V}, LayL K H E (ns.map .bl) vs → vs = ns.map V.bl
  | [], _, h => h
  | n :: ns, _, ⟨v, r, e, h1, h2⟩ => by rw [e, show v = .bl n from h1, lay_bols h2]; rfl
def wInLB : R2 := fun x y H Q => blR x fun i => refR y fun p => lstO (H p) fun xs => ∃ ns : List Bool, xs = ns.map V.bl ∧ Q (.bl (decide (i ∈ ns))) H
theorem o_inLB {X : Cx} : OpR X (compareOp .In) wInLB := im_op op_in_seq fun x y H Q z => by
  obtain ⟨i, rfl, z⟩ := blR_el z
  obtain ⟨p, rfl, z⟩ := refR_el z
  obtain ⟨xs, e, ns, rfl, z⟩ := lstO_el z
  refine ⟨p, _, rfl, .inl (SqL.of e), rfl, ?_, ?_⟩
  · induction ns with
    | nil => rfl
    | cons n ns ih => rw [List.map_cons, List.all_cons]; rw [show (ns.map V.bl).all flatV = true from ?_]; rfl; clear ih z e; induction ns with
      | nil => rfl
      | cons m ms ih2 => rw [List.map_cons, List.all_cons, ih2]; rfl
  · have e1 : inV (.bl i) (ns.map V.bl) = decide (i ∈ ns) := by
      unfold inV
      clear z e
      induction ns with
      | nil => rfl
      | cons n ns ih =>
        rw [List.map_cons, List.any_cons, ih]
        have : eqV (.bl n) (.bl i) = decide (n = i) := by
          rw [Bool.eq_iff_iff]
          cases n <;> cases i <;> simp [eqV]
        rw [this]
        by_cases z : n = i
        · simp [z]
        · have : ¬ i = n := fun h => z h.symm
          simp [z, this]
    simp only [Bool.false_eq_true, if_false, e1]
    exact z
def dInLB (x y : W) (Ω : Om) (Q : DQ) : Prop := blW x fun i => seqW Ω y fun ws => shsW ws fun ds => bolsD ds fun ns => Q (.sh (.bl (decide (i ∈ ns)))) Ω
instance r_inLB : SR2 K am wInLB dInLB := ⟨fun {c T σ Γ Ω H x y wx wy Q R} e hx hy h k => by
  obtain ⟨i, rfl, h_1⟩ := blW_el h
  obtain ⟨a, vs, ws, rfl, ha, hv, h_2⟩ := seqW_el e hy h_1
  obtain ⟨ds, rfl, h_3⟩ := shsW_el h_2
  obtain ⟨ns, rfl, h_4⟩ := bolsD_el h_3
  obtain rfl : x = .bl i := hx
  show lstO (H a) _
  rw [ha]
  exact ⟨ns, lay_bols hv.lay, k _ _ _ _ h_4 (e.addv rfl)⟩⟩
end
end OA

namespace OA
namespace P
open PySem L2
/-! plans as data -/
abbrev tI (l : List Int) : D := .tup (l.map .int)
abbrev endD : D := .tup [.str "end"]
abbrev askD (ns : List Int) (q : D) (hs : List D) (nz : D) : D := .tup [.str "ask", .nt ns, q, .tup hs, nz]
theorem tD_tI (g : List Nat) : tD g = tI (g.map fun (n : Nat) => (n : Int)) := by
  unfold tD tI
  rw [List.map_map]
  rfl
structure NumsOk (many : Nat) (ns : List Int) : Prop where
  ne : ns ≠ []
  up : ns.Pairwise (· < ·)
  bd : ∀ n ∈ ns, 0 ≤ n ∧ n < (many : Int)
theorem ints_len {many : Nat} {ns : List Int} (nd : ns.Nodup) (bd : ∀ n ∈ ns, 0 ≤ n ∧ n < (many : Int)) : ns.length ≤ many := by
  have h : ns.length ≤ ((List.range many).map fun (n : Nat) => (n : Int)).length := nd.length_le_of_subset fun z hz => by
    obtain ⟨a, b⟩ := bd z hz
    exact List.mem_map.mpr ⟨z.toNat, List.mem_range.mpr (by omega), by omega⟩
  rwa [List.length_map, List.length_range] at h
theorem NumsOk.nd {many : Nat} {ns : List Int} (h : NumsOk many ns) : ns.Nodup := h.up.imp fun h => Int.ne_of_lt h
theorem NumsOk.len {many : Nat} {ns : List Int} (h : NumsOk many ns) : ns.length ≤ many := ints_len h.nd h.bd
def PlanOk (many : Nat) : Nat → D → Prop
  | 0, d => d = endD
  | n + 1, d => d = endD ∨ ∃ ns q hs nz, d = askD ns q hs nz ∧ NumsOk many ns ∧ hs.length = ns.length ∧ PlanOk many n q ∧ (∀ h ∈ hs, PlanOk many n h) ∧ PlanOk many n nz
theorem PlanOk.fin (many : Nat) : ∀ n, PlanOk many n endD
  | 0 => rfl
  | _ + 1 => .inl rfl
theorem PlanOk.up {many : Nat} : ∀ {n : Nat} {d : D}, PlanOk many n d → PlanOk many (n + 1) d
  | 0, d, h => .inl h
  | n + 1, d, h => by
    rcases h with h | ⟨ns, q, hs, nz, h1, h2, h3, h4, h5, h6⟩
    · exact .inl h
    · exact .inr ⟨ns, q, hs, nz, h1, h2, h3, h4.up, fun x hx => (h5 x hx).up, h6.up⟩
theorem PlanOk.mono {many n m : Nat} {d : D} (h : PlanOk many n d) (hm : n ≤ m) : PlanOk many m d := by
  induction hm with
  | refl => exact h
  | step _ ih => exact ih.up
theorem PlanOk.ask {many n : Nat} {ns : List Int} {q nz : D} {hs : List D} (h1 : NumsOk many ns) (h2 : hs.length = ns.length) (h3 : PlanOk many n q) (h4 : ∀ h ∈ hs, PlanOk many n h) (h5 : PlanOk many n nz) : PlanOk many (n + 1) (askD ns q hs nz) := .inr ⟨ns, q, hs, nz, rfl, h1, h2, h3, h4, h5⟩
theorem PlanOk.cs {many m : Nat} {g : D} (hg : PlanOk many m g) : g = endD ∨ ∃ k ns q hs nz, m = k + 1 ∧ g = askD ns q hs nz ∧ NumsOk many ns ∧ hs.length = ns.length ∧ PlanOk many k q ∧ (∀ h ∈ hs, PlanOk many k h) ∧ PlanOk many k nz := by
  cases m with
  | zero => exact .inl hg
  | succ k =>
    rcases hg with hg | ⟨ns, q, hs, nz, hg⟩
    · exact .inl hg
    · exact .inr ⟨k, ns, q, hs, nz, rfl, hg⟩
/-- what a plan goes on with -/
def behP : D → List D
  | .tup [_, .nt _, q, .tup hs, nz] => q :: (hs ++ [nz])
  | _ => []
theorem behP_end : behP endD = [] := rfl
theorem behP_ask {ns : List Int} {q nz : D} {hs : List D} : behP (askD ns q hs nz) = q :: (hs ++ [nz]) := rfl
theorem behP_ok {many n : Nat} {d : D} (h : PlanOk many (n + 1) d) (h8 : many ≤ 8) : (behP d).length ≤ 10 ∧ ∀ x ∈ behP d, PlanOk many n x := by
  rcases h with rfl | ⟨ns, q, hs, nz, rfl, h2, h3, h4, h5, h6⟩
  · exact ⟨by simp [behP_end], fun x hx => by simp [behP_end] at hx⟩
  · have := h2.len
    rw [behP_ask]
    refine ⟨by simp; omega, fun x hx => ?_⟩
    rcases List.mem_cons.mp hx with rfl | hx
    · exact h4
    · rcases List.mem_append.mp hx with hx | hx
      · exact h5 x hx
      · rw [List.mem_singleton.mp hx]
        exact h6
def speakP (ns l : List Int) : List Int := ns.filter fun n => decide (n ∈ l)
def placeP (ns l : List Int) : Nat := match speakP ns l with
  | [] => 0
  | [s] => ns.idxOf s + 1
  | _ => ns.length + 1
def restP (ns l : List Int) : List Int := match speakP ns l with
  | [s] => l.filter fun n => decide (n ≠ s)
  | _ => l
theorem speakP_mem {ns l : List Int} {s : Int} (h : s ∈ speakP ns l) : s ∈ ns ∧ s ∈ l := by
  obtain ⟨a, b⟩ := List.mem_filter.mp h
  exact ⟨a, of_decide_eq_true b⟩
theorem idx_lt {ns : List Int} {s : Int} (h : s ∈ ns) : ns.idxOf s < ns.length := List.idxOf_lt_length_iff.mpr h
theorem placeP_lt {ns l : List Int} : placeP ns l < ns.length + 2 := by
  unfold placeP
  split
  · omega
  · rename_i s e
    have := idx_lt (speakP_mem (ns := ns) (l := l) (s := s) (by rw [e]; simp)).1
    omega
  · omega
theorem restP_len {ns l : List Int} : (restP ns l).length ≤ l.length := by
  unfold restP
  split
  · exact List.length_filter_le _ _
  · exact Nat.le_refl _
theorem restP_nd {ns l : List Int} (h : l.Nodup) : (restP ns l).Nodup := by
  unfold restP
  split
  · exact h.filter _
  · exact h
/-- how many asks a plan takes, and who is left -/
def folP : Nat → D → List Int → Nat × List Int
  | n + 1, .tup [_, .nt ns, q, .tup hs, nz], l => ((folP n ((q :: (hs ++ [nz])).getD (placeP ns l) .non) (restP ns l)).1 + 1, (folP n ((q :: (hs ++ [nz])).getD (placeP ns l) .non) (restP ns l)).2)
  | _, _, l => (0, l)
theorem folP_end (n : Nat) (l : List Int) : folP n endD l = (0, l) := by cases n <;> rfl
theorem folP_ask (n : Nat) {ns : List Int} {q nz : D} {hs : List D} (l : List Int) : folP (n + 1) (askD ns q hs nz) l = ((folP n ((q :: (hs ++ [nz])).getD (placeP ns l) .non) (restP ns l)).1 + 1, (folP n ((q :: (hs ++ [nz])).getD (placeP ns l) .non) (restP ns l)).2) := rfl
theorem beh_at {many n : Nat} {ns : List Int} {q nz : D} {hs : List D} {l : List Int} (h3 : hs.length = ns.length) (h4 : PlanOk many n q) (h5 : ∀ h ∈ hs, PlanOk many n h) (h6 : PlanOk many n nz) :
    (q :: (hs ++ [nz]))[placeP ns l]? = some ((q :: (hs ++ [nz])).getD (placeP ns l) .non) ∧ PlanOk many n ((q :: (hs ++ [nz])).getD (placeP ns l) .non) := by
  have hl : placeP ns l < (q :: (hs ++ [nz])).length := by
    have := placeP_lt (ns := ns) (l := l)
    simp
    omega
  have e : (q :: (hs ++ [nz])).getD (placeP ns l) .non = (q :: (hs ++ [nz]))[placeP ns l] := by
    rw [List.getD_eq_getElem?_getD, List.getElem?_eq_getElem hl]
    rfl
  refine ⟨by rw [e]; exact List.getElem?_eq_getElem hl, ?_⟩
  rw [e]
  have hm := List.getElem_mem hl
  rcases List.mem_cons.mp hm with z | hx
  · rw [z]; exact h4
  · rcases List.mem_append.mp hx with hx | hx
    · exact h5 _ hx
    · rw [List.mem_singleton.mp hx]
      exact h6
theorem folP_ge {many : Nat} : ∀ (n m : Nat) (d : D) (l : List Int), PlanOk many n d → n ≤ m → folP m d l = folP n d l
  | 0, m, d, l, h, _ => by
    rw [show d = endD from h, folP_end, folP_end]
  | n + 1, 0, d, l, h, hm => by omega
  | n + 1, m + 1, d, l, h, hm => by
    rcases h with rfl | ⟨ns, q, hs, nz, rfl, h2, h3, h4, h5, h6⟩
    · rw [folP_end, folP_end]
    · rw [folP_ask, folP_ask, folP_ge n m _ _ (beh_at h3 h4 h5 h6).2 (by omega)]
theorem folP_len : ∀ (n : Nat) (d : D) (l : List Int), (folP n d l).2.length ≤ l.length := by
  intro n
  induction n with
  | zero => intro d l; exact Nat.le_refl _
  | succ n ih =>
    intro d l
    unfold folP
    split
    · cases ‹n + 1 = _ + 1›
      exact Nat.le_trans (ih _ _) restP_len
    · exact Nat.le_refl _
/-- what a plan comes to -/
def judP (d : D) : List (List Int) → Nat → List Int → D
  | [], g, s => .tup [.str "heard", .int (g : Nat), tI s]
  | x :: r, g, s => if (folP 20 d x).2 = [] then (if (folP 20 d x).1 > g then judP d r (folP 20 d x).1 x else judP d r g s) else .tup [.str "missed", tI x, tI (folP 20 d x).2]
abbrev gsI (many most : Nat) : List (List Int) := (setsN many 0 most).map fun g => g.map fun (n : Nat) => (n : Int)
theorem sets_0 (many most : Nat) : setsN many 0 most = [] :: setsN many 1 most := by
  have e0 : ((List.range (most + 1)).filter fun s => decide (0 ≤ s)) = 0 :: (List.range most).map Nat.succ := by
    rw [List.range_succ_eq_map, List.filter_eq_self.mpr (fun a _ => by simp)]
  have e1 : ((List.range (most + 1)).filter fun s => decide (1 ≤ s)) = (List.range most).map Nat.succ := by
    rw [List.range_succ_eq_map, List.filter_cons_of_neg (by simp), List.filter_eq_self.mpr fun a ha => by
      obtain ⟨b, _, rfl⟩ := List.mem_map.mp ha
      simp]
  unfold setsN
  rw [e0, e1, List.flatMap_cons]
  rfl
theorem gs_ok {many most : Nat} {x : List Int} (h : x ∈ gsI many most) : x.Nodup ∧ (∀ n ∈ x, 0 ≤ n ∧ n < (many : Int)) ∧ x.length ≤ many := by
  obtain ⟨g, hg, rfl⟩ := List.mem_map.mp h
  obtain ⟨a, b⟩ := setsN_ok hg
  have nd : (g.map fun (n : Nat) => (n : Int)).Nodup := List.pairwise_map.mpr (a.imp fun h e => h (by omega))
  have bd : ∀ n ∈ g.map fun (n : Nat) => (n : Int), 0 ≤ n ∧ n < (many : Int) := fun n hn => by
    obtain ⟨m, hm, rfl⟩ := List.mem_map.mp hn
    have := b m hm
    omega
  exact ⟨nd, bd, ints_len nd bd⟩
theorem rem_filter {l : List Int} {s : Int} (nd : l.Nodup) (h : s ∈ l) : l.eraseIdx (l.idxOf s) = l.filter fun n => decide (n ≠ s) := by
  induction l with
  | nil => simp at h
  | cons a l ih =>
    obtain ⟨n1, n2⟩ := List.nodup_cons.mp nd
    by_cases z : a = s
    · subst z
      rw [List.idxOf_cons_self, List.eraseIdx_cons_zero, List.filter_cons_of_neg (by simp), List.filter_eq_self.mpr fun b hb => by
        simp
        intro e
        exact n1 (e ▸ hb)]
    · have hs : s ∈ l := by
        rcases List.mem_cons.mp h with e | e
        · exact absurd e.symm z
        · exact e
      have e0 : (a :: l).idxOf s = l.idxOf s + 1 := by
        rw [List.idxOf_cons, show (a == s) = false from beq_eq_false_iff_ne.mpr z]
        rfl
      rw [e0, List.eraseIdx_cons_succ, List.filter_cons_of_pos (by simpa using z), ih n2 hs]
end P
end OA

namespace OA
namespace P
open PySem L2
/-! plans without idle asks -/
def comeP (ns : List Int) (L : List (List Int)) (k : Nat) : List (List Int) := (L.filter fun l => decide (placeP ns l = k)).map (restP ns)
theorem come_snoc {ns : List Int} {L : List (List Int)} {l : List Int} {k : Nat} : comeP ns (L ++ [l]) k = comeP ns L k ++ (if placeP ns l = k then [restP ns l] else []) := by
  unfold comeP
  rw [List.filter_append, List.map_append]
  congr 1
  by_cases z : placeP ns l = k <;> simp [z]
theorem come_len {ns : List Int} {L : List (List Int)} {k : Nat} : (comeP ns L k).length ≤ L.length := by
  unfold comeP
  rw [List.length_map]
  exact List.length_filter_le _ _
theorem come_mem {ns : List Int} {L : List (List Int)} {l : List Int} (h : l ∈ L) : restP ns l ∈ comeP ns L (placeP ns l) := List.mem_map.mpr ⟨l, List.mem_filter.mpr ⟨h, by simp⟩, rfl⟩
theorem come_sub {ns : List Int} {L : List (List Int)} {k : Nat} {x : List Int} (h : x ∈ comeP ns L k) : ∃ l ∈ L, placeP ns l = k ∧ x = restP ns l := by
  obtain ⟨l, hl, rfl⟩ := List.mem_map.mp h
  obtain ⟨a, b⟩ := List.mem_filter.mp hl
  exact ⟨l, a, of_decide_eq_true b, rfl⟩
theorem come_all {ns : List Int} {L : List (List Int)} {k : Nat} (h : (comeP ns L k).length = L.length) : ∀ l ∈ L, placeP ns l = k := by
  unfold comeP at h
  rw [List.length_map] at h
  intro l hl
  have := List.length_filter_eq_length_iff.mp h l hl
  exact of_decide_eq_true this
theorem come_all' {ns : List Int} {L : List (List Int)} {k : Nat} (h : ∀ l ∈ L, placeP ns l = k) : (comeP ns L k).length = L.length := by
  unfold comeP
  rw [List.length_map]
  exact List.length_filter_eq_length_iff.mpr fun l hl => decide_eq_true (h l hl)
theorem rest_0 {ns l : List Int} (h : placeP ns l = 0) : restP ns l = l := by
  unfold placeP at h
  unfold restP
  split at h
  · rename_i e
    rw [e]
  · omega
  · omega
theorem rest_last {ns l : List Int} (h : placeP ns l = ns.length + 1) : restP ns l = l := by
  unfold placeP at h
  unfold restP
  split at h
  · omega
  · rename_i s e
    have := idx_lt (speakP_mem (ns := ns) (l := l) (s := s) (by rw [e]; simp)).1
    omega
  · rename_i n1 n2
    split
    · rename_i s e
      exact absurd e (n2 s)
    · rfl
def trimP : Nat → D → List (List Int) → D
  | n + 1, .tup [_, .nt ns, q, .tup hs, nz], L =>
    if L = [] then endD
    else if (comeP ns L 0).length = L.length then trimP n q L
    else if (comeP ns L (ns.length + 1)).length = L.length then trimP n nz L
    else askD ns (trimP n q (comeP ns L 0)) (hs.mapIdx fun k h => trimP n h (comeP ns L (k + 1))) (trimP n nz (comeP ns L (ns.length + 1)))
  | _, _, _ => endD
theorem trim_end (n : Nat) (L : List (List Int)) : trimP n endD L = endD := by cases n <;> rfl
theorem trim_ask (n : Nat) {ns : List Int} {q nz : D} {hs : List D} {L : List (List Int)} : trimP (n + 1) (askD ns q hs nz) L = (if L = [] then endD
    else if (comeP ns L 0).length = L.length then trimP n q L
    else if (comeP ns L (ns.length + 1)).length = L.length then trimP n nz L
    else askD ns (trimP n q (comeP ns L 0)) (hs.mapIdx fun k h => trimP n h (comeP ns L (k + 1))) (trimP n nz (comeP ns L (ns.length + 1)))) := rfl
theorem trim_nil {many n : Nat} {d : D} (h : PlanOk many n d) : trimP n d [] = endD := by
  cases n with
  | zero => rw [show d = endD from h]; rfl
  | succ n =>
    rcases h with rfl | ⟨ns, q, hs, nz, rfl, _⟩
    · rfl
    · rw [trim_ask, if_pos rfl]
/-- how an ask comes out -/
theorem trim_cases {n : Nat} {ns : List Int} {q nz : D} {hs : List D} {L : List (List Int)} : (L = [] ∧ trimP (n + 1) (askD ns q hs nz) L = endD) ∨
    (L ≠ [] ∧ (∀ l ∈ L, placeP ns l = 0) ∧ trimP (n + 1) (askD ns q hs nz) L = trimP n q L) ∨
    (L ≠ [] ∧ (¬ ∀ l ∈ L, placeP ns l = 0) ∧ (∀ l ∈ L, placeP ns l = ns.length + 1) ∧ trimP (n + 1) (askD ns q hs nz) L = trimP n nz L) ∨
    (L ≠ [] ∧ (¬ ∀ l ∈ L, placeP ns l = 0) ∧ (¬ ∀ l ∈ L, placeP ns l = ns.length + 1) ∧
      trimP (n + 1) (askD ns q hs nz) L = askD ns (trimP n q (comeP ns L 0)) (hs.mapIdx fun k h => trimP n h (comeP ns L (k + 1))) (trimP n nz (comeP ns L (ns.length + 1)))) := by
  rw [trim_ask]
  by_cases z : L = []
  · exact .inl ⟨z, if_pos z⟩
  · rw [if_neg z]
    by_cases z1 : (comeP ns L 0).length = L.length
    · exact .inr (.inl ⟨z, come_all z1, if_pos z1⟩)
    · rw [if_neg z1]
      have n1 : ¬ ∀ l ∈ L, placeP ns l = 0 := fun h => z1 (come_all' h)
      by_cases z2 : (comeP ns L (ns.length + 1)).length = L.length
      · exact .inr (.inr (.inl ⟨z, n1, come_all z2, if_pos z2⟩))
      · exact .inr (.inr (.inr ⟨z, n1, fun h => z2 (come_all' h), if_neg z2⟩))
theorem trim_ok {many : Nat} : ∀ {n : Nat} {d : D} (L : List (List Int)), PlanOk many n d → PlanOk many n (trimP n d L)
  | 0, d, L, h => by
    rw [show d = endD from h]
    rfl
  | n + 1, d, L, h => by
    rcases h with rfl | ⟨ns, q, hs, nz, rfl, h2, h3, h4, h5, h6⟩
    · rw [trim_end]; exact .fin many _
    · rcases trim_cases (n := n) (ns := ns) (q := q) (nz := nz) (hs := hs) (L := L) with ⟨_, e⟩ | ⟨_, _, e⟩ | ⟨_, _, _, e⟩ | ⟨_, _, _, e⟩
      · rw [e]; exact .fin many _
      · rw [e]; exact (trim_ok L h4).up
      · rw [e]; exact (trim_ok L h6).up
      · rw [e]
        refine .ask h2 (by rw [List.length_mapIdx, h3]) (trim_ok _ h4) (fun x hx => ?_) (trim_ok _ h6)
        obtain ⟨k, hk, rfl⟩ := List.mem_mapIdx.mp hx
        exact trim_ok _ (h5 _ (List.getElem_mem hk))
theorem trim_ge {many : Nat} : ∀ (n m : Nat) (d : D) (L : List (List Int)), PlanOk many n d → n ≤ m → trimP m d L = trimP n d L
  | 0, m, d, L, h, _ => by rw [show d = endD from h, trim_end, trim_end]
  | n + 1, 0, d, L, h, hm => by omega
  | n + 1, m + 1, d, L, h, hm => by
    rcases h with rfl | ⟨ns, q, hs, nz, rfl, h2, h3, h4, h5, h6⟩
    · rw [trim_end, trim_end]
    · have e : (hs.mapIdx fun k h => trimP m h (comeP ns L (k + 1))) = hs.mapIdx fun k h => trimP n h (comeP ns L (k + 1)) := by
        refine List.ext_getElem? fun i => ?_
        rw [List.getElem?_mapIdx, List.getElem?_mapIdx]
        cases q : hs[i]? with
        | none => rfl
        | some x =>
          exact congrArg some (trim_ge n m x _ (h5 x (List.mem_of_getElem? q)) (by omega))
      rw [trim_ask, trim_ask, trim_ge n m q _ h4 (by omega), trim_ge n m q _ h4 (by omega), trim_ge n m nz _ h6 (by omega), trim_ge n m nz _ h6 (by omega), e]
theorem trim_again {many : Nat} : ∀ (n : Nat) (d : D) (L : List (List Int)), PlanOk many n d → trimP n (trimP n d L) L = trimP n d L
  | 0, d, L, h => by rw [show d = endD from h]; rfl
  | n + 1, d, L, h => by
    rcases h with rfl | ⟨ns, q, hs, nz, rfl, h2, h3, h4, h5, h6⟩
    · rw [trim_end, trim_end]
    · rcases trim_cases (n := n) (ns := ns) (q := q) (nz := nz) (hs := hs) (L := L) with ⟨_, e⟩ | ⟨_, _, e⟩ | ⟨_, _, _, e⟩ | ⟨a, b, c, e⟩
      · rw [e, trim_end]
      · rw [e, trim_ge n (n + 1) _ _ (trim_ok L h4) (by omega), trim_again n q L h4]
      · rw [e, trim_ge n (n + 1) _ _ (trim_ok L h6) (by omega), trim_again n nz L h6]
      · rw [e]
        have z1 : ¬ (comeP ns L 0).length = L.length := fun h => b (come_all h)
        have z2 : ¬ (comeP ns L (ns.length + 1)).length = L.length := fun h => c (come_all h)
        rw [trim_ask, if_neg a, if_neg z1, if_neg z2, trim_again n q _ h4, trim_again n nz _ h6]
        have e : ((hs.mapIdx fun k h => trimP n h (comeP ns L (k + 1))).mapIdx fun k h => trimP n h (comeP ns L (k + 1))) = hs.mapIdx fun k h => trimP n h (comeP ns L (k + 1)) := by
          refine List.ext_getElem? fun i => ?_
          rw [List.getElem?_mapIdx, List.getElem?_mapIdx]
          cases q : hs[i]? with
          | none => rfl
          | some x =>
            exact congrArg some (trim_again n x _ (h5 x (List.mem_of_getElem? q)))
        rw [e]
/-- the plans behind, trimmed one by one -/
theorem beh_trim {n : Nat} {ns : List Int} {q nz : D} {hs : List D} {L : List (List Int)} (h3 : hs.length = ns.length) :
    trimP n q (comeP ns L 0) :: ((hs.mapIdx fun k h => trimP n h (comeP ns L (k + 1))) ++ [trimP n nz (comeP ns L (ns.length + 1))]) = (q :: (hs ++ [nz])).mapIdx fun k b => trimP n b (comeP ns L k) := by
  rw [List.mapIdx_cons, List.mapIdx_append]
  congr 2
  show _ = [trimP n nz (comeP ns L (0 + hs.length + 1))]
  rw [h3, Nat.zero_add]
theorem trim_fol {many : Nat} : ∀ (n : Nat) (d : D) (L : List (List Int)) (l : List Int), PlanOk many n d → l ∈ L → (folP n (trimP n d L) l).2 = (folP n d l).2 ∧ (folP n (trimP n d L) l).1 ≤ (folP n d l).1
  | 0, d, L, l, h, _ => by rw [show d = endD from h]; exact ⟨rfl, Nat.le_refl _⟩
  | n + 1, d, L, l, h, hl => by
    rcases h with rfl | ⟨ns, q, hs, nz, rfl, h2, h3, h4, h5, h6⟩
    · rw [trim_end]; exact ⟨rfl, Nat.le_refl _⟩
    · rcases trim_cases (n := n) (ns := ns) (q := q) (nz := nz) (hs := hs) (L := L) with ⟨a, e⟩ | ⟨_, b, e⟩ | ⟨_, _, b, e⟩ | ⟨a, b, c, e⟩
      · rw [a] at hl; simp at hl
      · have p0 := b l hl
        obtain ⟨i1, i2⟩ := trim_fol n q L l h4 hl
        rw [e, folP_ge n (n + 1) _ l (trim_ok L h4) (by omega), folP_ask, p0, rest_0 p0]
        exact ⟨i1, by show _ ≤ (folP n q l).1 + 1; omega⟩
      · have p0 := b l hl
        obtain ⟨i1, i2⟩ := trim_fol n nz L l h6 hl
        have eb : (q :: (hs ++ [nz])).getD (ns.length + 1) .non = nz := by
          rw [← h3, List.getD_eq_getElem?_getD, List.getElem?_cons_succ, List.getElem?_append_right (Nat.le_refl _), Nat.sub_self]
          rfl
        rw [e, folP_ge n (n + 1) _ l (trim_ok L h6) (by omega), folP_ask, p0, rest_last p0, eb]
        exact ⟨i1, by show _ ≤ (folP n nz l).1 + 1; omega⟩
      · rw [e, folP_ask, folP_ask, beh_trim h3]
        obtain ⟨b1, b2⟩ := beh_at (l := l) h3 h4 h5 h6
        have eg : ((q :: (hs ++ [nz])).mapIdx fun k b => trimP n b (comeP ns L k)).getD (placeP ns l) .non = trimP n ((q :: (hs ++ [nz])).getD (placeP ns l) .non) (comeP ns L (placeP ns l)) := by
          rw [List.getD_eq_getElem?_getD, List.getElem?_mapIdx, b1]
          rfl
        rw [eg]
        obtain ⟨i1, i2⟩ := trim_fol n _ (comeP ns L (placeP ns l)) (restP ns l) b2 (come_mem hl)
        exact ⟨i1, Nat.succ_le_succ i2⟩
/-- all asks, each once for each place -/
def partsP : Nat → D → Nat
  | n + 1, .tup [_, .nt _, q, .tup hs, nz] => 1 + ((q :: (hs ++ [nz])).map (partsP n)).sum
  | _, _ => 0
theorem parts_end (n : Nat) : partsP n endD = 0 := by cases n <;> rfl
theorem parts_ask (n : Nat) {ns : List Int} {q nz : D} {hs : List D} : partsP (n + 1) (askD ns q hs nz) = 1 + ((q :: (hs ++ [nz])).map (partsP n)).sum := rfl
theorem parts_ge {many : Nat} : ∀ (n m : Nat) (d : D), PlanOk many n d → n ≤ m → partsP m d = partsP n d
  | 0, m, d, h, _ => by rw [show d = endD from h, parts_end, parts_end]
  | n + 1, 0, d, h, hm => by omega
  | n + 1, m + 1, d, h, hm => by
    rcases h with rfl | ⟨ns, q, hs, nz, rfl, h2, h3, h4, h5, h6⟩
    · rw [parts_end, parts_end]
    · rw [parts_ask, parts_ask]
      congr 2
      refine List.map_congr_left fun x hx => ?_
      rcases List.mem_cons.mp hx with rfl | hx
      · exact parts_ge n m _ h4 (by omega)
      · rcases List.mem_append.mp hx with hx | hx
        · exact parts_ge n m _ (h5 x hx) (by omega)
        · rw [List.mem_singleton.mp hx]
          exact parts_ge n m _ h6 (by omega)
theorem sum_mapIdx_le {f : Nat → D → D} {g : D → Nat} : ∀ (l : List D) (k0 : Nat), (∀ k x, x ∈ l → g (f k x) ≤ g x) → ((l.mapIdx fun k x => f (k + k0) x).map g).sum ≤ (l.map g).sum
  | [], _, _ => Nat.le_refl _
  | x :: l, k0, h => by
    rw [List.mapIdx_cons, List.map_cons, List.map_cons, List.sum_cons, List.sum_cons]
    have h1 := h (0 + k0) x List.mem_cons_self
    have h2 := sum_mapIdx_le (f := f) (g := g) l (k0 + 1) fun k y hy => h k y (List.mem_cons_of_mem _ hy)
    have e : (l.mapIdx fun i y => f (i + 1 + k0) y) = l.mapIdx fun k y => f (k + (k0 + 1)) y := by
      congr 1
      funext i y
      rw [Nat.add_right_comm, Nat.add_assoc]
    rw [e]
    exact Nat.add_le_add h1 h2
theorem trim_parts {many : Nat} : ∀ (n : Nat) (d : D) (L : List (List Int)), PlanOk many n d → partsP n (trimP n d L) ≤ partsP n d
  | 0, d, L, h => by rw [show d = endD from h]; exact Nat.le_refl _
  | n + 1, d, L, h => by
    rcases h with rfl | ⟨ns, q, hs, nz, rfl, h2, h3, h4, h5, h6⟩
    · rw [trim_end]; exact Nat.le_refl _
    · rcases trim_cases (n := n) (ns := ns) (q := q) (nz := nz) (hs := hs) (L := L) with ⟨a, e⟩ | ⟨_, b, e⟩ | ⟨_, _, b, e⟩ | ⟨a, b, c, e⟩
      · rw [e, parts_end]; exact Nat.zero_le _
      · have := trim_parts n q L h4
        rw [e, parts_ge n (n + 1) _ (trim_ok L h4) (by omega), parts_ask, List.map_cons, List.sum_cons]
        omega
      · have := trim_parts n nz L h6
        rw [e, parts_ge n (n + 1) _ (trim_ok L h6) (by omega), parts_ask, List.map_cons, List.sum_cons, List.map_append, List.sum_append]
        simp
        omega
      · rw [e, parts_ask, parts_ask, beh_trim h3]
        refine Nat.add_le_add_left ?_ 1
        refine sum_mapIdx_le (f := fun k b => trimP n b (comeP ns L k)) (q :: (hs ++ [nz])) 0 fun k x hx => ?_
        rcases List.mem_cons.mp hx with rfl | hx
        · exact trim_parts n _ _ h4
        · rcases List.mem_append.mp hx with hx | hx
          · exact trim_parts n _ _ (h5 x hx)
          · rw [List.mem_singleton.mp hx]
            exact trim_parts n _ _ h6
/-- whether an ask is idle, or one stands where none comes to -/
def idleP : Nat → D → List (List Int) → Bool
  | n + 1, .tup [_, .nt ns, q, .tup hs, nz], L => decide (∀ l ∈ L, placeP ns l = 0) || decide (∀ l ∈ L, placeP ns l = ns.length + 1) || idleP n q (comeP ns L 0) || idleP n nz (comeP ns L (ns.length + 1)) ||
      (hs.mapIdx fun k h => idleP n h (comeP ns L (k + 1))).any id
  | _, _, _ => false
theorem idle_end (n : Nat) (L : List (List Int)) : idleP n endD L = false := by cases n <;> rfl
theorem idle_ask (n : Nat) {ns : List Int} {q nz : D} {hs : List D} {L : List (List Int)} : idleP (n + 1) (askD ns q hs nz) L = (decide (∀ l ∈ L, placeP ns l = 0) || decide (∀ l ∈ L, placeP ns l = ns.length + 1) || idleP n q (comeP ns L 0) || idleP n nz (comeP ns L (ns.length + 1)) ||
      (hs.mapIdx fun k h => idleP n h (comeP ns L (k + 1))).any id) := rfl
theorem idle_ge {many : Nat} : ∀ (n m : Nat) (d : D) (L : List (List Int)), PlanOk many n d → n ≤ m → idleP m d L = idleP n d L
  | 0, m, d, L, h, _ => by rw [show d = endD from h, idle_end, idle_end]
  | n + 1, 0, d, L, h, hm => by omega
  | n + 1, m + 1, d, L, h, hm => by
    rcases h with rfl | ⟨ns, q, hs, nz, rfl, h2, h3, h4, h5, h6⟩
    · rw [idle_end, idle_end]
    · have e : (hs.mapIdx fun k h => idleP m h (comeP ns L (k + 1))) = hs.mapIdx fun k h => idleP n h (comeP ns L (k + 1)) := by
        refine List.ext_getElem? fun i => ?_
        rw [List.getElem?_mapIdx, List.getElem?_mapIdx]
        cases q : hs[i]? with
        | none => rfl
        | some x =>
          exact congrArg some (idle_ge n m x _ (h5 x (List.mem_of_getElem? q)) (by omega))
      rw [idle_ask, idle_ask, idle_ge n m q _ h4 (by omega), idle_ge n m nz _ h6 (by omega), e]
theorem trim_idle {many : Nat} : ∀ (n : Nat) (d : D) (L : List (List Int)), PlanOk many n d → idleP n (trimP n d L) L = false
  | 0, d, L, h => by rw [show d = endD from h]; rfl
  | n + 1, d, L, h => by
    rcases h with rfl | ⟨ns, q, hs, nz, rfl, h2, h3, h4, h5, h6⟩
    · rw [trim_end, idle_end]
    · rcases trim_cases (n := n) (ns := ns) (q := q) (nz := nz) (hs := hs) (L := L) with ⟨a, e⟩ | ⟨_, b, e⟩ | ⟨_, _, b, e⟩ | ⟨a, b, c, e⟩
      · rw [e, idle_end]
      · rw [e, idle_ge n (n + 1) _ _ (trim_ok L h4) (by omega), trim_idle n q L h4]
      · rw [e, idle_ge n (n + 1) _ _ (trim_ok L h6) (by omega), trim_idle n nz L h6]
      · rw [e, idle_ask, decide_eq_false b, decide_eq_false c, trim_idle n q _ h4, trim_idle n nz _ h6]
        have e : ((hs.mapIdx fun k h => trimP n h (comeP ns L (k + 1))).mapIdx fun k h => idleP n h (comeP ns L (k + 1))) = hs.mapIdx fun _ _ => false := by
          refine List.ext_getElem? fun i => ?_
          rw [List.getElem?_mapIdx, List.getElem?_mapIdx, List.getElem?_mapIdx]
          cases q : hs[i]? with
          | none => rfl
          | some x =>
            exact congrArg some (trim_idle n x _ (h5 x (List.mem_of_getElem? q)))
        rw [e]
        rw [Bool.eq_false_iff]
        intro z
        simp only [Bool.false_or, List.any_eq_true, id_eq] at z
        obtain ⟨x, hx, rfl⟩ := z
        obtain ⟨k, hk, e⟩ := List.mem_mapIdx.mp hx
        cases e
/-- judged of both -/
theorem jud_both {d t : D} : ∀ (gs : List (List Int)) (g g' : Nat) (s s' : List Int), (∀ x ∈ gs, (folP 20 t x).2 = (folP 20 d x).2) →
    (∃ a b a' b', judP d gs g s = .tup [.str "heard", a, b] ∧ judP t gs g' s' = .tup [.str "heard", a', b']) ∨ ∃ x l, judP d gs g s = .tup [.str "missed", tI x, tI l] ∧ judP t gs g' s' = .tup [.str "missed", tI x, tI l]
  | [], g, g', s, s', _ => .inl ⟨_, _, _, _, rfl, rfl⟩
  | x :: r, g, g', s, s', h => by
    have hx := h x List.mem_cons_self
    have ih := fun g g' s s' => jud_both (d := d) (t := t) r g g' s s' fun y hy => h y (List.mem_cons_of_mem _ hy)
    show (∃ a b a' b', (if (folP 20 d x).2 = [] then (if (folP 20 d x).1 > g then judP d r (folP 20 d x).1 x else judP d r g s) else .tup [.str "missed", tI x, tI (folP 20 d x).2]) = _ ∧ (if (folP 20 t x).2 = [] then (if (folP 20 t x).1 > g' then judP t r (folP 20 t x).1 x else judP t r g' s') else .tup [.str "missed", tI x, tI (folP 20 t x).2]) = _) ∨
      ∃ x' l, (if (folP 20 d x).2 = [] then (if (folP 20 d x).1 > g then judP d r (folP 20 d x).1 x else judP d r g s) else .tup [.str "missed", tI x, tI (folP 20 d x).2]) = _ ∧ (if (folP 20 t x).2 = [] then (if (folP 20 t x).1 > g' then judP t r (folP 20 t x).1 x else judP t r g' s') else .tup [.str "missed", tI x, tI (folP 20 t x).2]) = _
    rw [hx]
    by_cases z : (folP 20 d x).2 = []
    · rw [if_pos z, if_pos z]
      split <;> split <;> exact ih _ _ _ _
    · rw [if_neg z, if_neg z]
      exact .inr ⟨_, _, rfl, rfl⟩
end P
end OA

namespace OA
open PySem PySem.Spec PyProof.Rows L2
/-! lists of lists that are filled, then given away -/
abbrev omZ (Z : List (Addr × List W)) : Om := Z.map fun z => (z.1, OD.lst z.2)
abbrev ptZ (Z : List (Addr × List W)) : List W := Z.map fun z => W.pt z.1
theorem look_app {Ω Ω' : Om} {a : Addr} (h : notin a Ω) : look (Ω ++ Ω') a = look Ω' a := by
  induction Ω with
  | nil => rfl
  | cons q Ω ih =>
    obtain ⟨b, o⟩ := q
    rw [notin_cons] at h
    show look ((b, o) :: (Ω ++ Ω')) a = _
    rw [look_tl h.1, ih h.2]
theorem look_app2 {Ω Ω' : Om} {a : Addr} (h : notin a Ω') : look (Ω ++ Ω') a = look Ω a := by
  induction Ω with
  | nil =>
    show look Ω' a = look [] a
    unfold look
    rw [List.find?_eq_none.mpr fun q hq => by
      simp
      exact fun e => h (List.mem_map.mpr ⟨q, hq, e⟩)]
    rfl
  | cons q Ω ih =>
    obtain ⟨b, o⟩ := q
    show look ((b, o) :: (Ω ++ Ω')) a = _
    by_cases z : b = a
    · subst z
      rw [look_hd, look_hd]
    · rw [look_tl (fun y => z y.symm), look_tl (fun y => z y.symm), ih]
theorem put_app {Ω Ω' : Om} {a : Addr} {od : OD} (h : notin a Ω) : OA.put (Ω ++ Ω') a od = Ω ++ OA.put Ω' a od := by
  have e := put_no (od := od) h
  unfold OA.put at e ⊢
  rw [List.map_append, e]
theorem put_app2 {Ω Ω' : Om} {a : Addr} {od : OD} (h : notin a Ω') : OA.put (Ω ++ Ω') a od = OA.put Ω a od ++ Ω' := by
  have e := put_no (od := od) h
  unfold OA.put at e ⊢
  rw [List.map_append, e]
theorem keys_z (Z : List (Addr × List W)) : (omZ Z).map (·.1) = Z.map (·.1) := by
  rw [List.map_map]
  rfl
theorem notin_z {Z : List (Addr × List W)} {a : Addr} (h : a ∉ Z.map (·.1)) : notin a (omZ Z) := by
  unfold notin
  rw [keys_z]
  exact h
theorem look_z : ∀ {Z : List (Addr × List W)} {k : Nat} {a : Addr} {ws : List W}, (Z.map (·.1)).Nodup → Z[k]? = some (a, ws) → look (omZ Z) a = some (.lst ws)
  | [], _, _, _, _, h => by simp at h
  | (b, us) :: Z, 0, a, ws, _, h => by
    cases h
    exact look_hd
  | (b, us) :: Z, k + 1, a, ws, nd, h => by
    obtain ⟨n1, n2⟩ := List.nodup_cons.mp nd
    have hm : a ∈ Z.map (·.1) := List.mem_map.mpr ⟨_, List.mem_of_getElem? (show Z[k]? = some (a, ws) from h), rfl⟩
    show look ((b, OD.lst us) :: omZ Z) a = _
    rw [look_tl fun e => n1 (by rw [← e]; exact hm)]
    exact look_z n2 h
theorem put_z : ∀ {Z : List (Addr × List W)} {k : Nat} {a : Addr} {ws ws' : List W}, (Z.map (·.1)).Nodup → Z[k]? = some (a, ws) → OA.put (omZ Z) a (.lst ws') = omZ (Z.set k (a, ws'))
  | [], _, _, _, _, _, h => by simp at h
  | (b, us) :: Z, 0, a, ws, ws', nd, h => by
    cases h
    obtain ⟨n1, n2⟩ := List.nodup_cons.mp nd
    show OA.put ((b, OD.lst us) :: omZ Z) b _ = _
    rw [put_hd (notin_z n1)]
    rfl
  | (b, us) :: Z, k + 1, a, ws, ws', nd, h => by
    obtain ⟨n1, n2⟩ := List.nodup_cons.mp nd
    have hm : a ∈ Z.map (·.1) := List.mem_map.mpr ⟨_, List.mem_of_getElem? (show Z[k]? = some (a, ws) from h), rfl⟩
    show OA.put ((b, OD.lst us) :: omZ Z) a _ = _
    rw [put_t fun e => n1 (by rw [e]; exact hm), put_z (ws' := ws') n2 h]
    rfl
theorem set_keys {Z : List (Addr × List W)} {k : Nat} {a : Addr} {ws ws' : List W} (h : Z[k]? = some (a, ws)) : (Z.set k (a, ws')).map (·.1) = Z.map (·.1) := by
  rw [List.map_set]
  refine List.ext_getElem? fun i => ?_
  rw [List.getElem?_set]
  split
  · rename_i e
    subst e
    rw [List.getElem?_map, h]
    split
    · rfl
    · rename_i n
      rw [List.length_map] at n
      exact absurd (List.getElem?_eq_some_iff.mp h).1 n
  · rfl
theorem set_pts {Z : List (Addr × List W)} {k : Nat} {a : Addr} {ws ws' : List W} (h : Z[k]? = some (a, ws)) : ptZ (Z.set k (a, ws')) = ptZ Z := by
  have e := congrArg (List.map W.pt) (set_keys (ws' := ws') h)
  rw [List.map_map, List.map_map] at e
  exact e
/-- they are all given away -/
theorem subG_id {a : Addr} {d : D} {Γ : Gm} (h : ∀ w, some w ∈ Γ → w ≠ .pt a) : subG a d Γ = Γ := by
  unfold subG
  have : ∀ o ∈ Γ, Option.map (subW a d) o = o := fun o ho => by
    cases o with
    | none => rfl
    | some w =>
      have := h w ho
      cases w with
      | pt q =>
        show some (if q = a then W.sh d else W.pt q) = _
        rw [if_neg fun e => this (by rw [e])]
      | _ => rfl
  rw [List.map_congr_left this, List.map_id']
theorem frz_all {P : Gm → Om → Prop} {p : Addr} {Γ : Gm} {Ω0 : Om} : ∀ (Z : List (Addr × List D)) (done : List D), (p :: Z.map (·.1)).Nodup → (∀ a ∈ Z.map (·.1), ∀ w, some w ∈ Γ → w ≠ .pt a) → (∀ a ∈ p :: Z.map (·.1), notin a Ω0 ∧ ∀ d, subΩ a d Ω0 = Ω0) →
    LaterD P (subG p (.lst (done ++ Z.map fun z => D.lst z.2)) Γ) Ω0 → LaterD P Γ ((p, .lst (done.map W.sh ++ Z.map fun z => W.pt z.1)) :: ((Z.map fun z => (z.1, OD.lst (z.2.map W.sh))) ++ Ω0))
  | [], done, nd, hΓ, h0, h => by
    refine .frz p (.lst done) (.lst ?_) ?_
    · rw [List.map_nil, List.append_nil]
      exact look_hd
    · have e : subΩ p (.lst done) ((p, OD.lst (done.map W.sh ++ [])) :: ([] ++ Ω0)) = Ω0 := by
        rw [List.nil_append]
        have e0 := (h0 p List.mem_cons_self).2 (.lst done)
        unfold subΩ at e0 ⊢
        rw [List.filter_cons_of_neg (by simp)]
        exact e0
      rw [List.map_nil, List.map_nil, e]
      rw [List.map_nil, List.append_nil] at h
      exact h
  | (a, ds) :: Z, done, nd, hΓ, h0, h => by
    obtain ⟨n1, n2⟩ := List.nodup_cons.mp nd
    obtain ⟨n3, n4⟩ := List.nodup_cons.mp n2
    have hpa : p ≠ a := fun e => n1 (by rw [e]; exact List.mem_cons_self)
    have na : a ∉ Z.map (·.1) := n3
    refine .frz a (.lst ds) (.lst ?_) ?_
    · rw [look_tl (Ne.symm hpa)]
      exact look_hd
    · have e1 : subG a (.lst ds) Γ = Γ := subG_id (hΓ a List.mem_cons_self)
      have es : ∀ l : List D, (l.map W.sh).map (subW a (.lst ds)) = l.map W.sh := fun l => by rw [List.map_map]; rfl
      have e2 : subΩ a (.lst ds) ((p, OD.lst (done.map W.sh ++ List.map (fun z => W.pt z.1) ((a, ds) :: Z))) :: ((List.map (fun z => (z.1, OD.lst (z.2.map W.sh))) ((a, ds) :: Z)) ++ Ω0)) =
          (p, OD.lst ((done ++ [D.lst ds]).map W.sh ++ Z.map fun z => W.pt z.1)) :: ((Z.map fun z => (z.1, OD.lst (z.2.map W.sh))) ++ Ω0) := by
        have e0 := (h0 a (List.mem_cons_of_mem _ List.mem_cons_self)).2 (.lst ds)
        have ef : ((Z.map fun z => (z.1, OD.lst (z.2.map W.sh))) ++ Ω0).filter (fun q => decide (q.1 ≠ a)) = (Z.map fun z => (z.1, OD.lst (z.2.map W.sh))) ++ Ω0.filter (fun q => decide (q.1 ≠ a)) := by
          rw [List.filter_append]
          congr 1
          refine List.filter_eq_self.mpr fun q hq => ?_
          obtain ⟨z, hz, rfl⟩ := List.mem_map.mp hq
          exact decide_eq_true fun e => na (by rw [← e]; exact List.mem_map.mpr ⟨z, hz, rfl⟩)
        unfold subΩ at e0 ⊢
        rw [List.filter_cons_of_pos (by simpa using hpa), List.map_cons (f := fun z : Addr × List D => (z.1, OD.lst (z.2.map W.sh))), List.cons_append, List.filter_cons_of_neg (by simp), ef, List.map_cons, List.map_append, e0]
        congr 1
        · show (p, OD.lst ((done.map W.sh ++ (W.pt a :: Z.map fun z => W.pt z.1)).map (subW a (.lst ds)))) = _
          rw [List.map_append, List.map_cons, es, List.map_append, List.append_assoc]
          have e3 : subW a (.lst ds) (W.pt a) = W.sh (.lst ds) := if_pos rfl
          have e4 : (Z.map fun z => W.pt z.1).map (subW a (.lst ds)) = Z.map fun z => W.pt z.1 := by
            rw [List.map_map]
            refine List.map_congr_left fun z hz => ?_
            show (if z.1 = a then W.sh (.lst ds) else W.pt z.1) = _
            rw [if_neg fun e => na (by rw [← e]; exact List.mem_map.mpr ⟨z, hz, rfl⟩)]
          rw [e3, e4]
          rfl
        · congr 1
          rw [List.map_map]
          refine List.map_congr_left fun z _ => ?_
          show (z.1, OD.lst ((z.2.map W.sh).map (subW a (.lst ds)))) = _
          rw [es]
      rw [e1, e2]
      refine frz_all Z (done ++ [.lst ds]) (List.nodup_cons.mpr ⟨fun z => n1 (List.mem_cons_of_mem _ z), n4⟩) (fun b hb => hΓ b (List.mem_cons_of_mem _ hb)) (fun b hb => h0 b ?_) ?_
      · rcases List.mem_cons.mp hb with e | e
        · rw [e]; exact List.mem_cons_self
        · exact List.mem_cons_of_mem _ (List.mem_cons_of_mem _ e)
      · rw [List.append_assoc]
        exact h
/-! two such lists -/
def Om2 (po ph : Addr) (Zo Zh : List (Addr × List W)) : Om := (po, .lst (ptZ Zo)) :: (omZ Zo ++ ((ph, .lst (ptZ Zh)) :: omZ Zh))
def Nd2 (po ph : Addr) (Zo Zh : List (Addr × List W)) : Prop := (po :: (Zo.map (·.1) ++ (ph :: Zh.map (·.1)))).Nodup
section
variable {po ph : Addr} {Zo Zh : List (Addr × List W)} {j : Nat} {a : Addr} {us : List W}
theorem Nd2.parts (h : Nd2 po ph Zo Zh) : (Zo.map (·.1)).Nodup ∧ (Zh.map (·.1)).Nodup ∧ po ∉ Zo.map (·.1) ∧ po ≠ ph ∧ po ∉ Zh.map (·.1) ∧ ph ∉ Zo.map (·.1) ∧ ph ∉ Zh.map (·.1) ∧ ∀ x ∈ Zo.map (·.1), x ∉ Zh.map (·.1) := by
  obtain ⟨n1, n2⟩ := List.nodup_cons.mp h
  obtain ⟨m1, m2, m3⟩ := List.nodup_append.mp n2
  obtain ⟨k1, k2⟩ := List.nodup_cons.mp m2
  exact ⟨m1, k2, fun z => n1 (List.mem_append_left _ z), fun z => n1 (List.mem_append_right _ (by rw [z]; exact List.mem_cons_self)), fun z => n1 (List.mem_append_right _ (List.mem_cons_of_mem _ z)),
    fun z => m3 ph z ph List.mem_cons_self rfl, k1, fun x hx hz => m3 x hx x (List.mem_cons_of_mem _ hz) rfl⟩
theorem mem_keys {Z : List (Addr × List W)} (h : Z[j]? = some (a, us)) : a ∈ Z.map (·.1) := List.mem_map.mpr ⟨_, List.mem_of_getElem? h, rfl⟩
theorem look_po : look (Om2 po ph Zo Zh) po = some (.lst (ptZ Zo)) := look_hd
theorem look_ph (h : Nd2 po ph Zo Zh) : look (Om2 po ph Zo Zh) ph = some (.lst (ptZ Zh)) := by
  obtain ⟨_, _, _, h1, _, h2, _⟩ := h.parts
  unfold Om2
  rw [look_tl (Ne.symm h1), look_app (notin_z h2), look_hd]
theorem look_o (h : Nd2 po ph Zo Zh) (e : Zo[j]? = some (a, us)) : look (Om2 po ph Zo Zh) a = some (.lst us) := by
  obtain ⟨d1, _, h1, _, _, h2, _, h3⟩ := h.parts
  have m := mem_keys e
  unfold Om2
  rw [look_tl fun z => h1 (by rw [← z]; exact m), look_app2, look_z d1 e]
  rw [notin_cons]
  exact ⟨fun z => h2 (by rw [← z]; exact m), notin_z (h3 a m)⟩
theorem look_h (h : Nd2 po ph Zo Zh) (e : Zh[j]? = some (a, us)) : look (Om2 po ph Zo Zh) a = some (.lst us) := by
  obtain ⟨_, d2, _, _, h1, _, h2, h3⟩ := h.parts
  have m := mem_keys e
  unfold Om2
  rw [look_tl fun z => h1 (by rw [← z]; exact m), look_app (notin_z fun z => h3 a z m), look_tl fun z => h2 (by rw [← z]; exact m), look_z d2 e]
theorem put_o {x : List W} (h : Nd2 po ph Zo Zh) (e : Zo[j]? = some (a, us)) : OA.put (Om2 po ph Zo Zh) a (.lst x) = Om2 po ph (Zo.set j (a, x)) Zh := by
  obtain ⟨d1, _, h1, _, _, h2, _, h3⟩ := h.parts
  have m := mem_keys e
  unfold Om2
  rw [put_t fun z => h1 (by rw [z]; exact m), put_app2, put_z d1 e, set_pts e]
  rw [notin_cons]
  exact ⟨fun z => h2 (by rw [← z]; exact m), notin_z (h3 a m)⟩
theorem put_h {x : List W} (h : Nd2 po ph Zo Zh) (e : Zh[j]? = some (a, us)) : OA.put (Om2 po ph Zo Zh) a (.lst x) = Om2 po ph Zo (Zh.set j (a, x)) := by
  obtain ⟨_, d2, _, _, h1, _, h2, h3⟩ := h.parts
  have m := mem_keys e
  unfold Om2
  rw [put_t fun z => h1 (by rw [z]; exact m), put_app (notin_z fun z => h3 a z m), put_t fun z => h2 (by rw [z]; exact m), put_z d2 e, set_pts e]
theorem Nd2.set_o {x : List W} (h : Nd2 po ph Zo Zh) (e : Zo[j]? = some (a, us)) : Nd2 po ph (Zo.set j (a, x)) Zh := by
  unfold Nd2
  rw [set_keys e]
  exact h
theorem Nd2.set_h {x : List W} (h : Nd2 po ph Zo Zh) (e : Zh[j]? = some (a, us)) : Nd2 po ph Zo (Zh.set j (a, x)) := by
  unfold Nd2
  rw [set_keys e]
  exact h
end
/-- lists of data, their things given away -/
theorem z_data {Z : List (Addr × List W)} {F : Nat → List D} (h : ∀ j z, Z[j]? = some z → z.2 = (F j).map W.sh) : ∃ Z2 : List (Addr × List D), Z = Z2.map (fun z => (z.1, z.2.map W.sh)) ∧ Z2.map (·.1) = Z.map (·.1) ∧ (Z2.map fun z => D.lst z.2) = (List.range Z.length).map fun j => D.lst (F j) := by
  have hZ : Z = (Z.mapIdx fun j z => (z.1, F j)).map fun z => (z.1, z.2.map W.sh) := by
    refine List.ext_getElem? fun j => ?_
    rw [List.getElem?_map, List.getElem?_mapIdx]
    cases ez : Z[j]? with
    | none => rfl
    | some z =>
      have := h j z ez
      show some z = some (z.1, (F j).map W.sh)
      rw [← this]
  refine ⟨Z.mapIdx fun j z => (z.1, F j), hZ, ?_, ?_⟩
  · have := congrArg (List.map (·.1)) hZ
    rw [List.map_map] at this
    exact this.symm
  · refine List.ext_getElem? fun j => ?_
    rw [List.getElem?_map, List.getElem?_mapIdx, List.getElem?_map]
    rcases Nat.lt_or_ge j Z.length with hj | hj
    · rw [List.getElem?_eq_getElem hj, List.getElem?_range hj]
      rfl
    · rw [List.getElem?_eq_none hj, List.getElem?_eq_none (by rw [List.length_range]; exact hj)]
      rfl
theorem subΩ_id {a : Addr} {d : D} {Ω : Om} (h : ∀ q ∈ Ω, q.1 ≠ a ∧ ∃ ws, q.2 = .lst ws ∧ ∀ w ∈ ws, w ≠ .pt a) : subΩ a d Ω = Ω := by
  unfold subΩ
  rw [List.filter_eq_self.mpr fun q hq => decide_eq_true (h q hq).1]
  have : ∀ q ∈ Ω, (q.1, subO a d q.2) = q := fun q hq => by
    obtain ⟨q1, q2⟩ := q
    obtain ⟨_, ws, e, hw⟩ := h _ hq
    have e : q2 = .lst ws := e
    subst e
    show (q1, OD.lst (ws.map (subW a d))) = _
    have : ws.map (subW a d) = ws := by
      have h2 : ∀ w ∈ ws, subW a d w = w := fun w hm => by
        have := hw w hm
        cases w with
        | pt q =>
          show (if q = a then W.sh d else W.pt q) = _
          rw [if_neg fun e => this (by rw [e])]
        | _ => rfl
      rw [List.map_congr_left h2, List.map_id']
    rw [this]
  rw [List.map_congr_left this, List.map_id']
/-- both are given away -/
theorem frz_two {P : Gm → Om → Prop} {po ph : Addr} {Γ : Gm} {Zo Zh : List (Addr × List W)} {Fo Fh : Nat → List D} (nd : Nd2 po ph Zo Zh) (ho : ∀ j z, Zo[j]? = some z → z.2 = (Fo j).map W.sh) (hh : ∀ j z, Zh[j]? = some z → z.2 = (Fh j).map W.sh)
    (hΓ : ∀ a ∈ Zo.map (·.1) ++ Zh.map (·.1), ∀ w, some w ∈ Γ → w ≠ .pt a)
    (h : LaterD P (subG ph (.lst ((List.range Zh.length).map fun j => D.lst (Fh j))) (subG po (.lst ((List.range Zo.length).map fun j => D.lst (Fo j))) Γ)) []) : LaterD P Γ (Om2 po ph Zo Zh) := by
  obtain ⟨Z2, e1, e2, e3⟩ := z_data ho
  obtain ⟨Z3, f1, f2, f3⟩ := z_data hh
  obtain ⟨d1, d2, h1, h2, h3, h4, h5, h6⟩ := nd.parts
  have eΩ : Om2 po ph Zo Zh = (po, .lst (([] : List D).map W.sh ++ Z2.map fun z => W.pt z.1)) :: ((Z2.map fun z => (z.1, OD.lst (z.2.map W.sh))) ++ ((ph, .lst (ptZ Zh)) :: omZ Zh)) := by
    unfold Om2
    have a1 : ptZ Zo = Z2.map fun z => W.pt z.1 := by
      have := congrArg (List.map W.pt) e2
      rw [List.map_map, List.map_map] at this
      exact this.symm
    have a2 : omZ Zo = Z2.map fun z => (z.1, OD.lst (z.2.map W.sh)) := by
      unfold omZ
      rw [e1, List.map_map]
      rfl
    rw [a1, a2]
    rfl
  have eΩ2 : ((ph, .lst (ptZ Zh)) :: omZ Zh : Om) = (ph, .lst (([] : List D).map W.sh ++ Z3.map fun z => W.pt z.1)) :: ((Z3.map fun z => (z.1, OD.lst (z.2.map W.sh))) ++ []) := by
    have a1 : ptZ Zh = Z3.map fun z => W.pt z.1 := by
      have := congrArg (List.map W.pt) f2
      rw [List.map_map, List.map_map] at this
      exact this.symm
    have a2 : omZ Zh = Z3.map fun z => (z.1, OD.lst (z.2.map W.sh)) := by
      unfold omZ
      rw [f1, List.map_map]
      rfl
    rw [a1, a2, List.append_nil]
    rfl
  rw [eΩ]
  refine frz_all Z2 [] ?_ (fun a ha w hw => hΓ a (List.mem_append_left _ (by rw [← e2]; exact ha)) w hw) (fun a ha => ?_) ?_
  · rw [e2]
    exact List.nodup_cons.mpr ⟨h1, d1⟩
  · rw [e2] at ha
    have q1 : a ≠ ph ∧ a ∉ Zh.map (·.1) := by
      rcases List.mem_cons.mp ha with e | e
      · rw [e]; exact ⟨h2, h3⟩
      · exact ⟨fun z => h4 (by rw [← z]; exact e), h6 a e⟩
    refine ⟨by rw [notin_cons]; exact ⟨q1.1, notin_z q1.2⟩, fun d => subΩ_id fun q hq => ?_⟩
    rcases List.mem_cons.mp hq with rfl | hq
    · refine ⟨Ne.symm q1.1, _, rfl, fun w hw e => ?_⟩
      obtain ⟨z, hz, e2⟩ := List.mem_map.mp hw
      rw [e] at e2
      cases e2
      exact q1.2 (List.mem_map.mpr ⟨z, hz, rfl⟩)
    · obtain ⟨z, hz, rfl⟩ := List.mem_map.mp hq
      refine ⟨fun e => q1.2 (by rw [← e]; exact List.mem_map.mpr ⟨z, hz, rfl⟩), _, rfl, fun w hw e => ?_⟩
      rw [f1] at hz
      obtain ⟨y, _, rfl⟩ := List.mem_map.mp hz
      obtain ⟨x, _, rfl⟩ := List.mem_map.mp hw
      cases e
  · rw [List.nil_append, e3, eΩ2]
    refine frz_all Z3 [] ?_ (fun a ha w hw e => ?_) (fun a _ => ⟨fun h => by simp at h, fun _ => rfl⟩) ?_
    · rw [f2]
      exact List.nodup_cons.mpr ⟨h5, d2⟩
    · rw [f2] at ha
      unfold subG at hw
      obtain ⟨o, ho2, e4⟩ := List.mem_map.mp hw
      cases o with
      | none => cases e4
      | some u =>
        cases e4
        have hu := hΓ a (List.mem_append_right _ ha) u ho2
        cases u with
        | pt q =>
          have e : (if q = po then W.sh (.lst ((List.range Zo.length).map fun j => D.lst (Fo j))) else W.pt q) = .pt a := e
          split at e
          · cases e
          · exact hu e
        | sh x => cases e
        | ty n => cases e
    · rw [List.nil_append, f3]
      exact h
end OA

namespace OA
open PySem PySem.Spec PyProof.Rows L2
/-! tuples of ints whose object is known; reversed; sorted(set(t)) -/
section
variable {X : Cx} {pins : List (Addr × Obj)} {σ : L2.St} {H : Hp} {s : Shared}
abbrev tupOb (its : Array Value) : Obj := { cls := .type "tuple", data := .seq its }
theorem frz_new {xs : List V} {its : List Value} {t' : Nat} (I : Inv X pins σ H s) (r : Vals xs its) (hz : xs.length ≤ sizeLine) :
    Inv X pins σ (upd H s.heap.objs.size (.frz (tupOb its.toArray) (.tup xs))) { s with heap := s.heap.push (tupOb its.toArray), toks := t' } :=
  I.laid (t' := t') (fun b o e => Heap.get?_push_of_some _ e) (Nat.le_refl _) ⟨Heap.get?_push_size _ rfl, hz, its, r, IsTup.new _ _⟩
/-- tuple(a list) -/
def wTupF (vs : List V) (H : Hp) (Q : VK) : Prop := one1 vs fun x => refR x fun p => lstO (H p) fun xs => ∀ l ob, H l = none → ob.dict = none → Q (.ref l) (upd H l (.frz ob (.tup xs)))
theorem c_tupF : CallR X (.type "tuple") wTupF := by
  intro pins s σ H vs us Q I r h
  obtain ⟨x, rfl, h⟩ := one1_el h
  obtain ⟨p, rfl, h⟩ := refR_el h
  obtain ⟨xs, e, h⟩ := lstO_el h
  obtain ⟨u, rfl, rx⟩ := vals1 r
  cases rx
  obtain ⟨its, r', pl, hz⟩ := I.list (SqL.of e)
  have hlen := r'.length
  refine call_tuple_list pl.isList (fun h' kp => ?_) (by simp only [List.size_toArray] <;> omega)
  have I1 : Inv X pins σ H { s with heap := h' } := I.kept (t' := s.toks) kp
  exact ⟨.ref h'.objs.size, _, frz_new (t' := s.toks) I1 r' hz, rfl, h _ _ (I1.hok.fresh (Nat.le_refl _)) rfl⟩
/-- (x, y, ..) -/
def vTupF (t : TA) : TE := fun σ H Q => t σ H fun xs H1 => xs.length ≤ sizeLine ∧ ∀ p ob, H1 p = none → ob.dict = none → Q (.ref p) (upd H1 p (.frz ob (.tup xs)))
theorem pe_tupF {es : List Expr} {t : TA} {x1 : Nat} {pos : Pos} (h : PA X es t) : PE X (.Tuple es x1 pos) (vTupF t) := by
  refine ⟨fun pins s σ H Q I hq => ?_⟩
  refine wpAny_Tuple_spliced (thn (h.run pos pins s σ H _ I hq) fun us s1 ⟨xs, H1, I1, r, z, q⟩ => ⟨by rw [← r.length]; exact z, ?_⟩)
  have hf : H1 s1.heap.objs.size = none := I1.hok.fresh (Nat.le_refl _)
  exact ⟨.ref s1.heap.objs.size, _, frz_new (t' := s1.toks) I1 r z, rfl, q _ _ hf rfl⟩
/-- tuple(range(n)) -/
def vTupRgF (te : TE) : TE := fun σ H Q => te σ H fun x H1 => intR x fun n => (0 ≤ n ∧ n ≤ 1000) ∧ ∀ p ob, H1 p = none → ob.dict = none → Q (.ref p) (upd H1 p (.frz ob (.tup (rgV 0 n))))
theorem pe_tupRgF {e : Expr} {te : TE} {p p2 pos pos2 : Pos} (hc : X.calm = true) (hg : Gl X "tuple") (hm : X.mg "tuple" = none) (hg2 : Gl X "range") (hm2 : X.mg "range" = none) (he : PE X e te)
    (na : starEach [.Call (.Name "range" p2) [e] [] pos2] X.env = (false, eval (.Call (.Name "range" p2) [e] [] pos2) X.env) :: starEach [] X.env := by rfl) (na2 : starEach [e] X.env = (false, eval e X.env) :: starEach [] X.env := by rfl) :
    PE X (.Call (.Name "tuple" p) [.Call (.Name "range" p2) [e] [] pos2] [] pos) (vTupRgF te) := by
  refine ⟨fun pins s σ H Q I h => ?_⟩
  have h2 : tRg1 (upE te) σ H (fun a b H1 => RgOk a b ∧ ∀ q ob, H1 q = none → ob.dict = none → Q (.ref q) (upd H1 q (.frz ob (.tup (rgV a b))))) := by
    refine ⟨_, h, fun x H1 z => ?_⟩
    obtain ⟨n, e, ⟨h0, h1⟩, z1⟩ := intR_el z
    exact ⟨n, e, RgOk.of_le (Int.le_refl 0) (by omega) (by omega) h0, z1⟩
  refine Call_ (ld_blt I hg hm boot_tuple (PyProof.Rows.callWith_type1 (args_cons (thn (prg_1 hg2 hm2 (up_pe he) na2 pins s σ H _ I h2) fun x s1 ⟨r, a, b, t, u, v, H1, ex, hr, I1, ok, q⟩ => args_nil ?_) na) na))
  subst ex
  obtain ⟨b1, b2, b3, b4, b5⟩ := ok
  refine call_tuple_range (n := (b - a).toNat) (I1.ok.hd hc) hr (small_one b1 b2 b3 b4) (rangeSize_nat a b) b5 fun h' tk acc hk hi => ?_
  have I2 : Inv X pins σ H1 { s1 with heap := h', toks := tk } := I1.kept hk
  have z := frz_new (t' := tk) I2 (vals_rg hi) (by rw [rgV_length, sizeLine_eq]; omega)
  rw [Array.toArray_toList] at z
  exact ⟨.ref h'.objs.size, _, z, rfl, q _ _ (I2.hok.fresh (Nat.le_refl _)) rfl⟩
/-- a slice of a known tuple -/
def frzT (o : Option HO) (k : Obj → List V → Prop) : Prop := match o with | some (.frz ob (.tup xs)) => k ob xs | _ => False
theorem frzT_e {ob : Obj} {xs : List V} {k : Obj → List V → Prop} : frzT (some (.frz ob (.tup xs))) k = k ob xs := rfl
theorem frzT_el {o : Option HO} {k : Obj → List V → Prop} (h : frzT o k) : ∃ ob xs, o = some (.frz ob (.tup xs)) ∧ k ob xs := by
  unfold frzT at h
  split at h
  · exact ⟨_, _, rfl, h⟩
  · exact h.elim
def wSlF : V → Option Int → Option Int → Hp → VK → Prop := fun x lo hi H Q => refR x fun a => frzT (H a) fun _ xs => (HT.sIx xs.length 0 lo = 0 ∧ HT.sIx xs.length xs.length hi = xs.length → Q (.ref a) H) ∧
  (¬ (HT.sIx xs.length 0 lo = 0 ∧ HT.sIx xs.length xs.length hi = xs.length) → ∀ p ob, H p = none → ob.dict = none → Q (.ref p) (upd H p (.frz ob (.tup (cutV xs lo hi)))))
theorem sl_F : SlR X wSlF := by
  intro pins s σ H x v vl vu lo hi sl Q I rx hs pl pu h
  obtain ⟨a, rfl, h⟩ := refR_el h
  obtain ⟨ob, xs, e, q1, q2⟩ := frzT_el h
  cases rx
  have hx : SqT X.K H a xs := .inl (.inr ⟨ob, e⟩)
  obtain ⟨its, r, ht, hz⟩ := I.tuple hx
  have hlen : its.toArray.size = xs.length := by rw [List.size_toArray]; exact r.length.symm
  refine ⟨"tuple", _, PyProof.Rows.slot_tuple_getitem.lookup, ht.typeIs, ?_⟩
  by_cases hw : HT.sIx xs.length 0 lo = 0 ∧ HT.sIx xs.length xs.length hi = xs.length
  · exact getItem_tuple_whole ht hs pl pu (by rw [hlen]; exact hw) ⟨.ref a, H, I, rfl, q1 hw⟩
  · refine HT.getItem_tuple_cut ht hs pl pu (by rw [hlen]; exact hw) ?_ (by rw [hlen]; exact hz)
    rw [hlen]
    exact ⟨.ref s.heap.objs.size, _, frz_new (t' := s.toks) I ((r.drop (HT.sIx xs.length 0 lo)).take (HT.sIx xs.length xs.length hi - HT.sIx xs.length 0 lo)) (Nat.le_trans (cutV_length xs lo hi) hz), rfl, q2 hw _ _ (I.hok.fresh (Nat.le_refl _)) rfl⟩
/-- t.index(x), x in it -/
def vTIx (to ty : TE) : TE := fun σ H Q => to σ H fun x H1 => refR x fun a => frzT (H1 a) fun ob _ => ob.dict = none ∧ ty σ H1 fun y H2 => intR y fun k => frzT (H2 a) fun _ xs => ∃ ns : List Int, xs = ns.map V.int ∧ k ∈ ns ∧ Q (.int (ns.idxOf k : Nat)) H2
theorem q_tidx {o e : Expr} {to ty : TE} {apos cpos : Pos} (ho : PE X o to) (he : PE X e ty)
    (hbase : attributeBase o "index" X.env (eval o X.env) = eval o X.env := by rfl)
    (hfew : ((backTo cpos (starEach [e] X.env)).all (fun x => !x.1) && (backToKw cpos (keywordEach [] X.env)).all (fun x => x.1.isSome) && decide ([e].length + ([] : List Keyword).length + (if ([] : List Keyword).isEmpty then 0 else 1) < 30)) = true := by rfl)
    (hline : (apos.endLine == cpos.line) = true := by rfl) (hs : starEach [e] X.env = (false, eval e X.env) :: starEach [] X.env := by rfl) : PE X (.Call (.Attribute o "index" apos) [e] [] cpos) (vTIx to ty) := by
  refine ⟨fun pins s σ H Q I h => ?_⟩
  refine wpAny_Call_method_late hbase hfew hline rfl (thn (ho.run pins s σ H _ I h) fun v s1 ⟨x, H1, I1, r1, z⟩ => ?_)
  obtain ⟨a, rfl, z⟩ := refR_el z
  obtain ⟨ob, xs, e1, hd, q1⟩ := frzT_el z
  cases r1
  obtain ⟨g1, _, its, _, o2, g2, g3, _⟩ := (show ObjOk X.prog X.w H1 s1.heap a (.frz ob (.tup xs)) from I1.hok a _ e1)
  rw [g1] at g2
  cases g2
  refine ⟨"tuple", "tuple.index", PySem.F.plainAttrs_tuple, PySem.F.slot_tuple_index, PySem.F.type_tuple_index, ⟨ob, g1, g3⟩, fun b z => by cases z; exact ⟨ob, g1, hd⟩, ?_⟩
  rw [hs]
  refine Calls.callWith_builtin rfl (Calls.evalArgs_plain (Calls.spliced_cons (thn (he.run pins s1 σ H1 _ I1 q1) fun iv s2 ⟨y, H2, I2, ry, z4⟩ => Calls.spliced_nil ?_)))
  obtain ⟨k, rfl, z5⟩ := intR_el z4
  obtain ⟨tk, rfl⟩ := ry
  obtain ⟨ob2, xs2, e2, ns, rfl, hk, q⟩ := frzT_el z5
  obtain ⟨its2, rv, ht, hz⟩ := I2.tuple (X := X) (a := a) (xs := ns.map V.int) (.inl (.inr ⟨ob2, e2⟩))
  exact PySem.SeqAt.tuple_index_ints (show s2.heap.IsTuple a its2.toArray from ht) (ints_of_vals rv) hk ⟨.int (ns.idxOf k : Nat), H2, I2.tok _, ⟨_, rfl⟩, q⟩
/-- sorted(set(t)), t a tuple of ints -/
def vSortSet (te : TE) : TE := fun σ H Q => te σ H fun x H1 => refR x fun a => tupO (H1 a) fun xs => ∃ ns : List Int, xs = ns.map V.int ∧ ns.length < 64 ∧ ∀ (ms : List Int) p, ms.Pairwise (· < ·) → (∀ k, k ∈ ms ↔ k ∈ ns) → H1 p = none → Q (.ref p) (upd H1 p (.lst (ms.map V.int)))
theorem q_sortSet {e : Expr} {te : TE} {p p2 q pos : Pos} (hg : Gl X "sorted") (hm : X.mg "sorted" = none) (hg2 : Gl X "set") (hm2 : X.mg "set" = none) (he : PE X e te) (hc : X.calm = true := by rfl)
    (na : starEach [e] X.env = (false, eval e X.env) :: starEach [] X.env := by rfl) : PE X (.Call (.Name "sorted" p) [.Call (.Name "set" p2) [e] [] q] [] pos) (vSortSet te) := by
  refine ⟨fun pins s σ H Q I h => ?_⟩
  refine Call_ (ld_blt I hg hm PyProof.Rows.boot_sorted ?_)
  refine PyProof.Rows.callWith_builtin1 (PyProof.Rows.args_cons ?_ rfl) rfl rfl
  refine Call_ (ld_blt I hg2 hm2 boot_set ?_)
  refine PyProof.Rows.callWith_type1 (PyProof.Rows.args_cons (thn (he.run pins s σ H _ I h) fun v s1 ⟨x, H1, I1, r1, z⟩ => PyProof.Rows.args_nil ?_) na) na rfl
  obtain ⟨a, rfl, z⟩ := refR_el z
  obtain ⟨xs, e1, ns, rfl, h64, q⟩ := tupO_el z
  cases r1
  obtain ⟨its, rv, ht, hz⟩ := I1.tuple (X := X) (.inl e1)
  refine call_set_tupI ns (I1.ok.hd hc) (show s1.heap.IsTuple a its.toArray from ht) (ints_of_vals rv) (by unfold scanBound; omega) fun h' tk c R1 hcn k => ?_
  refine PyProof.Rows.args_nil ?_
  have I2 : Inv X pins σ H1 { s1 with heap := h', toks := tk } := I1.kept k
  refine sorted_set (s := { s1 with heap := h', toks := tk }) R1 (I2.ok.hd hc) (by omega) fun s' p out c' ms kk g o hp hg hi hs2 hm3 hl => ?_
  have hlen : (ms.map V.int).length ≤ sizeLine := by rw [List.length_map, hl, sizeLine_eq]; omega
  have hn : H1 p = none := I2.hok.fresh hp
  have J : Inv X pins σ (upd H1 p (.lst (ms.map V.int))) { ({ s1 with heap := h', toks := tk } : Shared) with heap := s'.heap, gens := s'.gens, drawn := s'.drawn, toks := s'.toks } :=
    I2.call (ch := []) (Un.laid kk hp hn) (I2.hok.laid kk hp ⟨hlen, out.toList, c', vals_of_ints hi, hg⟩) (by rw [g]; exact I2.bare) (fun _ z => nomatch z)
  have e : s' = { ({ s1 with heap := h', toks := tk } : Shared) with heap := s'.heap, gens := s'.gens, drawn := s'.drawn, toks := s'.toks } := by
    cases s'
    cases s1
    cases o
    rfl
  rw [e]
  exact ⟨.ref p, _, J, rfl, q ms p hs2 (fun k => by rw [hm3 k, decide_eq_true_eq]) hn⟩
/-- list(t) -/
def wLstT (vs : List V) (H : Hp) (Q : VK) : Prop := one1 vs fun x => refR x fun p => tupO (H p) fun xs => ∀ l, H l = none → Q (.ref l) (upd H l (.lst xs))
theorem c_lstT : CallR X (.type "list") wLstT := im_call call_list_of fun vs H Q z => by
  obtain ⟨x, e1, z1⟩ := one1_el z
  obtain ⟨p, e2, z2⟩ := refR_el z1
  obtain ⟨xs, e3, z3⟩ := tupO_el z2
  exact ⟨p, xs, by rw [e1, e2], .inr (.inl e3), z3⟩
/-- reversed(l) -/
def viRev (K : PySem.W.Frag) (tl : TE) : TI := fun σ H R => tl σ H fun x H1 => refR x fun a => lstO (H1 a) fun xs => R (Itv K a xs.length) H1
theorem qi_rev {tg e : Expr} {te : TE} {p pos : Pos} (hg : Gl X "reversed") (hm : X.mg "reversed" = none) (he : PE X e te) (hs : starEach [e] X.env = (false, eval e X.env) :: starEach [] X.env := by rfl) : PI X tg (.Call (.Name "reversed" p) [e] [] pos) (viRev X.K te) :=
  im_pi (RT.pi_revA hg hm (up_pe he) hs) fun _ _ _ h => ⟨_, h, fun _ _ z => by
    obtain ⟨a, e1, z1⟩ := refR_el z
    obtain ⟨xs, e2, z2⟩ := lstO_el z1
    exact ⟨a, xs, e1, .inl ⟨SqL.of e2, z2⟩⟩⟩
end
end OA

namespace OA
open PySem PySem.Spec PyProof.Rows L2
/-! number tuples whose object is known, as data -/
def ntW (w : W) (k : List Int → Prop) : Prop := match w with | .sh (.nt ns) => k ns | _ => False
theorem ntW_e {ns : List Int} {k : List Int → Prop} : ntW (.sh (.nt ns)) k = k ns := rfl
theorem ntW_el {w : W} {k : List Int → Prop} (h : ntW w k) : ∃ ns, w = .sh (.nt ns) ∧ k ns := by
  unfold ntW at h
  split at h
  · exact ⟨_, rfl, h⟩
  · exact h.elim
section
variable {K : PySem.W.Frag} {am : Am} {ta tb : TE} {da db : DT} {tas : TA} {das : DA}
theorem DEnv.ntup {c : Cq am} {T : List Tp} {σ : L2.St} {Γ : Gm} {Ω : Om} {H : Hp} (e : DEnv K c T σ Γ Ω H) {p : Addr} {ob : Obj} {ns : List Int} (hp : H p = none) (hd : ob.dict = none) : DEnv K c (.v (.sh (.nt ns)) (.ref p) :: T) σ Γ Ω (upd H p (.frz ob (.tup (ns.map V.int)))) :=
  e.alloc hp |>.addv ⟨p, ob, rfl, e.noEx hp, upd_same, hd⟩
/-- tuple(a list of ints) -/
def dTupF (ws : List W) (Ω : Om) (Q : DQ) : Prop := one1W ws fun w => seqW Ω w fun us => shsW us fun ds => intsD ds fun ns => Q (.sh (.nt ns)) Ω
instance r_tupF : SRC K am wTupF dTupF := ⟨fun {c T σ Γ Ω H xs ws Q R} e hs h k => by
  obtain ⟨w, v, rfl, hw, h_1⟩ := one1W_el h hs
  obtain ⟨a, vs, us, rfl, ha, hv, h_2⟩ := seqW_el e hw h_1
  obtain ⟨ds, rfl, h_3⟩ := shsW_el h_2
  obtain ⟨ns, rfl, h_4⟩ := intsD_el h_3
  show lstO (H a) _
  rw [ha, lay_ints hv.lay]
  exact fun l ob hl hd => k _ _ _ _ h_4 (e.ntup hl hd)⟩
/-- (x, y, ..) of ints -/
def dTupDF (das : DA) (Γ : Gm) (Ω : Om) (Q : DQ) : Prop := das Γ Ω fun ws Ω1 => shsW ws fun ds => intsD ds fun ns => lenOk ns ∧ Q (.sh (.nt ns)) Ω1
instance s_tupDF [s1 : SA K am tas das] : SE K am (vTupF tas) (dTupDF das) := ⟨fun {c T σ Γ Ω H Q R} e h k =>
  s1.run e h fun vs ws Ω1 H1 h1 e1 hv => by
    obtain ⟨ds, rfl, h2⟩ := shsW_el h1
    obtain ⟨ns, rfl, hl, h3⟩ := intsD_el h2
    have := lay_ints hv.lay
    subst this
    exact ⟨by rw [List.length_map]; exact hl, fun p ob hp hd => k _ _ _ _ h3 (e1.ntup hp hd)⟩⟩
/-- tuple(range(n)) -/
def dTupRgF (da : DT) (Γ : Gm) (Ω : Om) (Q : DQ) : Prop := da Γ Ω fun x Ω1 => intW x fun n => (0 ≤ n ∧ n ≤ 1000) ∧ Q (.sh (.nt ((List.range n.toNat).map fun (i : Nat) => (i : Int)))) Ω1
instance s_tupRgF [s1 : SE K am ta da] : SE K am (vTupRgF ta) (dTupRgF da) := ⟨fun {c T σ Γ Ω H Q R} e h k =>
  s1.run e h fun x w Ω1 H1 h1 e1 => by
    obtain ⟨n, rfl, hn, h2⟩ := intW_el h1
    obtain rfl : x = .int n := e1.hd
    refine ⟨hn, fun p ob hp hd => k _ _ _ _ h2 ?_⟩
    have e2 := e1.drop.ntup (ns := (List.range n.toNat).map fun (i : Nat) => (i : Int)) hp hd
    have er : rgV 0 n = ((List.range n.toNat).map fun (i : Nat) => (i : Int)).map V.int := by
      obtain ⟨m, rfl⟩ := Int.eq_ofNat_of_zero_le hn.1
      rw [rgV_nat, List.map_map]
      rfl
    rw [er]
    exact e2⟩
/-- a slice of such a tuple -/
def dSlF (x : W) (lo : Option Int) (hi : Option Int) (Ω : Om) (Q : DQ) : Prop := ntW x fun ns => Q (.sh (.nt (cutA ns lo hi))) Ω
instance r_slF : SRS K am wSlF dSlF := ⟨fun {c T σ Γ Ω H x wx lo hi Q R} e hx h k => by
  obtain ⟨ns, rfl, h1⟩ := ntW_el h
  obtain ⟨a, ob, rfl, na, ha, hd⟩ := hx
  show frzT (H a) _
  rw [ha]
  refine ⟨fun z => ?_, fun z p ob' hp hd' => ?_⟩
  · have e1 : cutA ns lo hi = ns := by
      unfold cutA
      rw [List.length_map] at z
      rw [z.1, z.2, List.drop_zero, Nat.sub_zero, List.take_length]
    rw [e1] at h1
    exact k _ _ _ _ h1 (e.addv ⟨a, ob, rfl, na, ha, hd⟩)
  · have e1 : cutV (ns.map V.int) lo hi = (cutA ns lo hi).map V.int := cutA_map V.int ns lo hi
    rw [e1]
    exact k _ _ _ _ h1 (e.ntup hp hd')⟩
/-- t.index(x) -/
def dTIx (da db : DT) (Γ : Gm) (Ω : Om) (Q : DQ) : Prop := da Γ Ω fun x Ω1 => ntW x fun ns => db Γ Ω1 fun y Ω2 => intW y fun i => i ∈ ns ∧ Q (.sh (.int (ns.idxOf i : Nat))) Ω2
instance s_tix [s1 : SE K am ta da] [s2 : SE K am tb db] : SE K am (vTIx ta tb) (dTIx da db) := ⟨fun {c T σ Γ Ω H Q R} e h k =>
  s1.run e h fun x wx Ω1 H1 h1 e1 => by
    obtain ⟨ns, rfl, h2⟩ := ntW_el h1
    obtain ⟨a, ob, rfl, na, ha, hd⟩ := e1.hd
    show frzT (H1 a) _
    rw [ha]
    refine ⟨hd, s2.run e1 h2 fun y wy Ω2 H2 h3 e2 => ?_⟩
    obtain ⟨i, rfl, hi, h4⟩ := intW_el h3
    obtain rfl : y = .int i := e2.hd
    obtain ⟨a', ob', ea, _, ha2, _⟩ := e2.drop.hd
    cases ea
    show intR (V.int i) _
    show frzT (H2 a) _
    rw [ha2]
    exact ⟨ns, rfl, hi, k _ _ _ _ h4 (e2.drop.drop.addv rfl)⟩⟩
/-- list(t) -/
def dLstT (ws : List W) (Ω : Om) (Q : DQ) : Prop := one1W ws fun w => tupW w fun ds => Q (.sh (.lst ds)) Ω
instance r_lstT : SRC K am wLstT dLstT := ⟨fun {c T σ Γ Ω H xs ws Q R} e hs h k => by
  obtain ⟨w, v, rfl, hw, h_1⟩ := one1W_el h hs
  obtain ⟨a, vs, ds, rfl, ha, hl, h_2⟩ := tupW_at hw h_1
  show tupO (H a) _
  exact rd_tupO ha fun l hl' => k _ _ _ _ h_2 (e.lst hl' hl)⟩
def dLstTO (das : DA) (Γ : Gm) (Ω : Om) (Q : DQ) : Prop := das Γ Ω fun ws Ω1 => one1W ws fun w => tupW w fun ds => ∀ p, notin p Ω1 → Q (.pt p) ((p, .lst (ds.map .sh)) :: Ω1)
instance s_lstTO [s1 : SA K am tas das] : SE K am (ownE (tCB wLstT tas)) (dLstTO das) := ⟨fun {c T σ Γ Ω H Q R} e h k =>
  s1.run e h fun vs ws Ω1 H1 h1 e1 hv => by
    obtain ⟨w, v, rfl, hw, h_1⟩ := one1W_el h1 hv
    obtain ⟨a, us, ds, rfl, ha, hl, h_2⟩ := tupW_at hw h_1
    show tupO (H1 a) _
    exact rd_tupO ha fun l hl' => k _ _ _ _ (h_2 l fun z => e1.noEx hl' (.inr z)) (e1.own hl' (e1.new hl') (.inl ⟨_, _, rfl, rfl, VOks.sh_of hl⟩))⟩
/-- reversed(a list) -/
def dRevI (da : DT) (Γ : Gm) (Ω : Om) (Q : List W → Om → Prop) : Prop := da Γ Ω fun w Ω1 => shW w fun x => match x with | .lst ds => Q (ds.reverse.map .sh) Ω1 | _ => False
instance i_rev {tl : TE} {da : DT} [s1 : SE K am tl da] : SI K am (viRev K tl) (dRevI da) := ⟨fun {c T σ Γ Ω H Q R} e h k =>
  s1.run e h fun x wx Ω1 H1 h1 e1 => by
    obtain ⟨d, rfl, h2⟩ := shW_el h1
    cases d with
    | lst ds =>
      obtain ⟨a, vs, rfl, n, ha, hl⟩ := e1.hd
      show lstO (H1 a) _
      rw [ha]
      have hlen : (ds.reverse.map W.sh).length = vs.length := by rw [List.length_map, List.length_reverse]; exact hl.len
      refine k (Itv K a vs.length) H1 (ds.reverse.map .sh) Ω1 [.pin a (.lst vs), .v (.sh (.lst ds)) (.ref a)] _ _ h2 (e1.add (t := .pin a (.lst vs)) ⟨(fun u z => by cases z), n, ha⟩) (by rw [hlen]; exact walk_rev) (fun σ Γ Ω H e => SqL.of (e.tm (.pin a (.lst vs)) (by simp)).2.2) fun S i x σ Γ Ω H H' hi e y => ?_
      obtain ⟨rfl, hx⟩ := y
      have hp := (e.tm (.pin a (.lst vs)) (by simp)).2.2
      obtain ⟨a', vs', e1, _, ha', hl'⟩ := (e.tm (.v (.sh (.lst ds)) (.ref a)) (by simp))
      cases e1
      rw [hp] at ha'
      cases ha'
      obtain ⟨w, h1, h2⟩ := (VOks.sh_of hl').at _ hx
      refine ⟨w, ?_, e.addv h2⟩
      rw [hlen] at hi
      rw [List.map_reverse, List.getElem?_reverse (by rw [List.length_map, hl'.len]; exact hi), List.length_map, hl'.len]
      exact h1
    | _ => exact (show False from h2).elim⟩
/-- l.remove(k), k in it -/
theorem m_remove {X : Cx} : MtR X "list.remove" rRemI := im_mt (r := rRemI) mt_remove fun _ _ _ _ z => z
theorem idx_at {ns : List Int} {k : Int} (h : k ∈ ns) : ns[ns.idxOf k]? = some k ∧ ∀ m : Nat, m < ns.idxOf k → ns[m]? ≠ some k := by
  induction ns with
  | nil => simp at h
  | cons n ns ih =>
    by_cases z : n = k
    · subst z
      refine ⟨by rw [List.idxOf_cons_self]; rfl, fun m hm => ?_⟩
      rw [List.idxOf_cons_self] at hm
      omega
    · have hk : k ∈ ns := by
        rcases List.mem_cons.mp h with e | e
        · exact absurd e.symm z
        · exact e
      obtain ⟨a, b⟩ := ih hk
      have e0 : (n :: ns).idxOf k = ns.idxOf k + 1 := by
        rw [List.idxOf_cons, show (n == k) = false from beq_eq_false_iff_ne.mpr z]
        rfl
      rw [e0]
      refine ⟨a, fun m hm => ?_⟩
      cases m with
      | zero => intro e; exact z (Option.some.inj e)
      | succ m => exact b m (by omega)
def dRemI (w : W) (ws : List W) (Ω : Om) (Q : DQ) : Prop := ownL Ω w fun p xs => one1W ws fun y => shsW xs fun ds => intsD ds fun ns => intW y fun k => k ∈ ns ∧ Q (.sh .non) (OA.put Ω p (.lst (((ns.eraseIdx (ns.idxOf k)).map .int).map .sh)))
instance r_remI : SRM K am rRemI dRemI := ⟨fun {c T σ Γ Ω H x w xs ws Q R} e hx hs h k => by
  obtain ⟨a, vs, us, rfl, hl, ha, hv, h1⟩ := ownL_el e hx h
  obtain ⟨y, v, rfl, hy, h2⟩ := one1W_el h1 hs
  obtain ⟨ds, rfl, h3⟩ := shsW_el h2
  obtain ⟨ns, rfl, h4⟩ := intsD_el h3
  obtain ⟨i, rfl, hi, h5⟩ := intW_el h4
  obtain rfl : v = .int i := hy
  have := lay_ints hv.lay
  subst this
  obtain ⟨g1, g2⟩ := idx_at hi
  exact ⟨a, ns, i, ns.idxOf i, rfl, rfl, ha, g1, g2, k _ _ _ _ h5 ((e.putL hl (VOks.sh_of (ints_lay _))).addv rfl)⟩⟩
end
/-! the words of a plan -/
section
variable {K : PySem.W.Frag} {A : Ad} {E0 : XK} {am : Am} {tas : TA} {das : DA}
def spShapeP (A : Ad) : Sp := fun vs H Q _ => ∃ (a : Addr) (xs : List V), vs = [.ref a, .ref A.v_PLAN_SHAPES] ∧ H a = some (.tup xs) ∧ (xs = [.str "end"] ∨ ∃ b c d e, xs = [.str "ask", b, c, d, e]) ∧ ∀ H', Same H H' → Q (.bl true) H'
def dShapeP (q : Addr) (das : DA) (Γ : Gm) (Ω : Om) (Q : DQ) : Prop := das Γ Ω fun ws Ω1 => two2W ws fun x y => y = .pt q ∧ tup0W x fun ds => (ds = [.str "end"] ∨ ∃ b c d e, ds = [.str "ask", b, c, d, e]) ∧ Q (.sh (.bl true)) Ω1
instance c_shapeP [s1 : SA K am tas das] : SE K am (vCall (spShapeP A) E0 tas) (dShapeP A.v_PLAN_SHAPES das) := ⟨fun {c T σ Γ Ω H Q R} e h k =>
  s1.run e h fun vs ws Ω1 H1 h1 e1 hv => by
    obtain ⟨w, v, w2, v2, rfl, hw, hw2, rfl, h2⟩ := two2W_el h1 hv
    obtain rfl : v2 = .ref A.v_PLAN_SHAPES := hw2
    obtain ⟨ds, rfl, h3, h4⟩ := tup0W_el h2
    obtain ⟨a, vs, rfl, n, ha, hl⟩ := hw
    refine ⟨a, vs, rfl, ha, ?_, fun H' s' => k _ _ _ _ h4 ((e1.same s').addv rfl)⟩
    rcases h3 with rfl | ⟨b, c', d, e', rfl⟩
    · obtain ⟨v1, r1, rfl, g1, rfl⟩ := hl
      obtain rfl : v1 = .str _ := g1
      exact .inl rfl
    · obtain ⟨v1, r1, rfl, g1, v2, r2, rfl, _, v3, r3, rfl, _, v4, r4, rfl, _, v5, r5, rfl, _, rfl⟩ := hl
      obtain rfl : v1 = .str _ := g1
      exact .inr ⟨_, _, _, _, rfl⟩⟩
end
end OA

namespace OA
namespace P
open PySem L2 PyProof.Rows
local macro_rules
  | `(tactic| simp! [$a,*]) => `(tactic| simp -implicitDefEqProofs only [wNeD0, wRep, tDNewK, vDc, wSortDI, dkR_e, dkR_f, e_cut, wSetL, vLstRg, wLstD, e_lock, vVals, gSub, tCKw, frzO_e, viItems, viKeys, vRev, e_while, e_for, e_asgG, gName, vgTup, vgCons_e, vgNil_e, viList, viTup, viStr, viR1, viEnum, vLc, tYes, wipe, e_seq, e_next, e_drop, e_ret, e_retN, e_sfld, e_augI, e_aug, e_dput, vIf, vTest, wInT, vVar, vFld, tC, tOp, tUn, wI0, wIC, rEq, rNe, scal, wAddS, wMulS, wCat, wNeg, wIxL, wIxT, wIxS, vPart, tNoPart, tSl, wSlL, tCB, tCons, tNil, len_s, wTupL, wLstL, wAbs, wIntB, wMin2, wMax2, vAnd, vOr, vNot, vChain, vMeth, vCall, vMake, vLM0, vLM, isLst, wAppend, wPopAt, wInsert0, vStar, vDGet, vDIn, vDNotIn, tTup, tLst, tIf, tAnd, tOr, tNot, refR_e, intR_e, blR_e, strR_e, optR_e, keyR_i, keyR_s, insO_e, lstO_e, tupO_e, tupO_f, dkO_e, one1_e, two2_e, len_r, lenO_l, lenO_t, lenO_f, lenO_d, L2.start, List.map, List.replicate, List.length_cons, List.length_nil, List.cons_append, List.nil_append, List.append_nil, List.getElem?_cons_zero, List.getElem?_cons_succ, List.set_cons_zero, List.set_cons_succ, true_and, and_true, cx_K, cx_prog, cx_w, blkK, Int.toNat_natCast, upd_same, upd_upd, if_true, if_false, decide_eq_true_eq, reduceCtorEq, reduceIte, Bool.false_eq_true, decide_true, decide_false, Bool.true_and, Bool.false_and, Bool.and_true, Bool.and_false, Bool.not_true, Bool.not_false, V.int.injEq, V.str.injEq, V.bl.injEq, putF_nil, Nat.reduceAdd, Nat.reduceSub, Nat.reduceLT, Int.reduceEq, Int.reduceLT, Int.reduceLE, Int.reduceAdd, Int.reduceSub, Int.cast_ofNat_Int, wIsi, tyR_e, tyO_l, tyO_t, tyO_f, tyO_d, tyN_n, tyN_b, tyN_i, tyN_s, tyN_r, kit_NoneType_bool, kit_NoneType_int, kit_NoneType_str, kit_NoneType_list, kit_NoneType_tuple, kit_NoneType_dict, kit_bool_bool, kit_bool_int, kit_bool_str, kit_bool_list, kit_bool_tuple, kit_bool_dict, kit_int_bool, kit_int_int, kit_int_str, kit_int_list, kit_int_tuple, kit_int_dict, kit_str_bool, kit_str_int, kit_str_str, kit_str_list, kit_str_tuple, kit_str_dict, kit_list_bool, kit_list_int, kit_list_str, kit_list_list, kit_list_tuple, kit_list_dict, kit_tuple_bool, kit_tuple_int, kit_tuple_str, kit_tuple_list, kit_tuple_tuple, kit_tuple_dict, kit_dict_bool, kit_dict_int, kit_dict_str, kit_dict_list, kit_dict_tuple, kit_dict_dict, $a,*])
  | `(tactic| dsimp! [$a,*]) => `(tactic| ((try refine Later.mk ?_); simp! [$a,*]; repeat (refine Later.mk ?_; simp! [$a,*])))
/-! the table of are_numbers -/
def amN (A : Ad) : Am := ⟨fun b => b = A.p_are_numbers, fun H => GxR.TabG H A.p_are_numbers, fun H H' k h => by
  obtain ⟨ps, h1, h2⟩ := h
  exact ⟨ps, by rw [k _ rfl]; exact h1, h2⟩, fun H b h hb => by
  obtain ⟨ps, h1, h2⟩ := h
  rw [show b = A.p_are_numbers from hb]
  exact ⟨_, h1, fun _ z => by cases z⟩⟩
class TabsN (A : outParam Ad) (am : Am) : Prop where
  m1 : am.M A.p_are_numbers
  get : ∀ H, am.I H → GxR.TabG H A.p_are_numbers
  put : ∀ H H', am.I H → (∀ b, b ≠ A.p_are_numbers → H' b = H b) → GxR.TabG H' A.p_are_numbers → am.I H'
instance tabsN_1 (A : Ad) : TabsN A (amN A) := ⟨rfl, fun _ h => h, fun _ _ _ _ h => h⟩
instance tabsN_2 (A : Ad) (a : Am) : TabsN A (amAnd a (amN A)) := ⟨.inr rfl, fun _ h => h.2.1, fun H H' i k h => ⟨a.loc H H' (fun x m => k x fun z => i.2.2 x m z) i.1, h, i.2.2⟩⟩
theorem tabN_same {H H' : Hp} {P : Addr} (e : Same H H') (h : GxR.TabG H P) : GxR.TabG H' P := let ⟨ps, h1, h2⟩ := h; ⟨ps, e _ _ h1, h2⟩
theorem warmN {H : Hp} {P : Addr} {g : Pos} (h : WarmAt H P g) : GxR.TabG H P := let ⟨ps, h1, h2, _⟩ := h; ⟨ps, h1, h2⟩
section
variable {P : Program} {w : World} {K : PySem.W.Frag} {mg : Str → Option Value} {base : Heap} {A : Ad}
theorem tbdN {am : Am} [s : TabsN A am] {c : Cq am} {T : List Tp} {σ : L2.St} {Γ : Gm} {Ω : Om} {H H' : Hp} {gp : Pos} (e : DEnv K c T σ Γ Ω H) (t : TabbedW A.p_are_numbers gp H H') : DEnv K c T σ Γ Ω H' :=
  e.step (fun b o n h => by rw [t.2.1 b (fun q => n (by rw [q]; exact s.m1))]; exact h) (s.put _ _ e.inv t.2.1 (warmN t.1))
theorem isW_go {i lo hi : Int} {H : Hp} {Q : VK} {E0 : XK} (h : lo ≤ i ∧ i ≤ hi) (k : ∀ H', Same H H' → Q (.bl true) H') :
    spD K am0 (fun ws Q => ∃ i lo hi : Int, ws = [.sh (.int i), .sh (.int lo), .sh (.int hi)] ∧ Q (.sh (.bl (decide (lo ≤ i) && decide (i ≤ hi)))) []) [.int i, .int lo, .int hi] H Q E0 := by
  refine ⟨fun _ => False, [.sh (.int i), .sh (.int lo), .sh (.int hi)], fun w Ω => w = .sh (.bl true), fun _ z => z.elim, fun _ z => z, True.intro, ⟨_, _, rfl, rfl, _, _, rfl, rfl, _, _, rfl, rfl, rfl⟩, ⟨i, lo, hi, rfl, ?_⟩, fun v H' w Ωn hw hv _ _ _ kk _ => ?_⟩
  · show W.sh (.bl (decide (lo ≤ i) && decide (i ≤ hi))) = .sh (.bl true)
    rw [decide_eq_true h.1, decide_eq_true h.2]
    rfl
  · have hw : w = .sh (.bl true) := hw
    subst hw
    rw [show v = .bl true from hv]
    exact k H' fun b o e => kk b o (fun z => z) e
def spAreN (A : Ad) : Sp := fun vs H Q _ => ∃ (a : Addr) (ob : Obj) (ns : List Int) (many : Nat), vs = [.ref a, .int many] ∧ H a = some (.frz ob (.tup (ns.map V.int))) ∧ NumsOk many ns ∧ many ≤ 8 ∧ GxR.TabG H A.p_are_numbers ∧ ∀ H1 H', TabbedW A.p_are_numbers (gpOf s_are_numbers) H H1 → Same H1 H' → Q (.bl true) H'
theorem sc_are_numbers : FnScope ["numbers", "many", "number"] ["numbers", "many"] (defScope s_are_numbers) := ⟨rfl, rfl, rfl, by decide +kernel, rfl, by decide +kernel, by decide +kernel⟩
theorem ok_are_numbers (T : Txt K mg base A) : FnOk P w K mg base CX0 4 A.are_numbers A.d_are_numbers ["numbers", "many"] (spAreN A) := by
  refine okC T.F_are_numbers T.h_are_numbers sc_are_numbers (fun vs H Q E h => ?_) (fun cdv A' outer s H vs Q E hcd hr h => ?_)
  · obtain ⟨a, ob, ns, many, rfl, _⟩ := h
    rfl
  obtain ⟨a, ob, ns, many, rfl, ha, hn, m8, hT, kk⟩ := h
  have hu := hu_of hr
  refine ⟨_, (qs_cons (q_if (PW.pt (pw_or (pt_not (q_val (pe_callB c_isi (by rfl) T.m_isinstance (by decide +kernel) (pa_cons (qv 0) (pa_cons (pe_bltn (v := .ty "tuple") (by rfl) T.m_tuple (by decide +kernel) rfl) pa_nil))))) (pw_or1 (q_cmp op_eq (pe_callB c_len (by rfl) T.m_len (by decide +kernel) (pa_cons (qv 0) pa_nil)) pe_int (nomark _))))) (pss_one (ps_ret pe_bl)) pss_nil)
    (qs_cons (q_if (pt_not (q_val (pe_allG (k := _) hr rfl T.m_all rfl T.q_are_numbers hcd (gs_by (sc := defScope s_are_numbers) (by decide +kernel)) (gn_by (XN := ["numbers", "many", "number"]) (sc := defScope s_are_numbers) (N := ["number", "many"]) (sl := [none, some 1]) (by decide +kernel)) (qi_tup (qv 0)) (fun _ _ _ _ _ _ _ _ => (pg_name (i := 0) (show List.Nodup (α := Str) ["number", "many"] by decide +kernel) rfl (Or.inl rfl))) (fun _ _ _ _ _ _ _ _ hr => have hu := hu_of hr; (q_call (ok_is_whole T) (hr.mono (by decide)) rfl T.g_is_whole T.k_is_whole T.b_is_whole pass0 (pa_cons (qv 0) (pa_cons pe_int (pa_cons (pe_op o_sub (qv 1) pe_int) pa_nil))))) (fun _ => rfl)))) (pss_one (ps_ret pe_bl)) pss_nil)
    (pss_one (ps_ret (pe_cmpR (o_eqLI hr.units) (pe_callTy c_lstT (by rfl) T.m_list (by decide +kernel) (pa_cons (qv 0) pa_nil)) (q_sortSet rfl T.m_sorted rfl T.m_set (qv 0)) (nomark _)))))), ?_⟩
  have hl0 : (ns.map V.int).length ≠ 0 := by
    rw [List.length_map]
    exact fun z => hn.ne (List.eq_nil_of_length_eq_zero z)
  dsimp! [ha]
  rw [if_neg (by omega)]
  dsimp! []
  unfold tAllG
  dsimp! [gxSl, ha]
  have na : a ≠ A.p_are_numbers := fun e => by
    obtain ⟨ps, z, _⟩ := hT
    rw [← e, ha] at z
    cases z
  have hbI : ∀ {H' : Hp}, (∃ H1, TabbedW A.p_are_numbers (gpOf s_are_numbers) H H1 ∧ Same H1 H') → H' a = some (.frz ob (.tup (ns.map V.int))) := fun ⟨H1, t1, s1⟩ => s1 _ _ (by rw [t1.2.1 a na]; exact ha)
  refine ⟨hT, ns.length, fun σ => ∃ u, σ = [u, some (.int many)], fun i H' => ∃ H1, TabbedW A.p_are_numbers (gpOf s_are_numbers) H H1 ∧ Same H1 H', fun _ => true, ⟨none, rfl⟩, fun H2 t => ⟨H2, t, Same.refl _⟩, fun H h => ⟨_, .inl (.inr ⟨ob, hbI h⟩), by simp⟩, fun i H hi h => ⟨_, .int ns[i], .inl (.inr ⟨ob, hbI h⟩), by simp [hi]⟩, ?_, ?_⟩
  · rintro i σ H0 u H2 hi ⟨u0, rfl⟩ pv ⟨rfl, hy⟩
    have hb2 := hbI pv
    have hu1 := hy _ (.inl (.inr ⟨ob, hb2⟩))
    rw [List.getElem?_map, List.getElem?_eq_getElem hi] at hu1
    obtain rfl : V.int ns[i] = u := Option.some.inj hu1
    obtain ⟨b0, b1⟩ := hn.bd _ (List.getElem_mem hi)
    dsimp! []
    refine ⟨⟨_, rfl⟩, isW_go ⟨b0, by omega⟩ fun H' s' => ⟨rfl, ?_⟩⟩
    obtain ⟨H1, t1, s1⟩ := pv
    exact ⟨H1, t1, s1.trans s'⟩
  · rintro i H2 hi pv
    rw [show ((List.range ns.length).all fun _ => true) = true by simp]
    have hb2 := hbI pv
    dsimp! [hb2, wLstT]
    intro l hl
    have hb3 : ∀ o, (upd H2 l o) a = some (.frz ob (.tup (ns.map V.int))) := fun o => by rw [upd_ne (ne_of_none hb2 hl)]; exact hb2
    dsimp! [hb3, vSortSet]
    have := hn.len
    refine ⟨ns, rfl, by omega, fun ms p up mem hp => ?_⟩
    have em : ms = ns := ext_srt (lt := fun (a b : Int) => a < b) (fun a b h => by omega) ms ns up hn.up mem
    subst em
    have npl : l ≠ p := ne_of_none upd_same hp
    refine ⟨l, p, ms, ms, rfl, rfl, by rw [upd_ne npl]; exact upd_same, upd_same, ?_⟩
    obtain ⟨H1, t1, s1⟩ := pv
    rw [if_neg (by decide), decide_eq_true rfl]
    exact kk H1 _ t1 ((s1.trans (Same.new hl)).trans (Same.new hp))
def dAreN (das : DA) (Γ : Gm) (Ω : Om) (Q : DQ) : Prop := das Γ Ω fun ws Ω1 => ∃ (ns : List Int) (many : Nat), ws = [.sh (.nt ns), .sh (.int (many : Nat))] ∧ (NumsOk many ns ∧ many ≤ 8) ∧ Q (.sh (.bl true)) Ω1
instance c_areN {am : Am} {E0 : XK} {tas : TA} {das : DA} [sT : TabsN A am] [s1 : SA K am tas das] : SE K am (vCall (spAreN A) E0 tas) (dAreN das) := ⟨fun {c T σ Γ Ω H Q R} e h k =>
  s1.run e h fun vs ws Ω1 H1 h1 e1 hv => by
    obtain ⟨ns, many, rfl, ⟨hn, m8⟩, kk⟩ := h1
    obtain ⟨v1, r1, rfl, g1, v2, r2, rfl, g2, rfl⟩ := hv
    obtain ⟨a, ob, rfl, na, ha, hd⟩ := g1
    obtain rfl : v2 = .int _ := g2
    exact ⟨a, ob, ns, many, rfl, ha, hn, m8, sT.get _ e1.inv, fun H1b H2 t1 s2 => k _ _ _ _ kk (((tbdN e1 t1).same s2).addv rfl)⟩⟩
end
end P
end OA

namespace OA
namespace P
open PySem L2
local macro_rules
  | `(tactic| simp! [$a,*]) => `(tactic| simp -implicitDefEqProofs only [wNeD0, wRep, tDNewK, vDc, wSortDI, dkR_e, dkR_f, e_cut, wSetL, vLstRg, wLstD, e_lock, vVals, gSub, tCKw, frzO_e, viItems, viKeys, vRev, e_while, e_for, e_asgG, gName, vgTup, vgCons_e, vgNil_e, viList, viTup, viStr, viR1, viEnum, vLc, tYes, wipe, e_seq, e_next, e_drop, e_ret, e_retN, e_sfld, e_augI, e_aug, e_dput, vIf, vTest, wInT, vVar, vFld, tC, tOp, tUn, wI0, wIC, rEq, rNe, scal, wAddS, wMulS, wCat, wNeg, wIxL, wIxT, wIxS, vPart, tNoPart, tSl, wSlL, tCB, tCons, tNil, len_s, wTupL, wLstL, wAbs, wIntB, wMin2, wMax2, vAnd, vOr, vNot, vChain, vMeth, vCall, vMake, vLM0, vLM, isLst, wAppend, wPopAt, wInsert0, vStar, vDGet, vDIn, vDNotIn, tTup, tLst, tIf, tAnd, tOr, tNot, refR_e, intR_e, blR_e, strR_e, optR_e, keyR_i, keyR_s, insO_e, lstO_e, tupO_e, tupO_f, dkO_e, one1_e, two2_e, len_r, lenO_l, lenO_t, lenO_f, lenO_d, L2.start, List.map, List.replicate, List.length_cons, List.length_nil, List.cons_append, List.nil_append, List.append_nil, List.getElem?_cons_zero, List.getElem?_cons_succ, List.set_cons_zero, List.set_cons_succ, true_and, and_true, cx_K, cx_prog, cx_w, blkK, Int.toNat_natCast, upd_same, upd_upd, if_true, if_false, decide_eq_true_eq, reduceCtorEq, reduceIte, Bool.false_eq_true, decide_true, decide_false, Bool.true_and, Bool.false_and, Bool.and_true, Bool.and_false, Bool.not_true, Bool.not_false, V.int.injEq, V.str.injEq, V.bl.injEq, putF_nil, Nat.reduceAdd, Nat.reduceSub, Nat.reduceLT, Int.reduceEq, Int.reduceLT, Int.reduceLE, Int.reduceAdd, Int.reduceSub, Int.cast_ofNat_Int, wIsi, tyR_e, tyO_l, tyO_t, tyO_f, tyO_d, tyN_n, tyN_b, tyN_i, tyN_s, tyN_r, kit_NoneType_bool, kit_NoneType_int, kit_NoneType_str, kit_NoneType_list, kit_NoneType_tuple, kit_NoneType_dict, kit_bool_bool, kit_bool_int, kit_bool_str, kit_bool_list, kit_bool_tuple, kit_bool_dict, kit_int_bool, kit_int_int, kit_int_str, kit_int_list, kit_int_tuple, kit_int_dict, kit_str_bool, kit_str_int, kit_str_str, kit_str_list, kit_str_tuple, kit_str_dict, kit_list_bool, kit_list_int, kit_list_str, kit_list_list, kit_list_tuple, kit_list_dict, kit_tuple_bool, kit_tuple_int, kit_tuple_str, kit_tuple_list, kit_tuple_tuple, kit_tuple_dict, kit_dict_bool, kit_dict_int, kit_dict_str, kit_dict_list, kit_dict_tuple, kit_dict_dict, $a,*])
  | `(tactic| dsimp! [$a,*]) => `(tactic| ((try refine Later.mk ?_); simp! [$a,*]; repeat (refine Later.mk ?_; simp! [$a,*])))
local macro_rules
  | `(tactic| push_cast only [$a,*]) => `(tactic| simp -implicitDefEqProofs only [Int.toNat_natCast, List.cons.injEq, W.sh.injEq, D.int.injEq, D.str.injEq, D.bl.injEq, D.tup.injEq, D.lst.injEq, W.pt.injEq, and_assoc, exists_eq_left', exists_eq_left, exists_and_left, true_implies, dIsi, tn_n, tn_b, tn_i, tn_s, tn_t, tn_nt, tn_l, kr_NoneType_bool, kr_NoneType_int, kr_NoneType_str, kr_NoneType_list, kr_NoneType_tuple, kr_NoneType_dict, kr_bool_bool, kr_bool_int, kr_bool_str, kr_bool_list, kr_bool_tuple, kr_bool_dict, kr_int_bool, kr_int_int, kr_int_str, kr_int_list, kr_int_tuple, kr_int_dict, kr_str_bool, kr_str_int, kr_str_str, kr_str_list, kr_str_tuple, kr_str_dict, kr_list_bool, kr_list_int, kr_list_str, kr_list_list, kr_list_tuple, kr_list_dict, kr_tuple_bool, kr_tuple_int, kr_tuple_str, kr_tuple_list, kr_tuple_tuple, kr_tuple_dict, kr_dict_bool, kr_dict_int, kr_dict_str, kr_dict_list, kr_dict_tuple, kr_dict_dict, dVar, dC_n, dC_b, dC_i, dC_s, dC_t, dC_r, dOp, dUn, dNil, dCons, dStar, dStarT, dTup, dLst, dLstO, dAnd, dOr, dNot, dIf, dTest, dYes, dChain, dCall, dNext, dCut, dSeq, dDrop, dRet, dRetN, dIfS, dName, sgnil_e, sgcons_e, dGtup, dAsg, dAug, dWhile, dFor, dLc, dLcO, dLc2, dDc, dI0, dIC, dEq, dIsN, isNonW, noPy, dAddS, dMulS, dCat, dCatT, dInT, dInLI, dInTI, dInS, dIxL, dIxT, dIxS, dNeg, dNoPart, dPart, dSl, dSlL, dSlT, dSlS, dRev, dDGet, dDIn, dDNew, dDNewS, dsDPut, dgSub, dSetL, isLW, dLM, dLM0, dAppend, dPopAt, dExtend, dPop, dLen, dTupL, dLstL, dAbs, dIntB, dMin2, dMax2, dMaxL, dCKw, dMaxT, dFn, dList, dTupI, dStrI, dR1, dR2, dEnum, dTAnd, dTOr, dTNot, varR_e, intW_e, blW_e, strW_e, shW_e, tyW_e, tupW_e, tupW_n, tup0W_e, lookL_e, lookD_e, lookR_e, lookR_l, seqW_e, seqW_p, dicW_e, dicW_p, ownL_p, ownD_p, keyW_i, keyW_s, one1W_e, two2W_e, shsW_nil, shsW_cons, shsW_app, shsW_map, intsD_nil, intsD_cons, intsD_map, strsD_map, cWR_n, cWR_b, cWR_i, cWR_s, flW_n, flW_b, flW_i, flW_s, fls_nil, fls_n, fls_b, fls_i, fls_s, lenW_l, lenW_d, lenW_t, lenW_n, lenW_s, lenW_p, lenO'_l, lenO'_d, atR_0, atR_1, atR_2, atR_3, atR_4, lenOk_0, lenOk_1, lenOk_2, lenOk_3, lenOk_4, lenOk_5, look_hd, put_c, put_n, notins_nil, startG, scal, List.map, List.replicate, List.length_cons, List.length_nil, List.cons_append, List.nil_append, List.append_nil, List.getElem?_cons_zero, List.getElem?_cons_succ, List.set_cons_zero, List.set_cons_succ, wipeG, true_and, and_true, if_true, if_false, decide_eq_true_eq, reduceCtorEq, reduceIte, Bool.false_eq_true, decide_true, decide_false, Bool.true_and, Bool.false_and, Bool.and_true, Bool.and_false, Bool.not_true, Bool.not_false, V.int.injEq, V.str.injEq, V.bl.injEq, Nat.reduceAdd, Nat.reduceSub, Nat.reduceLT, Int.reduceEq, Int.reduceLT, Int.reduceLE, Int.reduceAdd, Int.reduceSub, Int.cast_ofNat_Int, dForK, dOff, dMany, dMixed, dDcO, dLstVals, dEqLI, dDictO, dSortP, dTupF, dTupDF, dTupRgF, dSlF, dTIx, dLstT, dLstTO, dRevI, dRemI, ntW_e, D.nt.injEq, dShapeP, P.dAreN, dTupT, dNotInLT, dIndexLT, dEqP, pdW_s, pdW_p, dSortI, dInsert0, dCatO, dLcK, $a,*])
  | `(tactic| push_cast [$a,*]) => `(tactic| ((repeat refine LaterD.mk ?_); push_cast only [$a,*]; repeat ((refine LaterD.mk ?_); (repeat refine LaterD.mk ?_); push_cast only [$a,*])))
theorem w_ea : (Str.ofString "end" = Str.ofString "ask") = False := by simp only [eq_iff_iff, iff_false]; decide +kernel
theorem w_ae : (Str.ofString "ask" = Str.ofString "end") = False := by simp only [eq_iff_iff, iff_false]; decide +kernel
theorem if_ll {c : Prop} [Decidable c] {L A B : Prop} (h : L) (k : if decide c = true then A else B) : if c then L ∧ A else B := by
  by_cases z : c
  · rw [if_pos z]
    rw [if_pos (decide_eq_true z)] at k
    exact ⟨h, k⟩
  · rw [if_neg z]
    rw [if_neg (by rw [decide_eq_false z]; decide)] at k
    exact k
theorem sh_ints (ns : List Int) : List.map W.sh (List.map D.int ns) = ns.map fun n => W.sh (.int n) := by rw [List.map_map]; rfl
section
variable {P : Program} {w : World} {K : PySem.W.Frag} {mg : Str → Option Value} {base : Heap} {A : Ad}
theorem sc_has_shape : FnScope ["parts", "shapes"] ["parts", "shapes"] (defScope s_has_shape) := ⟨rfl, rfl, rfl, by decide +kernel, rfl, by decide +kernel, by decide +kernel⟩
theorem ok_has_shape (T : Txt K mg base A) : FnOk P w K mg base CX0 1 A.has_shape A.d_has_shape ["parts", "shapes"] (spShapeP A) := by
  refine T.F_has_shape.ok sc_has_shape (fun vs H Q E h => ?_) (fun cdv A' outer s H vs Q E hr h => ?_)
  · obtain ⟨a, xs, rfl, _⟩ := h
    rfl
  obtain ⟨a, xs, rfl, ha, hx, kk⟩ := h
  have hu := hu_of hr
  refine ⟨_, (qs_cons (q_if (PW.pt (pw_or (pt_not (q_val (pe_callB c_isi (by rfl) T.m_isinstance (by decide +kernel) (pa_cons (qv 0) (pa_cons (pe_bltn (v := .ty "tuple") (by rfl) T.m_tuple (by decide +kernel) rfl) pa_nil))))) (pw_or1 (q_cmp op_eq (pe_callB c_len (by rfl) T.m_len (by decide +kernel) (pa_cons (qv 0) pa_nil)) pe_int (nomark _))))) (pss_one (ps_ret pe_bl)) pss_nil)
    (pss_one (ps_ret (pe_cmpR (op_inDT hr.units1) (pe_tup (pa_cons (pe_ix ix_T (qv 0) pe_int (fun _ _ => rfl)) (pa_cons (pe_callB c_len (by rfl) T.m_len (by decide +kernel) (pa_cons (qv 0) pa_nil)) pa_nil))) (qv 1) (by rfl))))), ?_⟩
  have fin : ∀ (p : Addr) (s : Str) (n : Int), H p = none → PyData.strOk s = true → ([PyData.tuple [.str "end", .int 1], .tuple [.str "ask", .int 5]].any fun z => PyData.eqv z (.tuple [.str s, .int n])) = true →
      rInDT K (.ref p) (.ref A.v_PLAN_SHAPES) (upd H p (.tup [.str s, .int n])) Q := fun p s n hp hs e => by
    refine ⟨.tuple [.str s, .int n], _, .tup (SqT.of upd_same) (.cons (.str _) (.cons (.int _) .nil)), T.x_PLAN_SHAPES _, by simp [SeqAt.shaped, PyData.canLay0, PyData.canLayAll0, PyData.depth, PyData.depthAll, hs], by decide +kernel, ?_⟩
    rw [e]
    exact kk _ (Same.new hp)
  rcases hx with rfl | ⟨b, c, d, e, rfl⟩
  · dsimp! [ha, atI_zero]
    exact ⟨by decide, fun p hp => fin p _ _ hp (by decide +kernel) (by decide +kernel)⟩
  · dsimp! [ha, atI_zero]
    exact ⟨by decide, fun p hp => fin p _ _ hp (by decide +kernel) (by decide +kernel)⟩
theorem sc_plans_behind : FnScope ["plan"] ["plan"] (defScope s_plans_behind) := ⟨rfl, rfl, rfl, by decide +kernel, rfl, by decide +kernel, by decide +kernel⟩
theorem ok_plans_behind (T : Txt K mg base A) : FnOk P w K mg base CX0 1 A.plans_behind A.d_plans_behind ["plan"] (spD K am0 (fun ws Q => ∃ (d : D), ws = [.sh d] ∧ (d = endD ∨ ∃ ns q hs nz, d = askD ns q hs nz ∧ hs.length ≤ 100) ∧ Q (.sh (.lst (behP d))) [])) := by
  refine T.F_plans_behind.ok sc_plans_behind (fun vs H Q E h => by
    obtain ⟨_, ws, Qd, _, _, _, hv, hsp, _⟩ := h
    obtain ⟨d, rfl, _⟩ := hsp
    exact hv.len.symm) (fun cdv A' outer s H vs Q E hr h => ?_)
  have hu := hu_of hr
  refine spD_run (td := ?td) h (qs_cons (q_if (q_cmp op_eq (pe_ix ix_T (qv 0) pe_int (fun _ _ => rfl)) pe_str (nomark _)) (pss_one (ps_ret (pe_lst pa_nil))) pss_nil)
    (pss_one (ps_ret (pe_lst (pa_cons (pe_ix ix_T (qv 0) pe_int (fun _ _ => rfl)) (q_starT (pe_ix ix_T (qv 0) pe_int (fun _ _ => rfl)) (pa_cons (pe_ix ix_T (qv 0) pe_int (fun _ _ => rfl)) pa_nil))))))) ?hs ?hD
  case hs => (try simp only [cx_K, cx_prog, cx_w, blkK]); exact inferInstance
  rintro ws Qd ⟨d, rfl, hd, kk⟩
  rcases hd with rfl | ⟨ns, q, hs, nz, rfl, hl⟩
  · push_cast []
    exact .sh kk
  · push_cast [w_ae]
    refine ⟨lenOk_of (by simp; omega), ?_⟩
    exact .sh kk
theorem sc_behind_ask : FnScope ["numbers", "left", "speakers", "number"] ["numbers", "left"] (defScope s_behind_ask) := ⟨rfl, rfl, rfl, by decide +kernel, rfl, by decide +kernel, by decide +kernel⟩
theorem ok_behind_ask (T : Txt K mg base A) : FnOk P w K mg base CX0 1 A.behind_ask A.d_behind_ask ["numbers", "left"] (spD K am0 (fun ws Q => ∃ (ns l : List Int), ws = [.sh (.nt ns), .sh (tI l)] ∧ (ns.length ≤ 100 ∧ l.length ≤ 100) ∧ Q (.sh (.tup [.int (placeP ns l : Nat), tI (restP ns l)])) [])) := by
  refine T.F_behind_ask.ok sc_behind_ask (fun vs H Q E h => by
    obtain ⟨_, ws, Qd, _, _, _, hv, hsp, _⟩ := h
    obtain ⟨ns, l, rfl, _⟩ := hsp
    exact hv.len.symm) (fun cdv A' outer s H vs Q E hr h => ?_)
  have hu := hu_of hr
  refine spD_run (td := ?td) h (qs_cons (ps_set (i := 2) sc_behind_ask.nd rfl (Or.inr rfl) (q_lc (own := [("number", 3)]) (g := gName 3) rfl sc_behind_ask.nd (qi_tup (qv 0)) (blkOk_by (own := [("number", 3)]) (N := ["numbers", "left", "speakers", "number"]) (sc := defScope s_behind_ask) (by decide +kernel)) (fun _ _ _ _ _ => (pg_name (i := 3) sc_behind_ask.nd rfl (Or.inl rfl))) (fun _ _ _ _ _ => pts_one (q_cmp o_inTI (qv 3) (qv 1) (by rfl))) (fun _ _ _ _ _ => (qv 3))))
    (qs_cons (q_if (q_cmp op_eq (pe_callB c_len (by rfl) T.m_len (by decide +kernel) (pa_cons (qv 2) pa_nil)) pe_int (nomark _)) (pss_one (ps_ret (pe_tup (pa_cons pe_int (pa_cons (qv 1) pa_nil))))) pss_nil)
    (qs_cons (q_if (q_cmp o_gt (pe_callB c_len (by rfl) T.m_len (by decide +kernel) (pa_cons (qv 2) pa_nil)) pe_int (nomark _)) (pss_one (ps_ret (pe_tup (pa_cons (pe_op o_add (pe_callB c_len (by rfl) T.m_len (by decide +kernel) (pa_cons (qv 0) pa_nil)) pe_int) (pa_cons (qv 1) pa_nil))))) pss_nil)
    (pss_one (ps_ret (pe_tup (pa_cons (pe_op o_add (q_tidx (qv 0) (pe_ix ix_L (qv 2) pe_int (fun _ _ => rfl))) pe_int) (pa_cons (pe_callTy c_tupL (by rfl) T.m_tuple (by decide +kernel) (pa_cons (q_lc (own := [("number", 3)]) (g := gName 3) rfl sc_behind_ask.nd (qi_tup (qv 1)) (blkOk_by (own := [("number", 3)]) (N := ["numbers", "left", "speakers", "number"]) (sc := defScope s_behind_ask) (by decide +kernel)) (fun _ _ _ _ _ => (pg_name (i := 3) sc_behind_ask.nd rfl (Or.inl rfl))) (fun _ _ _ _ _ => pts_one (q_cmp op_ne (qv 3) (pe_ix ix_L (qv 2) pe_int (fun _ _ => rfl)) (nomark _))) (fun _ _ _ _ _ => (qv 3))) pa_nil)) pa_nil)))))))) ?hs ?hD
  case hs => (try simp only [cx_K, cx_prog, cx_w, blkK]); exact inferInstance
  rintro ws Qd ⟨ns, l, rfl, ⟨h1, h2⟩, kk⟩
  push_cast []
  rw [sh_ints]
  refine ⟨by simp, _, dLcP_filt (D0 := ns) (f := fun n => W.sh (.int n)) (G := fun n => W.sh (.int n)) (t := fun n => decide (n ∈ l)) (by omega) (fun n hn acc q Pn hn0 ll k1 => ?_), fun acc hacc => ?_⟩
  · push_cast []
    exact if_ll ll k1
  · have : acc = ((speakP ns l).map D.int).map W.sh := by
      rw [hacc, List.length_map, List.take_length, List.map_map]
      rfl
    subst this
    have hsm : ∀ s ∈ speakP ns l, s ∈ ns ∧ s ∈ l := fun s h => speakP_mem h
    have ep : placeP ns l = match speakP ns l with
      | [] => 0
      | [s] => ns.idxOf s + 1
      | _ => ns.length + 1 := rfl
    have er : restP ns l = match speakP ns l with
      | [s] => l.filter fun n => decide (n ≠ s)
      | _ => l := rfl
    rw [ep, er] at kk
    generalize speakP ns l = sp at *
    match sp, hsm, kk with
    | [], _, kk =>
      push_cast []
      exact .sh kk
    | [s], hsm, kk =>
      push_cast []
      refine ⟨(hsm s (by simp)).1, ?_⟩
      rw [sh_ints]
      refine ⟨by simp, _, dLcP_filt (D0 := l) (f := fun n => W.sh (.int n)) (G := fun n => W.sh (.int n)) (t := fun n => decide (n ≠ s)) (by omega) (fun n hn acc q Pn hn0 ll k1 => ?_), fun acc hacc => ?_⟩
      · push_cast []
        by_cases z : n = s
        · rw [if_neg (by simp [z])] at k1
          subst z
          push_cast []
          exact k1
        · rw [if_pos (by simp [z])] at k1
          rw [decide_eq_false z]
          push_cast []
          exact ⟨ll, k1⟩
      · have : acc = ((l.filter fun n => decide (n ≠ s)).map D.int).map W.sh := by
          rw [hacc, List.length_map, List.take_length, List.map_map]
          rfl
        subst this
        push_cast []
        exact .sh kk
    | s :: s2 :: r, _, kk =>
      push_cast []
      rw [if_pos (by omega)]
      push_cast []
      exact .sh kk
theorem sc_followed : FnScope ["plan", "group", "asks", "left", "going", "place"] ["plan", "group"] (defScope s_followed) := ⟨rfl, rfl, rfl, by decide +kernel, rfl, by decide +kernel, by decide +kernel⟩
theorem ok_followed (T : Txt K mg base A) : FnOk P w K mg base CX0 2 A.followed A.d_followed ["plan", "group"] (spD K am0 (fun ws Q => ∃ (many n : Nat) (d : D) (l : List Int), ws = [.sh d, .sh (tI l)] ∧ (PlanOk many n d ∧ n ≤ 20 ∧ many ≤ 8 ∧ l.length ≤ 8) ∧ Q (.sh (.tup [.int ((folP n d l).1 : Nat), tI (folP n d l).2])) [])) := by
  refine T.F_followed.ok sc_followed (fun vs H Q E h => by
    obtain ⟨_, ws, Qd, _, _, _, hv, hsp, _⟩ := h
    obtain ⟨many, n, d, l, rfl, _⟩ := hsp
    exact hv.len.symm) (fun cdv A' outer s H vs Q E hr h => ?_)
  have hu := hu_of hr
  refine spD_run (td := ?td) h (qs_cons (ps_set (i := 2) sc_followed.nd rfl (Or.inl rfl) pe_int)
    (qs_cons (ps_set (i := 3) sc_followed.nd rfl (Or.inl rfl) (qv 1))
    (qs_cons (ps_set (i := 4) sc_followed.nd rfl (Or.inl rfl) (qv 0))
    (qs_cons (q_while PassesOwn.never (q_cmp op_eq (pe_ix ix_T (qv 4) pe_int (fun _ _ => rfl)) pe_str (nomark _)) (qs_cons (ps_asg (q_call (ok_behind_ask T) (hr.mono (by decide)) rfl T.g_behind_ask T.k_behind_ask T.b_behind_ask pass0 (pa_cons (pe_ix ix_T (qv 4) pe_int (fun _ _ => rfl)) (pa_cons (qv 3) pa_nil))) (q_gtup (n := 2) rfl (q_gcons (pg_name (i := 5) sc_followed.nd rfl (Or.inl rfl)) (q_gcons (pg_name (i := 3) sc_followed.nd rfl (Or.inl rfl)) q_gnil))))
    (qs_cons (ps_set (i := 4) sc_followed.nd rfl (Or.inl rfl) (pe_ix ix_L (q_call (ok_plans_behind T) (hr.mono (by decide)) rfl T.g_plans_behind T.k_plans_behind T.b_plans_behind pass0 (pa_cons (qv 4) pa_nil)) (qv 5) (fun _ _ => rfl)))
    (pss_one (q_aug (i := 2) sc_followed.nd rfl (Or.inl rfl) pe_int ip_add)))))
    (pss_one (ps_ret (pe_tup (pa_cons (qv 2) (pa_cons (qv 3) pa_nil))))))))) ?hs ?hD
  case hs => (try simp only [cx_K, cx_prog, cx_w, blkK]); exact inferInstance
  rintro ws Qd ⟨many, n, d, l, rfl, ⟨hp, n20, m8, hl⟩, kk⟩
  push_cast []
  refine ⟨fun m Γ Ω => ∃ (g : D) (a : Nat) (l' : List Int) (v5 : Option W), Γ = [some (.sh d), some (.sh (tI l)), some (.sh (.int (a : Nat))), some (.sh (tI l')), some (.sh g), v5] ∧ Ω = [] ∧ PlanOk many m g ∧ m ≤ 20 ∧ l'.length ≤ 8 ∧ a + (folP m g l').1 = (folP n d l).1 ∧ (folP m g l').2 = (folP n d l).2, n, ⟨d, 0, l, none, rfl, rfl, hp, n20, hl, by omega, rfl⟩, ?_⟩
  rintro m Γ Ω ⟨g, a, l', v5, rfl, rfl, hg, m20, hl', h1, h2⟩
  have cs : g = endD ∨ ∃ k ns q hs nz, m = k + 1 ∧ g = askD ns q hs nz ∧ NumsOk many ns ∧ hs.length = ns.length ∧ PlanOk many k q ∧ (∀ h ∈ hs, PlanOk many k h) ∧ PlanOk many k nz := by
    cases m with
    | zero => exact .inl hg
    | succ k =>
      rcases hg with hg | ⟨ns, q, hs, nz, hg⟩
      · exact .inl hg
      · exact .inr ⟨k, ns, q, hs, nz, rfl, hg⟩
  rcases cs with rfl | ⟨k, ns, q, hs, nz, rfl, rfl, hn, hl3, hq, hh, hz⟩
  · rw [folP_end] at h1 h2
    rw [← h1, ← h2] at kk
    push_cast [w_ea]
    exact .sh kk
  · have := hn.len
    push_cast []
    refine ⟨l', rfl, by omega, by omega, ?_⟩
    push_cast []
    obtain ⟨b1, b2⟩ := beh_at (l := l') hl3 hq hh hz
    have ea : L2.atI (List.map W.sh (behP (askD ns q hs nz))) ((placeP ns l' : Nat) : Int) = some (.sh ((q :: (hs ++ [nz])).getD (placeP ns l') .non)) := atI_nat (by rw [List.getElem?_map, behP_ask, b1]; rfl)
    rw [folP_ask] at h1 h2
    generalize (q :: (hs ++ [nz])).getD (placeP ns l') .non = g' at *
    have := restP_len (ns := ns) (l := l')
    refine ⟨.inr (by omega), ?_⟩
    rw [atR_some ea]
    push_cast []
    exact ⟨k, by omega, g', a + 1, rfl, restP ns l', rfl, rfl, b2, by omega, by omega, by omega, h2⟩
end
end P
end OA

namespace OA
namespace P
open PySem L2
local macro_rules
  | `(tactic| push_cast only [$a,*]) => `(tactic| simp -implicitDefEqProofs only [Int.toNat_natCast, List.cons.injEq, W.sh.injEq, D.int.injEq, D.str.injEq, D.bl.injEq, D.tup.injEq, D.lst.injEq, W.pt.injEq, and_assoc, exists_eq_left', exists_eq_left, exists_and_left, true_implies, dIsi, tn_n, tn_b, tn_i, tn_s, tn_t, tn_nt, tn_l, kr_NoneType_bool, kr_NoneType_int, kr_NoneType_str, kr_NoneType_list, kr_NoneType_tuple, kr_NoneType_dict, kr_bool_bool, kr_bool_int, kr_bool_str, kr_bool_list, kr_bool_tuple, kr_bool_dict, kr_int_bool, kr_int_int, kr_int_str, kr_int_list, kr_int_tuple, kr_int_dict, kr_str_bool, kr_str_int, kr_str_str, kr_str_list, kr_str_tuple, kr_str_dict, kr_list_bool, kr_list_int, kr_list_str, kr_list_list, kr_list_tuple, kr_list_dict, kr_tuple_bool, kr_tuple_int, kr_tuple_str, kr_tuple_list, kr_tuple_tuple, kr_tuple_dict, kr_dict_bool, kr_dict_int, kr_dict_str, kr_dict_list, kr_dict_tuple, kr_dict_dict, dVar, dC_n, dC_b, dC_i, dC_s, dC_t, dC_r, dOp, dUn, dNil, dCons, dStar, dStarT, dTup, dLst, dLstO, dAnd, dOr, dNot, dIf, dTest, dYes, dChain, dCall, dNext, dCut, dSeq, dDrop, dRet, dRetN, dIfS, dName, sgnil_e, sgcons_e, dGtup, dAsg, dAug, dWhile, dFor, dLc, dLcO, dLc2, dDc, dI0, dIC, dEq, dIsN, isNonW, noPy, dAddS, dMulS, dCat, dCatT, dInT, dInLI, dInTI, dInS, dIxL, dIxT, dIxS, dNeg, dNoPart, dPart, dSl, dSlL, dSlT, dSlS, dRev, dDGet, dDIn, dDNew, dDNewS, dsDPut, dgSub, dSetL, isLW, dLM, dLM0, dAppend, dPopAt, dExtend, dPop, dLen, dTupL, dLstL, dAbs, dIntB, dMin2, dMax2, dMaxL, dCKw, dMaxT, dFn, dList, dTupI, dStrI, dR1, dR2, dEnum, dTAnd, dTOr, dTNot, varR_e, intW_e, blW_e, strW_e, shW_e, tyW_e, tupW_e, tupW_n, tup0W_e, lookL_e, lookD_e, lookR_e, lookR_l, seqW_e, seqW_p, dicW_e, dicW_p, ownL_p, ownD_p, keyW_i, keyW_s, one1W_e, two2W_e, shsW_nil, shsW_cons, shsW_app, shsW_map, intsD_nil, intsD_cons, intsD_map, strsD_map, cWR_n, cWR_b, cWR_i, cWR_s, flW_n, flW_b, flW_i, flW_s, fls_nil, fls_n, fls_b, fls_i, fls_s, lenW_l, lenW_d, lenW_t, lenW_n, lenW_s, lenW_p, lenO'_l, lenO'_d, atR_0, atR_1, atR_2, atR_3, atR_4, lenOk_0, lenOk_1, lenOk_2, lenOk_3, lenOk_4, lenOk_5, look_hd, put_c, put_n, notins_nil, startG, scal, List.map, List.replicate, List.length_cons, List.length_nil, List.cons_append, List.nil_append, List.append_nil, List.getElem?_cons_zero, List.getElem?_cons_succ, List.set_cons_zero, List.set_cons_succ, wipeG, true_and, and_true, if_true, if_false, decide_eq_true_eq, reduceCtorEq, reduceIte, Bool.false_eq_true, decide_true, decide_false, Bool.true_and, Bool.false_and, Bool.and_true, Bool.and_false, Bool.not_true, Bool.not_false, V.int.injEq, V.str.injEq, V.bl.injEq, Nat.reduceAdd, Nat.reduceSub, Nat.reduceLT, Int.reduceEq, Int.reduceLT, Int.reduceLE, Int.reduceAdd, Int.reduceSub, Int.cast_ofNat_Int, dForK, dOff, dMany, dMixed, dDcO, dLstVals, dEqLI, dDictO, dSortP, dTupF, dTupDF, dTupRgF, dSlF, dTIx, dLstT, dLstTO, dRevI, dRemI, ntW_e, D.nt.injEq, dShapeP, P.dAreN, dTupT, dNotInLT, dIndexLT, dEqP, pdW_s, pdW_p, dSortI, dInsert0, dCatO, dLcK, $a,*])
  | `(tactic| push_cast [$a,*]) => `(tactic| ((repeat refine LaterD.mk ?_); push_cast only [$a,*]; repeat ((refine LaterD.mk ?_); (repeat refine LaterD.mk ?_); push_cast only [$a,*])))
/-! the stack of plans that are looked at -/
def StkOk (many : Nat) (its : List (D × Nat)) : Prop := ∀ i x, its[i]? = some x → x.2 ≤ 20 ∧ PlanOk many (20 - x.2) x.1 ∧ i ≤ 9 * x.2
def wtS (its : List (D × Nat)) : Nat := (its.map fun x => 11 ^ (20 - x.2)).sum
def pairW (x : D × Nat) : W := .sh (.tup [x.1, .int (x.2 : Nat)])
theorem StkOk.len {many : Nat} {its : List (D × Nat)} (h : StkOk many its) : its.length ≤ 181 := by
  cases e : its.length with
  | zero => omega
  | succ n =>
    have hl : n < its.length := by omega
    obtain ⟨a, _, b⟩ := h n _ (List.getElem?_eq_getElem hl)
    omega
theorem wt_app (a b : List (D × Nat)) : wtS (a ++ b) = wtS a + wtS b := by
  unfold wtS
  rw [List.map_append, List.sum_append]
theorem wt_same (bs : List D) (a : Nat) : wtS (bs.map fun b => (b, a)) = bs.length * 11 ^ (20 - a) := by
  unfold wtS
  rw [List.map_map]
  induction bs with
  | nil => simp
  | cons b bs ih =>
    rw [List.map_cons, List.sum_cons, ih, List.length_cons, Nat.succ_mul, Nat.add_comm]
    rfl
/-- the next stack -/
def nextS (L : List (D × Nat)) (b : D × Nat) : List (D × Nat) := L ++ (behP b.1).reverse.map fun x => (x, b.2 + 1)
theorem next_ok {many : Nat} {L : List (D × Nat)} {b : D × Nat} (h : StkOk many (L ++ [b])) (m8 : many ≤ 8) : StkOk many (nextS L b) ∧ wtS (nextS L b) < wtS (L ++ [b]) ∧ b.2 ≤ 20 ∧ PlanOk many (20 - b.2) b.1 ∧ (behP b.1).length ≤ 10 := by
  obtain ⟨a20, hp, hi⟩ := h L.length b (by rw [List.getElem?_append_right (Nat.le_refl _), Nat.sub_self]; rfl)
  have w1 : wtS [b] = 11 ^ (20 - b.2) := by
    unfold wtS
    simp
  have pos : 0 < 11 ^ (20 - b.2) := Nat.pow_pos (by decide)
  have cs : (behP b.1 = []) ∨ (b.2 ≤ 19 ∧ (behP b.1).length ≤ 10 ∧ ∀ x ∈ behP b.1, PlanOk many (20 - (b.2 + 1)) x) := by
    by_cases z : b.2 = 20
    · rw [z] at hp
      left
      rw [show b.1 = endD from hp, behP_end]
    · right
      have e : 20 - b.2 = (20 - (b.2 + 1)) + 1 := by omega
      rw [e] at hp
      obtain ⟨g1, g2⟩ := behP_ok hp m8
      exact ⟨by omega, g1, g2⟩
  rcases cs with e | ⟨a19, l10, hx⟩
  · have en : nextS L b = L := by
      unfold nextS
      rw [e]
      simp
    rw [en, wt_app, w1, e]
    refine ⟨fun i x hx => h i x ?_, by omega, a20, hp, by simp⟩
    rw [List.getElem?_append_left (List.getElem?_eq_some_iff.mp hx).1]
    exact hx
  · refine ⟨fun i x hix => ?_, ?_, a20, hp, l10⟩
    · unfold nextS at hix
      rcases Nat.lt_or_ge i L.length with z | z
      · rw [List.getElem?_append_left z] at hix
        exact h i x (by rw [List.getElem?_append_left z]; exact hix)
      · rw [List.getElem?_append_right z, List.getElem?_map] at hix
        cases q : (behP b.1).reverse[i - L.length]? with
        | none => rw [q] at hix; cases hix
        | some y =>
          rw [q] at hix
          obtain rfl : (y, b.2 + 1) = x := Option.some.inj hix
          have hm : y ∈ behP b.1 := List.mem_reverse.mp (List.mem_of_getElem? q)
          have hl : i - L.length < (behP b.1).reverse.length := (List.getElem?_eq_some_iff.mp q).1
          rw [List.length_reverse] at hl
          exact ⟨by show b.2 + 1 ≤ 20; omega, hx y hm, by show i ≤ 9 * (b.2 + 1); omega⟩
    · unfold nextS
      rw [wt_app, wt_app, w1, wt_same, List.length_reverse]
      have e : 20 - b.2 = (20 - (b.2 + 1)) + 1 := by omega
      have e2 : 11 ^ (20 - b.2) = 11 ^ (20 - (b.2 + 1)) * 11 := by rw [e, Nat.pow_succ]
      have pos2 : 0 < 11 ^ (20 - (b.2 + 1)) := Nat.pow_pos (by decide)
      have := Nat.mul_le_mul_right (11 ^ (20 - (b.2 + 1))) l10
      omega
theorem PlanOk.shape {many n : Nat} {d : D} (hp : PlanOk many n d) (m8 : many ≤ 8) : d = endD ∨ ∃ ns q hs nz, d = askD ns q hs nz ∧ hs.length ≤ 100 := by
  cases n with
  | zero => exact .inl hp
  | succ k =>
    rcases hp with hp | ⟨ns, q, hs, nz, h1, h2, h3, _⟩
    · exact .inl hp
    · have := h2.len
      exact .inr ⟨ns, q, hs, nz, h1, by omega⟩
section
variable {P : Program} {w : World} {K : PySem.W.Frag} {mg : Str → Option Value} {base : Heap} {A : Ad}
theorem sc_fault_of_plan : FnScope ["plan", "many"] ["plan", "many"] (defScope s_fault_of_plan) := ⟨rfl, rfl, rfl, by decide +kernel, rfl, by decide +kernel, by decide +kernel⟩
theorem ok_fault_of_plan (T : Txt K mg base A) : FnOk P w K mg base CX0 5 A.fault_of_plan A.d_fault_of_plan ["plan", "many"] (spD K (amN A) (fun ws Q => ∃ (many n : Nat) (d : D), ws = [.sh d, .sh (.int (many : Nat))] ∧ (PlanOk many n d ∧ many ≤ 8) ∧ Q (.sh .non) [])) := by
  refine T.F_fault_of_plan.ok sc_fault_of_plan (fun vs H Q E h => by
    obtain ⟨_, ws, Qd, _, _, _, hv, hsp, _⟩ := h
    obtain ⟨many, n, d, rfl, _⟩ := hsp
    exact hv.len.symm) (fun cdv A' outer s H vs Q E hr h => ?_)
  have hu := hu_of hr
  refine spD_run (td := ?td) h (qs_cons (q_if (pt_not (q_val (q_call (ok_has_shape T) (hr.mono (by decide)) rfl T.g_has_shape T.k_has_shape T.b_has_shape pass0 (pa_cons (qv 0) (pa_cons (q_gr rfl T.c_PLAN_SHAPES) pa_nil))))) (pss_one (ps_ret pe_str)) pss_nil)
    (qs_cons (q_if (q_cmp op_eq (pe_ix ix_T (qv 0) pe_int (fun _ _ => rfl)) pe_str (nomark _)) (pss_one (ps_ret pe_non)) pss_nil)
    (qs_cons (q_if (pt_not (q_val (q_call (ok_are_numbers T) (hr.mono (by decide)) rfl T.g_are_numbers T.k_are_numbers T.b_are_numbers pass0 (pa_cons (pe_ix ix_T (qv 0) pe_int (fun _ _ => rfl)) (pa_cons (qv 1) pa_nil))))) (pss_one (ps_ret pe_str)) pss_nil)
    (qs_cons (q_if (PW.pt (pw_or (pt_not (q_val (pe_callB c_isi (by rfl) T.m_isinstance (by decide +kernel) (pa_cons (pe_ix ix_T (qv 0) pe_int (fun _ _ => rfl)) (pa_cons (pe_bltn (v := .ty "tuple") (by rfl) T.m_tuple (by decide +kernel) rfl) pa_nil))))) (pw_or1 (q_cmp op_ne (pe_callB c_len (by rfl) T.m_len (by decide +kernel) (pa_cons (pe_ix ix_T (qv 0) pe_int (fun _ _ => rfl)) pa_nil)) (pe_callB c_len (by rfl) T.m_len (by decide +kernel) (pa_cons (pe_ix ix_T (qv 0) pe_int (fun _ _ => rfl)) pa_nil)) (nomark _))))) (pss_one (ps_ret pe_str)) pss_nil)
    (pss_one (ps_ret pe_non)))))) ?hs ?hD
  case hs => (try simp only [cx_K, cx_prog, cx_w, blkK]); exact inferInstance
  rintro ws Qd ⟨many, n, d, rfl, ⟨hp, m8⟩, kk⟩
  have cs : d = endD ∨ ∃ ns q hs nz, d = askD ns q hs nz ∧ NumsOk many ns ∧ hs.length = ns.length := by
    cases n with
    | zero => exact .inl hp
    | succ k =>
      rcases hp with hp | ⟨ns, q, hs, nz, h1, h2, h3, _⟩
      · exact .inl hp
      · exact .inr ⟨ns, q, hs, nz, h1, h2, h3⟩
  rcases cs with rfl | ⟨ns, q, hs, nz, rfl, hn, hl⟩
  · push_cast []
    refine ⟨.inl trivial, ?_⟩
    push_cast []
    exact .sh kk
  · push_cast [w_ae]
    refine ⟨.inr ⟨_, rfl⟩, ?_⟩
    push_cast [w_ae]
    refine ⟨many, rfl, hn, m8, ?_⟩
    push_cast []
    have el : ((hs.length : Nat) : Int) = ((ns.length : Nat) : Int) := by rw [hl]
    push_cast [el]
    exact .sh kk
theorem sc_check_plan : FnScope ["plan", "many", "deepest", "waiting", "part", "asks", "why", "behind"] ["plan", "many"] (defScope s_check_plan) := ⟨rfl, rfl, rfl, by decide +kernel, rfl, by decide +kernel, by decide +kernel⟩
theorem ok_check_plan (T : Txt K mg base A) : FnOk P w K mg base CX0 6 A.check_plan A.d_check_plan ["plan", "many"] (spD K (amN A) (fun ws Q => ∃ (many : Nat) (d : D), ws = [.sh d, .sh (.int (many : Nat))] ∧ (PlanOk many 20 d ∧ many ≤ 8) ∧ Q (.sh .non) [])) := by
  refine T.F_check_plan.ok sc_check_plan (fun vs H Q E h => by
    obtain ⟨_, ws, Qd, _, _, _, hv, hsp, _⟩ := h
    obtain ⟨many, d, rfl, _⟩ := hsp
    exact hv.len.symm) (fun cdv A' outer s H vs Q E hr h => ?_)
  have hu := hu_of hr
  refine spD_run (td := ?td) h (qs_cons (ps_set (i := 2) sc_check_plan.nd rfl (Or.inl rfl) pe_int)
    (qs_cons (ps_set (i := 3) sc_check_plan.nd rfl (Or.inl rfl) (q_own (pe_lst (pa_cons (pe_tup (pa_cons (qv 0) (pa_cons pe_int pa_nil))) pa_nil))))
    (qs_cons (q_while PassesOwn.never (q_cmp o_gt (pe_callB c_len (by rfl) T.m_len (by decide +kernel) (pa_cons (qv 3) pa_nil)) pe_int (nomark _)) (qs_cons (ps_asg (lm0 PySem.F.slot_list_pop PySem.F.type_list_pop m_pop (qv 3)) (q_gtup (n := 2) rfl (q_gcons (pg_name (i := 4) sc_check_plan.nd rfl (Or.inl rfl)) (q_gcons (pg_name (i := 5) sc_check_plan.nd rfl (Or.inr rfl)) q_gnil))))
    (qs_cons (ps_set (i := 6) sc_check_plan.nd rfl (Or.inl rfl) (q_call (ok_fault_of_plan T) (hr.mono (by decide)) rfl T.g_fault_of_plan T.k_fault_of_plan T.b_fault_of_plan pass0 (pa_cons (qv 4) (pa_cons (qv 1) pa_nil))))
    (qs_cons (q_if (q_cmp o_notN (qv 6) pe_non (nomark _)) (pss_one ps_never) pss_nil)
    (qs_cons (ps_set (i := 2) sc_check_plan.nd rfl (Or.inl rfl) (pe_callB (c_max2 rfl) (by rfl) T.m_max (by decide +kernel) (pa_cons (qv 2) (pa_cons (qv 5) pa_nil))))
    (pss_one (ps_expr (lm1 PySem.F.slot_list_extend PySem.F.type_list_extend m_extend (qv 3) (pa_cons (q_lc (own := [("behind", 7)]) (g := gName 7) (tt := tYes) rfl sc_check_plan.nd (qi_list (q_rev (q_call (ok_plans_behind T) (hr.mono (by decide)) rfl T.g_plans_behind T.k_plans_behind T.b_plans_behind pass0 (pa_cons (qv 4) pa_nil)))) (blkOk_by (own := [("behind", 7)]) (N := ["plan", "many", "deepest", "waiting", "part", "asks", "why", "behind"]) (sc := defScope s_check_plan) (by decide +kernel)) (fun _ _ _ _ _ => (pg_name (i := 7) sc_check_plan.nd rfl (Or.inl rfl))) (fun _ _ _ _ _ => pts_nil) (fun _ _ _ _ _ => (pe_tup (pa_cons (qv 7) (pa_cons (pe_op o_add (qv 5) pe_int) pa_nil))))) pa_nil)))))))))
    (pss_one (q_if (q_cmp o_gt (qv 2) (q_gi rfl T.c_MOST_ASKS) (nomark _)) (pss_one ps_never) pss_nil))))) ?hs ?hD
  case hs => (try simp only [cx_K, cx_prog, cx_w, blkK]); exact inferInstance
  rintro ws Qd ⟨many, d, rfl, ⟨hp, m8⟩, kk⟩
  push_cast []
  intro p hp0
  push_cast []
  refine ⟨fun m Γ Ω => ∃ (its : List (D × Nat)) (de : Nat) (v4 v5 v6 v7 : Option W), Γ = [some (.sh d), some (.sh (.int (many : Nat))), some (.sh (.int (de : Nat))), some (.pt p), v4, v5, v6, v7] ∧ Ω = [(p, .lst (its.map pairW))] ∧ StkOk many its ∧ de ≤ 20 ∧ m = wtS its, _, ⟨[(d, 0)], 0, none, none, none, none, rfl, rfl, fun i x hx => ?_, by decide, rfl⟩, ?_⟩
  · cases i with
    | zero =>
      cases hx
      exact ⟨by show 0 ≤ 20; decide, hp, by show 0 ≤ 9 * 0; decide⟩
    | succ i => simp at hx
  · rintro m Γ Ω ⟨its, de, v4, v5, v6, v7, rfl, rfl, hs, h20, rfl⟩
    rcases List.eq_nil_or_concat its with rfl | ⟨L, b, rfl⟩
    · push_cast []
      rw [if_neg (by omega)]
      push_cast []
      exact kk
    · rw [List.concat_eq_append] at *
      obtain ⟨ok2, lt2, b20, hb, l10⟩ := next_ok hs m8
      have l181 := hs.len
      rw [List.length_append] at l181
      have lz : ∀ l : List (D × Nat), (List.map pairW l).length = l.length := fun l => List.length_map _
      push_cast [lz, List.length_append]
      rw [if_pos (by omega)]
      have e1 : (List.map pairW (L ++ [b]))[L.length + 1 - 1]? = some (.sh (.tup [b.1, .int (b.2 : Nat)])) := by
        rw [List.getElem?_map, Nat.add_sub_cancel, List.getElem?_append_right (Nat.le_refl _), Nat.sub_self]
        rfl
      have e2 : (List.map pairW (L ++ [b])).dropLast = List.map pairW L := by rw [List.map_append]; exact List.dropLast_concat
      have sh := hb.shape m8
      push_cast [lz, List.length_append, e1, e2]
      refine ⟨many, rfl, _, hb, m8, ?_⟩
      have em : (if (b.2 : Int) > (de : Int) then (b.2 : Int) else (de : Int)) = ((if b.2 > de then b.2 else de : Nat) : Int) := by
        by_cases z : b.2 > de
        · rw [if_pos z, if_pos (by omega)]
        · rw [if_neg z, if_neg (by omega)]
      have hm20 : (if b.2 > de then b.2 else de) ≤ 20 := by split <;> omega
      push_cast [em]
      generalize (if b.2 > de then b.2 else de) = de2 at *
      refine ⟨by simp, sh, _, dLcP_map (D0 := (behP b.1).reverse) (f := W.sh) (G := fun x => pairW (x, b.2 + 1)) (by rw [List.length_reverse]; omega) (fun x hx acc q Pn hn0 ll k1 => ?_), fun acc hacc => ?_⟩
      · push_cast []
        exact ⟨ll, k1⟩
      · have : acc = ((behP b.1).reverse.map fun x => D.tup [x, .int ((b.2 + 1 : Nat) : Int)]).map W.sh := by
          rw [hacc, List.length_map, List.take_length, List.map_map]
          rfl
        subst this
        push_cast []
        refine ⟨lenOk_of (by simp; omega), wtS (nextS L b), lt2, nextS L b, de2, rfl, ?_, ok2, hm20, rfl⟩
        unfold nextS
        rw [List.map_append, List.map_map, List.map_map]
        rfl
end
end P
end OA

namespace OA
namespace P
open PySem L2
local macro_rules
  | `(tactic| push_cast only [$a,*]) => `(tactic| simp -implicitDefEqProofs only [Int.toNat_natCast, List.cons.injEq, W.sh.injEq, D.int.injEq, D.str.injEq, D.bl.injEq, D.tup.injEq, D.lst.injEq, W.pt.injEq, and_assoc, exists_eq_left', exists_eq_left, exists_and_left, true_implies, dIsi, tn_n, tn_b, tn_i, tn_s, tn_t, tn_nt, tn_l, kr_NoneType_bool, kr_NoneType_int, kr_NoneType_str, kr_NoneType_list, kr_NoneType_tuple, kr_NoneType_dict, kr_bool_bool, kr_bool_int, kr_bool_str, kr_bool_list, kr_bool_tuple, kr_bool_dict, kr_int_bool, kr_int_int, kr_int_str, kr_int_list, kr_int_tuple, kr_int_dict, kr_str_bool, kr_str_int, kr_str_str, kr_str_list, kr_str_tuple, kr_str_dict, kr_list_bool, kr_list_int, kr_list_str, kr_list_list, kr_list_tuple, kr_list_dict, kr_tuple_bool, kr_tuple_int, kr_tuple_str, kr_tuple_list, kr_tuple_tuple, kr_tuple_dict, kr_dict_bool, kr_dict_int, kr_dict_str, kr_dict_list, kr_dict_tuple, kr_dict_dict, dVar, dC_n, dC_b, dC_i, dC_s, dC_t, dC_r, dOp, dUn, dNil, dCons, dStar, dStarT, dTup, dLst, dLstO, dAnd, dOr, dNot, dIf, dTest, dYes, dChain, dCall, dNext, dCut, dSeq, dDrop, dRet, dRetN, dIfS, dName, sgnil_e, sgcons_e, dGtup, dAsg, dAug, dWhile, dFor, dLc, dLcO, dLc2, dDc, dI0, dIC, dEq, dIsN, isNonW, noPy, dAddS, dMulS, dCat, dCatT, dInT, dInLI, dInTI, dInS, dIxL, dIxT, dIxS, dNeg, dNoPart, dPart, dSl, dSlL, dSlT, dSlS, dRev, dDGet, dDIn, dDNew, dDNewS, dsDPut, dgSub, dSetL, isLW, dLM, dLM0, dAppend, dPopAt, dExtend, dPop, dLen, dTupL, dLstL, dAbs, dIntB, dMin2, dMax2, dMaxL, dCKw, dMaxT, dFn, dList, dTupI, dStrI, dR1, dR2, dEnum, dTAnd, dTOr, dTNot, varR_e, intW_e, blW_e, strW_e, shW_e, tyW_e, tupW_e, tupW_n, tup0W_e, lookL_e, lookD_e, lookR_e, lookR_l, seqW_e, seqW_p, dicW_e, dicW_p, ownL_p, ownD_p, keyW_i, keyW_s, one1W_e, two2W_e, shsW_nil, shsW_cons, shsW_app, shsW_map, intsD_nil, intsD_cons, intsD_map, strsD_map, cWR_n, cWR_b, cWR_i, cWR_s, flW_n, flW_b, flW_i, flW_s, fls_nil, fls_n, fls_b, fls_i, fls_s, lenW_l, lenW_d, lenW_t, lenW_n, lenW_s, lenW_p, lenO'_l, lenO'_d, atR_0, atR_1, atR_2, atR_3, atR_4, lenOk_0, lenOk_1, lenOk_2, lenOk_3, lenOk_4, lenOk_5, look_hd, put_c, put_n, notins_nil, startG, scal, List.map, List.replicate, List.length_cons, List.length_nil, List.cons_append, List.nil_append, List.append_nil, List.getElem?_cons_zero, List.getElem?_cons_succ, List.set_cons_zero, List.set_cons_succ, wipeG, true_and, and_true, if_true, if_false, decide_eq_true_eq, reduceCtorEq, reduceIte, Bool.false_eq_true, decide_true, decide_false, Bool.true_and, Bool.false_and, Bool.and_true, Bool.and_false, Bool.not_true, Bool.not_false, V.int.injEq, V.str.injEq, V.bl.injEq, Nat.reduceAdd, Nat.reduceSub, Nat.reduceLT, Int.reduceEq, Int.reduceLT, Int.reduceLE, Int.reduceAdd, Int.reduceSub, Int.cast_ofNat_Int, dForK, dOff, dMany, dMixed, dDcO, dLstVals, dEqLI, dDictO, dSortP, dLstK, dNeD0, dRep, dLstRg, dTupF, dTupDF, dTupRgF, dSlF, dTIx, dLstT, dLstTO, dRevI, dRemI, ntW_e, D.nt.injEq, dShapeP, dTupT, dNotInLT, dIndexLT, dEqP, pdW_s, pdW_p, dSortI, dInsert0, dCatO, dLcK, $a,*])
  | `(tactic| push_cast [$a,*]) => `(tactic| ((repeat refine LaterD.mk ?_); push_cast only [$a,*]; repeat ((refine LaterD.mk ?_); (repeat refine LaterD.mk ?_); push_cast only [$a,*])))
theorem cut_to {α : Type} (xs : List α) (k : Nat) : cutA xs none (some (k : Int)) = xs.take k := by
  unfold cutA
  rw [HT.sIx_none, HT.sIx_nat, List.drop_zero, Nat.sub_zero]
  rcases Nat.le_total k xs.length with z | z
  · rw [Nat.min_eq_left z]
  · rw [Nat.min_eq_right z, List.take_length, List.take_of_length_le z]
theorem cut_from {α : Type} (xs : List α) (k : Nat) : cutA xs (some (k : Int)) none = xs.drop k := by
  unfold cutA
  rw [HT.sIx_none, HT.sIx_nat]
  rcases Nat.le_total k xs.length with z | z
  · rw [Nat.min_eq_left z]
    exact List.take_of_length_le (by rw [List.length_drop]; exact Nat.le_refl _)
  · rw [Nat.min_eq_right z, List.drop_eq_nil_of_le z, List.drop_length, List.take_nil]
theorem NumsOk.one {many : Nat} {n : Int} (h : 0 ≤ n ∧ n < (many : Int)) : NumsOk many [n] := ⟨by simp, List.pairwise_singleton _ _, fun m hm => by rw [List.mem_singleton.mp hm]; exact h⟩
theorem NumsOk.take {many : Nat} {ns : List Int} (h : NumsOk many ns) {k : Nat} (hk : 0 < k) : NumsOk many (ns.take k) := ⟨fun z => by
    have : (ns.take k).length = 0 := by rw [z]; rfl
    rw [List.length_take] at this
    have := List.length_pos_iff.mpr h.ne
    omega, h.up.sublist (List.take_sublist _ _), fun n hn => h.bd n (List.mem_of_mem_take hn)⟩
theorem NumsOk.drop {many : Nat} {ns : List Int} (h : NumsOk many ns) {k : Nat} (hk : k < ns.length) : NumsOk many (ns.drop k) := ⟨fun z => by
    have : (ns.drop k).length = 0 := by rw [z]; rfl
    rw [List.length_drop] at this
    omega, h.up.sublist (List.drop_sublist _ _), fun n hn => h.bd n (List.mem_of_mem_drop hn)⟩
theorem sh_ints' (ns : List Int) : List.map W.sh (List.map D.int ns) = ns.map fun n => W.sh (.int n) := by rw [List.map_map]; rfl
def spPlanD (N : Nat) : Addr → DSp := fun d ws Q => ∃ many n : Nat, ws = [.pt d, .sh (.int (many : Nat)), .sh (.int (n : Nat))] ∧ ((1 ≤ many ∧ many ≤ 8) ∧ n ≤ N) ∧ ∀ p, PlanOk many n p → Q (.sh p) []
section
variable {P : Program} {w : World} {K : PySem.W.Frag} {mg : Str → Option Value} {base : Heap} {A : Ad}
theorem sc__law_plan : FnScope ["_law_d", "_law_many_here", "_law_deep", "_law_numbers", "_law_heards", "_law_number"] ["_law_d", "_law_many_here", "_law_deep"] (defScope s__law_plan) := ⟨rfl, rfl, rfl, by decide +kernel, rfl, by decide +kernel, by decide +kernel⟩
theorem ok__law_plan (T : Txt K mg base A)(N : Nat) (G : FnOk P w K mg base CX0 (N + 2) A._law_plan A.d__law_plan ["_law_d", "_law_many_here", "_law_deep"] (spDr K (spPlanD N))) : FnOk P w K mg base CX0 (N + 3) A._law_plan A.d__law_plan ["_law_d", "_law_many_here", "_law_deep"] (spDr K (spPlanD (N + 1))) := by
  refine T.F__law_plan.ok sc__law_plan (fun vs H Q E h => by
    obtain ⟨_, _, ws, Qd, _, _, _, hv, hsp, _⟩ := h
    obtain ⟨many, n, rfl, _⟩ := hsp
    exact hv.len.symm) (fun cdv A' outer s H vs Q E hr h => ?_)
  have hu := hu_of hr
  obtain ⟨d, h⟩ := h
  refine spD_run (td := ?td) h (qs_cons (q_if (PW.pt (pw_or (q_cmp op_eq (qv 2) pe_int (nomark _)) (pw_or1 (q_cmp op_eq (q_call (ok__law_off T) (hr.mono (by omega)) rfl T.g__law_off T.k__law_off T.b__law_off pass0 (pa_cons (qv 0) (pa_cons pe_int pa_nil))) pe_int (nomark _))))) (pss_one (ps_ret (pe_tup (pa_cons pe_str pa_nil)))) pss_nil)
    (qs_cons (q_setLc (i := 3) (own := [("_law_number", 5)]) (g := gName 5) rfl sc__law_plan.nd rfl rfl (sw_true rfl rfl rfl (by decide +kernel)) (qi_r1 (by rfl) T.m_range (pa_cons (qv 1) pa_nil)) (blkOk_by (own := [("_law_number", 5)]) (N := ["_law_d", "_law_many_here", "_law_deep", "_law_numbers", "_law_heards", "_law_number"]) (sc := defScope s__law_plan) (by decide +kernel)) (fun _ _ _ _ _ => (pg_name (i := 5) sc__law_plan.nd rfl (Or.inl rfl))) (fun _ _ _ _ _ => pts_one (q_cmp op_eq (q_call (ok__law_off T) (hr.mono (by omega)) rfl T.g__law_off T.k__law_off T.b__law_off pass0 (pa_cons (qv 0) (pa_cons pe_int pa_nil))) pe_int (nomark _))) (fun _ _ _ _ _ => (qv 5)))
    (qs_cons (q_cut (q_if (q_cmp (o_eqLI hr.units) (qv 3) (pe_lst pa_nil) (nomark _)) (pss_one (ps_set (i := 3) sc__law_plan.nd rfl (Or.inl rfl) (pe_lst (pa_cons (q_call (ok__law_off T) (hr.mono (by omega)) rfl T.g__law_off T.k__law_off T.b__law_off pass0 (pa_cons (qv 0) (pa_cons (qv 1) pa_nil))) pa_nil)))) pss_nil))
    (qs_cons (q_cut (q_if (q_cmp o_gt (pe_callB c_len (by rfl) T.m_len (by decide +kernel) (pa_cons (qv 3) pa_nil)) pe_int (nomark _)) (pss_one (ps_set (i := 3) sc__law_plan.nd rfl (Or.inl rfl) (pe_slice sl_L (qv 3) po_none (q_some (pe_op o_add pe_int (q_call (ok__law_off T) (hr.mono (by omega)) rfl T.g__law_off T.k__law_off T.b__law_off pass0 (pa_cons (qv 0) (pa_cons pe_int pa_nil)))))))) pss_nil))
    (qs_cons (ps_set (i := 4) sc__law_plan.nd rfl (Or.inl rfl) (pe_callTy c_tupL (by rfl) T.m_tuple (by decide +kernel) (pa_cons (q_lc (own := [("_law_number", 5)]) (g := gName 5) (tt := tYes) rfl sc__law_plan.nd (qi_list (qv 3)) (blkOk_by (own := [("_law_number", 5)]) (N := ["_law_d", "_law_many_here", "_law_deep", "_law_numbers", "_law_heards", "_law_number"]) (sc := defScope s__law_plan) (by decide +kernel)) (fun _ _ _ _ _ => (pg_name (i := 5) sc__law_plan.nd rfl (Or.inl rfl))) (fun _ _ _ _ _ => pts_nil) (fun _ _ _ _ _ => (q_call G (hr.mono (by omega)) rfl T.g__law_plan T.k__law_plan T.b__law_plan pass0 (pa_cons (qv 0) (pa_cons (qv 1) (pa_cons (pe_op o_sub (qv 2) pe_int) pa_nil)))))) pa_nil)))
    (pss_one (ps_ret (pe_tup (pa_cons pe_str (pa_cons (pe_callTy c_tupF (by rfl) T.m_tuple (by decide +kernel) (pa_cons (qv 3) pa_nil)) (pa_cons (q_call G (hr.mono (by omega)) rfl T.g__law_plan T.k__law_plan T.b__law_plan pass0 (pa_cons (qv 0) (pa_cons (qv 1) (pa_cons (pe_op o_sub (qv 2) pe_int) pa_nil)))) (pa_cons (qv 4) (pa_cons (q_call G (hr.mono (by omega)) rfl T.g__law_plan T.k__law_plan T.b__law_plan pass0 (pa_cons (qv 0) (pa_cons (qv 1) (pa_cons (pe_op o_sub (qv 2) pe_int) pa_nil)))) pa_nil))))))))))))) ?hs ?hD
  case hs => (try simp only [cx_K, cx_prog, cx_w, blkK]); exact inferInstance
  rintro ws Qd ⟨many, n, rfl, ⟨⟨m1, m8⟩, hn⟩, kk⟩
  push_cast [spPlanD]
  cases n with
  | zero =>
    rw [if_pos (show ((0 : Nat) : Int) = 0 from rfl)]
    push_cast []
    exact .sh (kk _ (PlanOk.fin many 0))
  | succ n =>
    rw [if_neg (by omega)]
    push_cast []
    intro x hx
    refine ite2 (fun _ => ?_) (fun _ => ?_)
    · push_cast []
      exact .sh (kk _ (PlanOk.fin many _))
    · push_cast []
      refine ⟨by simp, by omega, by omega, fun i acc => ∃ ns : List Int, acc = (ns.map D.int).map W.sh ∧ ns.Pairwise (· < ·) ∧ (∀ n ∈ ns, 0 ≤ n ∧ n < (i : Int)) ∧ ns.length ≤ i, ⟨⟨[], rfl, .nil, by simp, by simp⟩, fun i w acc p hw ha hn0 => ?_⟩, ?_⟩
      · have hi : i < many := by
          have := (List.getElem?_eq_some_iff.mp hw).1
          simpa [natsW] using this
        obtain rfl : W.sh (.int (i : Nat)) = w := by
          unfold natsW at hw
          rw [List.getElem?_map, List.getElem?_range hi] at hw
          exact Option.some.inj hw
        obtain ⟨ns, rfl, up, bd, ln⟩ := ha
        push_cast []
        intro y hy
        refine ite2 (fun _ => ?_) (fun _ => ?_)
        · push_cast []
          refine ⟨by unfold lenLt; rw [sizeLine_eq, List.length_map, List.length_map]; omega, ns ++ [(i : Int)], by rw [List.map_append, List.map_append]; rfl, List.pairwise_append.mpr ⟨up, List.pairwise_singleton _ _, fun a ha b hb => ?_⟩, fun n hn => ?_, by rw [List.length_append, List.length_singleton]; omega⟩
          · rw [List.mem_singleton.mp hb]
            exact (bd a ha).2
          · rcases List.mem_append.mp hn with h | h
            · have := bd n h
              omega
            · rw [List.mem_singleton.mp h]
              omega
        · push_cast []
          exact ⟨ns, rfl, up, fun n hn => by have := bd n hn; omega, by omega⟩
      · rintro acc ⟨ns, rfl, up, bd, ln⟩
        have en : (natsW many).length = many := by simp [natsW]
        rw [en] at bd ln
        push_cast []
        refine ⟨fun Γ Ω => ∃ (ns : List Int) (v4 v5 : Option W), Γ = [some (.pt d), some (.sh (.int (many : Nat))), some (.sh (.int ((n + 1 : Nat) : Int))), some (.sh (.lst (ns.map D.int))), v4, v5] ∧ Ω = [] ∧ NumsOk many ns, ?_, ?_⟩
        · rintro Γ Ω ⟨ns, v4, v5, rfl, rfl, hns⟩
          push_cast []
          refine ⟨fun Γ Ω => ∃ (ns : List Int) (v4 v5 : Option W), Γ = [some (.pt d), some (.sh (.int (many : Nat))), some (.sh (.int ((n + 1 : Nat) : Int))), some (.sh (.lst (ns.map D.int))), v4, v5] ∧ Ω = [] ∧ NumsOk many ns, ?_, ?_⟩
          · rintro Γ Ω ⟨ns, v4, v5, rfl, rfl, hns⟩
            have nl := hns.len
            have e1 : ((n + 1 : Nat) : Int) - 1 = ((n : Nat) : Int) := by omega
            push_cast []
            rw [sh_ints']
            refine ⟨by simp, fun i acc => ∃ ps : List D, acc = ps.map W.sh ∧ ps.length = i ∧ ∀ p ∈ ps, PlanOk many n p, ⟨⟨[], rfl, rfl, by simp⟩, fun i w acc p hw ha hn0 => ?_⟩, ?_⟩
            · rw [List.getElem?_map] at hw
              cases q : ns[i]? with
              | none => rw [q] at hw; cases hw
              | some x =>
                rw [q] at hw
                obtain rfl : W.sh (.int x) = w := Option.some.inj hw
                have hi : i < ns.length := (List.getElem?_eq_some_iff.mp q).1
                obtain ⟨ps, rfl, pl, hps⟩ := ha
                push_cast [e1, spPlanD]
                refine ⟨many, rfl, n, rfl, m1, m8, by omega, fun x hx => ?_⟩
                push_cast []
                refine ⟨by unfold lenLt; rw [sizeLine_eq, List.length_map]; omega, ps ++ [x], by rw [List.map_append]; rfl, by rw [List.length_append, List.length_singleton]; omega, fun p hp => ?_⟩
                rcases List.mem_append.mp hp with h | h
                · exact hps p h
                · rw [List.mem_singleton.mp h]
                  exact hx
            · rintro acc ⟨ps, rfl, pl, hps⟩
              rw [List.length_map] at pl
              push_cast [e1, spPlanD]
              refine ⟨many, rfl, n, rfl, m1, m8, by omega, fun x hx => ?_⟩
              push_cast [e1, spPlanD]
              refine ⟨many, rfl, n, rfl, m1, m8, by omega, fun y hy => ?_⟩
              push_cast []
              exact .sh (kk _ (PlanOk.ask hns pl hx hps hy))
          · push_cast []
            refine ite2 (fun z => ?_) (fun z => ?_)
            · push_cast []
              intro x hx
              have e2 : (1 : Int) + (x : Int) = ((1 + x : Nat) : Int) := by omega
              push_cast [e2, cutA_map, cut_to]
              exact ⟨ns.take (1 + x), by rw [List.map_take], hns.take (by omega)⟩
            · push_cast []
              exact ⟨ns, rfl, hns⟩
        · push_cast []
          refine ite2 (fun z => ?_) (fun z => ?_)
          · push_cast []
            refine ⟨by omega, by omega, fun x hx => ?_⟩
            push_cast []
            exact ⟨[(x : Int)], rfl, NumsOk.one ⟨by omega, by omega⟩⟩
          · push_cast []
            exact ⟨ns, rfl, ⟨z, up, bd⟩⟩
theorem plan_0 (T : Txt K mg base A) : FnOk P w K mg base CX0 2 A._law_plan A.d__law_plan ["_law_d", "_law_many_here", "_law_deep"] (spDr K (spPlanD 0)) := by
  refine T.F__law_plan.ok sc__law_plan (fun vs H Q E h => by
    obtain ⟨_, _, ws, Qd, _, _, _, hv, hsp, _⟩ := h
    obtain ⟨many, n, rfl, _⟩ := hsp
    exact hv.len.symm) (fun cdv A' outer s H vs Q E hr h => ?_)
  have hu := hu_of hr
  obtain ⟨d, h⟩ := h
  refine spD_run (td := ?td) h (qs_cons (q_if (PW.pt (pw_or (q_cmp op_eq (qv 2) pe_int (nomark _)) (pw_or1 (q_cmp op_eq (q_call (ok__law_off T) (hr.mono (by decide)) rfl T.g__law_off T.k__law_off T.b__law_off pass0 (pa_cons (qv 0) (pa_cons pe_int pa_nil))) pe_int (nomark _))))) (pss_one (ps_ret (pe_tup (pa_cons pe_str pa_nil)))) pss_nil)
    (qs_cons (q_setLc (i := 3) (own := [("_law_number", 5)]) (g := gName 5) rfl sc__law_plan.nd rfl rfl (sw_true rfl rfl rfl (by decide +kernel)) (qi_r1 (by rfl) T.m_range (pa_cons (qv 1) pa_nil)) (blkOk_by (own := [("_law_number", 5)]) (N := ["_law_d", "_law_many_here", "_law_deep", "_law_numbers", "_law_heards", "_law_number"]) (sc := defScope s__law_plan) (by decide +kernel)) (fun _ _ _ _ _ => (pg_name (i := 5) sc__law_plan.nd rfl (Or.inl rfl))) (fun _ _ _ _ _ => pts_one (q_cmp op_eq (q_call (ok__law_off T) (hr.mono (by decide)) rfl T.g__law_off T.k__law_off T.b__law_off pass0 (pa_cons (qv 0) (pa_cons pe_int pa_nil))) pe_int (nomark _))) (fun _ _ _ _ _ => (qv 5)))
    (qs_cons (q_if (q_cmp (o_eqLI hr.units) (qv 3) (pe_lst pa_nil) (nomark _)) (pss_one (ps_set (i := 3) sc__law_plan.nd rfl (Or.inl rfl) (pe_lst (pa_cons (q_call (ok__law_off T) (hr.mono (by decide)) rfl T.g__law_off T.k__law_off T.b__law_off pass0 (pa_cons (qv 0) (pa_cons (qv 1) pa_nil))) pa_nil)))) pss_nil)
    (qs_cons (q_if (q_cmp o_gt (pe_callB c_len (by rfl) T.m_len (by decide +kernel) (pa_cons (qv 3) pa_nil)) pe_int (nomark _)) (pss_one (ps_set (i := 3) sc__law_plan.nd rfl (Or.inl rfl) (pe_slice sl_L (qv 3) po_none (q_some (pe_op o_add pe_int (q_call (ok__law_off T) (hr.mono (by decide)) rfl T.g__law_off T.k__law_off T.b__law_off pass0 (pa_cons (qv 0) (pa_cons pe_int pa_nil)))))))) pss_nil)
    (qs_cons ps_never
    (pss_one ps_never)))))) ?hs ?hD
  case hs => (try simp only [cx_K, cx_prog, cx_w, blkK]); exact inferInstance
  rintro ws Qd ⟨many, n, rfl, ⟨⟨m1, m8⟩, hn⟩, kk⟩
  obtain rfl : n = 0 := by omega
  push_cast [spPlanD]
  exact .sh (kk _ (PlanOk.fin many 0))
theorem ok_plan (T : Txt K mg base A) : ∀ N, FnOk P w K mg base CX0 (N + 2) A._law_plan A.d__law_plan ["_law_d", "_law_many_here", "_law_deep"] (spDr K (spPlanD N))
  | 0 => plan_0 T
  | N + 1 => ok__law_plan T N (ok_plan T N)
end
end P
end OA

namespace OA
namespace P
open PySem L2
local macro_rules
  | `(tactic| push_cast only [$a,*]) => `(tactic| simp -implicitDefEqProofs only [Int.toNat_natCast, List.cons.injEq, W.sh.injEq, D.int.injEq, D.str.injEq, D.bl.injEq, D.tup.injEq, D.lst.injEq, W.pt.injEq, and_assoc, exists_eq_left', exists_eq_left, exists_and_left, true_implies, dIsi, tn_n, tn_b, tn_i, tn_s, tn_t, tn_nt, tn_l, kr_NoneType_bool, kr_NoneType_int, kr_NoneType_str, kr_NoneType_list, kr_NoneType_tuple, kr_NoneType_dict, kr_bool_bool, kr_bool_int, kr_bool_str, kr_bool_list, kr_bool_tuple, kr_bool_dict, kr_int_bool, kr_int_int, kr_int_str, kr_int_list, kr_int_tuple, kr_int_dict, kr_str_bool, kr_str_int, kr_str_str, kr_str_list, kr_str_tuple, kr_str_dict, kr_list_bool, kr_list_int, kr_list_str, kr_list_list, kr_list_tuple, kr_list_dict, kr_tuple_bool, kr_tuple_int, kr_tuple_str, kr_tuple_list, kr_tuple_tuple, kr_tuple_dict, kr_dict_bool, kr_dict_int, kr_dict_str, kr_dict_list, kr_dict_tuple, kr_dict_dict, dVar, dC_n, dC_b, dC_i, dC_s, dC_t, dC_r, dOp, dUn, dNil, dCons, dStar, dStarT, dTup, dLst, dLstO, dAnd, dOr, dNot, dIf, dTest, dYes, dChain, dCall, dNext, dCut, dSeq, dDrop, dRet, dRetN, dIfS, dName, sgnil_e, sgcons_e, dGtup, dAsg, dAug, dWhile, dFor, dLc, dLcO, dLc2, dDc, dI0, dIC, dEq, dIsN, isNonW, noPy, dAddS, dMulS, dCat, dCatT, dInT, dInLI, dInTI, dInS, dIxL, dIxT, dIxS, dNeg, dNoPart, dPart, dSl, dSlL, dSlT, dSlS, dRev, dDGet, dDIn, dDNew, dDNewS, dsDPut, dgSub, dSetL, isLW, dLM, dLM0, dAppend, dPopAt, dExtend, dPop, dLen, dTupL, dLstL, dAbs, dIntB, dMin2, dMax2, dMaxL, dCKw, dMaxT, dFn, dList, dTupI, dStrI, dR1, dR2, dEnum, dTAnd, dTOr, dTNot, varR_e, intW_e, blW_e, strW_e, shW_e, tyW_e, tupW_e, tupW_n, tup0W_e, lookL_e, lookD_e, lookR_e, lookR_l, seqW_e, seqW_p, dicW_e, dicW_p, ownL_p, ownD_p, keyW_i, keyW_s, one1W_e, two2W_e, shsW_nil, shsW_cons, shsW_app, shsW_map, intsD_nil, intsD_cons, intsD_map, strsD_map, cWR_n, cWR_b, cWR_i, cWR_s, flW_n, flW_b, flW_i, flW_s, fls_nil, fls_n, fls_b, fls_i, fls_s, lenW_l, lenW_d, lenW_t, lenW_n, lenW_s, lenW_p, lenO'_l, lenO'_d, atR_0, atR_1, atR_2, atR_3, atR_4, lenOk_0, lenOk_1, lenOk_2, lenOk_3, lenOk_4, lenOk_5, look_hd, put_c, put_n, notins_nil, startG, scal, List.map, List.replicate, List.length_cons, List.length_nil, List.cons_append, List.nil_append, List.append_nil, List.getElem?_cons_zero, List.getElem?_cons_succ, List.set_cons_zero, List.set_cons_succ, wipeG, true_and, and_true, if_true, if_false, decide_eq_true_eq, reduceCtorEq, reduceIte, Bool.false_eq_true, decide_true, decide_false, Bool.true_and, Bool.false_and, Bool.and_true, Bool.and_false, Bool.not_true, Bool.not_false, V.int.injEq, V.str.injEq, V.bl.injEq, Nat.reduceAdd, Nat.reduceSub, Nat.reduceLT, Int.reduceEq, Int.reduceLT, Int.reduceLE, Int.reduceAdd, Int.reduceSub, Int.cast_ofNat_Int, dForK, dOff, dMany, dMixed, dDcO, dLstVals, dEqLI, dDictO, dSortP, dLstK, dNeD0, dRep, dLstRg, dTupF, dTupDF, dTupRgF, dSlF, dTIx, dLstT, dLstTO, dRevI, dRemI, ntW_e, D.nt.injEq, dShapeP, P.dAreN, dLcN, dZipI, dRepT, dTupT, dNotInLT, dIndexLT, dEqP, pdW_s, pdW_p, dSortI, dInsert0, dCatO, dLcK, $a,*])
  | `(tactic| push_cast [$a,*]) => `(tactic| ((repeat refine LaterD.mk ?_); push_cast only [$a,*]; repeat ((refine LaterD.mk ?_); (repeat refine LaterD.mk ?_); push_cast only [$a,*])))
def spTrD (N : Nat) : DSp := fun ws Q => ∃ (many n : Nat) (d : D) (L : List (List Int)), ws = [.sh d, .sh (.lst (L.map tI))] ∧ (PlanOk many n d ∧ n ≤ N ∧ many ≤ 8 ∧ L.length ≤ 5000 ∧ ∀ l ∈ L, l.length ≤ 8) ∧ Q (.sh (trimP n d L)) []
theorem cut_mid {α : Type} (a b : α) (l : List α) : cutA (a :: (l ++ [b])) (some 1) (some (-1)) = l := by
  unfold cutA
  have e1 : HT.sIx (a :: (l ++ [b])).length 0 (some 1) = 1 := by
    rw [show (some (1 : Int)) = some ((1 : Nat) : Int) from rfl, HT.sIx_nat]
    simp only [List.length_cons]
    omega
  have e2 : HT.sIx (a :: (l ++ [b])).length (a :: (l ++ [b])).length (some (-1)) = l.length + 1 := by
    show (if (-1 : Int) < 0 then ((-1 : Int) + (((a :: (l ++ [b])).length : Nat) : Int)).toNat else min (-1 : Int).toNat (a :: (l ++ [b])).length) = _
    rw [if_pos (by decide), List.length_cons, List.length_append, List.length_singleton]
    omega
  rw [e1, e2, Nat.add_sub_cancel, List.drop_succ_cons, List.drop_zero, List.take_left']
  rfl
def shO (o : Option W) : Prop := ∀ a, o ≠ some (.pt a)
theorem shO_n : shO none := fun _ h => by cases h
theorem shO_s {d : D} : shO (some (.sh d)) := fun _ h => by cases h
theorem atI_last {α : Type} {xs : List α} {v : α} {m : Nat} (hm : xs.length = m + 1) (h : xs[m]? = some v) : L2.atI xs (-1) = some v := by
  unfold L2.atI L2.ixN
  rw [if_neg (by decide), if_pos (by omega)]
  show xs[((-1 : Int) + (xs.length : Nat)).toNat]? = _
  rw [show ((-1 : Int) + (xs.length : Nat)).toNat = m by omega]
  exact h
section
variable {P : Program} {w : World} {K : PySem.W.Frag} {mg : Str → Option Value} {base : Heap} {A : Ad}
theorem sc_trimmed_for : FnScope ["plan", "lefts", "plans", "coming", "left", "place", "left_then", "parts", "behind", "later"] ["plan", "lefts"] (defScope s_trimmed_for) := ⟨rfl, rfl, rfl, by decide +kernel, rfl, by decide +kernel, by decide +kernel⟩
theorem ok_trimmed_for (T : Txt K mg base A)(N : Nat) (G : FnOk P w K mg base CX0 (N + 2) A.trimmed_for A.d_trimmed_for ["plan", "lefts"] (spD K am0 (spTrD N))) : FnOk P w K mg base CX0 (N + 3) A.trimmed_for A.d_trimmed_for ["plan", "lefts"] (spD K am0 (spTrD (N + 1))) := by
  refine T.F_trimmed_for.ok sc_trimmed_for (fun vs H Q E h => by
    obtain ⟨_, ws, Qd, _, _, _, hv, hsp, _⟩ := h
    obtain ⟨many, n, d, L, rfl, _⟩ := hsp
    exact hv.len.symm) (fun cdv A' outer s H vs Q E hr h => ?_)
  have hu := hu_of hr
  refine spD_run (td := ?td) h (qs_cons (q_if (PW.pt (pw_or (q_cmp op_eq (pe_ix ix_T (qv 0) pe_int (fun _ _ => rfl)) pe_str (nomark _)) (pw_or1 (q_cmp op_eq (pe_callB c_len (by rfl) T.m_len (by decide +kernel) (pa_cons (qv 1) pa_nil)) pe_int (nomark _))))) (pss_one (ps_ret (pe_tup (pa_cons pe_str pa_nil)))) pss_nil)
    (qs_cons (ps_set (i := 2) sc_trimmed_for.nd rfl (Or.inl rfl) (q_call (ok_plans_behind T) (hr.mono (by omega)) rfl T.g_plans_behind T.k_plans_behind T.b_plans_behind pass0 (pa_cons (qv 0) pa_nil)))
    (qs_cons (q_setOwn (q_setLc (i := 3) (own := [("behind", 8)]) (g := gName 8) (tt := tYes) rfl sc_trimmed_for.nd rfl rfl (sw_true rfl rfl rfl (by decide +kernel)) (qi_list (qv 2)) (blkOk_by (own := [("behind", 8)]) (N := ["plan", "lefts", "plans", "coming", "left", "place", "left_then", "parts", "behind", "later"]) (sc := defScope s_trimmed_for) (by decide +kernel)) (fun _ _ _ _ _ => (pg_name (i := 8) sc_trimmed_for.nd rfl (Or.inl rfl))) (fun _ _ _ _ _ => pts_nil) (fun _ _ _ _ _ => (q_own (pe_lst pa_nil)))))
    (qs_cons (q_for PassesOwn.never rfl (qi_list (qv 1)) (pg_name (i := 4) sc_trimmed_for.nd rfl (Or.inl rfl)) (qs_cons (ps_asg (q_call (ok_behind_ask T) (hr.mono (by omega)) rfl T.g_behind_ask T.k_behind_ask T.b_behind_ask pass0 (pa_cons (pe_ix ix_T (qv 0) pe_int (fun _ _ => rfl)) (pa_cons (qv 4) pa_nil))) (q_gtup (n := 2) rfl (q_gcons (pg_name (i := 5) sc_trimmed_for.nd rfl (Or.inl rfl)) (q_gcons (pg_name (i := 6) sc_trimmed_for.nd rfl (Or.inl rfl)) q_gnil))))
    (pss_one (ps_expr (lm1 PySem.F.slot_list_append PySem.F.type_list_append m_append (pe_ix ix_L (qv 3) (qv 5) (fun _ _ => rfl)) (pa_cons (qv 6) pa_nil))))))
    (qs_cons (q_for PassesOwn.never rfl (qi_tup (pe_tup (pa_cons pe_int (pa_cons (pe_un o_neg pe_int) pa_nil)))) (pg_name (i := 5) sc_trimmed_for.nd rfl (Or.inl rfl)) (pss_one (q_if (q_cmp op_eq (pe_callB c_len (by rfl) T.m_len (by decide +kernel) (pa_cons (pe_ix ix_L (qv 3) (qv 5) (fun _ _ => rfl)) pa_nil)) (pe_callB c_len (by rfl) T.m_len (by decide +kernel) (pa_cons (qv 1) pa_nil)) (nomark _)) (pss_one (ps_ret (q_call G (hr.mono (by omega)) rfl T.g_trimmed_for T.k_trimmed_for T.b_trimmed_for pass0 (pa_cons (pe_ix ix_L (qv 2) (qv 5) (fun _ _ => rfl)) (pa_cons (qv 1) pa_nil))))) pss_nil)))
    (qs_cons (q_setLc (i := 7) (own := [("behind", 8), ("later", 9)]) (g := vgTup 2 (vgCons (gName 8) (vgCons (gName 9) (vgNil)))) (tt := tYes) rfl sc_trimmed_for.nd rfl rfl (sw_true rfl rfl rfl (by decide +kernel)) (qi_zip (by rfl) T.m_zip (pa_cons (qv 2) (pa_cons (qv 3) pa_nil))) (blkOk_by (own := [("behind", 8), ("later", 9)]) (N := ["plan", "lefts", "plans", "coming", "left", "place", "left_then", "parts", "behind", "later"]) (sc := defScope s_trimmed_for) (by decide +kernel)) (fun _ _ _ _ _ => (q_gtup rfl (q_gcons (pg_name (i := 8) sc_trimmed_for.nd rfl (Or.inl rfl)) (q_gcons (pg_name (i := 9) sc_trimmed_for.nd rfl (Or.inl rfl)) q_gnil)))) (fun _ _ _ _ _ => pts_nil) (fun _ _ _ _ _ => (q_call G (hr.mono (by omega)) rfl T.g_trimmed_for T.k_trimmed_for T.b_trimmed_for pass0 (pa_cons (qv 8) (pa_cons (qv 9) pa_nil)))))
    (pss_one (ps_ret (pe_tup (pa_cons pe_str (pa_cons (pe_ix ix_T (qv 0) pe_int (fun _ _ => rfl)) (pa_cons (pe_ix ix_L (qv 7) pe_int (fun _ _ => rfl)) (pa_cons (pe_callTy c_tupL (by rfl) T.m_tuple (by decide +kernel) (pa_cons (pe_slice sl_L (qv 7) (q_some pe_int) (q_some (pe_un o_neg pe_int))) pa_nil)) (pa_cons (pe_ix ix_L (qv 7) (pe_un o_neg pe_int) (fun _ _ => rfl)) pa_nil)))))))))))))) ?hs ?hD
  case hs => (try simp only [cx_K, cx_prog, cx_w, blkK]); exact inferInstance
  rintro ws Qd ⟨many, n, d, L, rfl, ⟨hp, hn, m8, hL, hl8⟩, kk⟩
  rcases hp.cs with rfl | ⟨k, ns, q, hs, nz, rfl, rfl, hns, hl3, hq, hh, hz⟩
  · push_cast [spTrD]
    rw [trim_end] at kk
    exact .sh kk
  · have nsl := hns.len
    push_cast [spTrD, w_ae]
    have ll : (List.map tI L).length = L.length := List.length_map _
    by_cases zL : L = []
    · subst zL
      rw [if_pos (show ((List.map tI ([] : List (List Int))).length : Int) = 0 from rfl)]
      push_cast []
      rw [trim_nil hp] at kk
      exact .sh kk
    · have lp := List.length_pos_iff.mpr zL
      rw [if_neg (by omega)]
      push_cast [spTrD]
      rw [behP_ask]
      refine ⟨.inr (by omega), ?_⟩
      have bl : (q :: (hs ++ [nz])).length = ns.length + 2 := by simp; omega
      have b0 : (q :: (hs ++ [nz]))[0]? = some q := rfl
      have b1 : (q :: (hs ++ [nz]))[ns.length + 1]? = some nz := by
        rw [← hl3, List.getElem?_cons_succ, List.getElem?_append_right (Nat.le_refl _), Nat.sub_self]
        rfl
      have bm := beh_trim (n := k) (ns := ns) (q := q) (nz := nz) (hs := hs) (L := L) hl3
      have bok : ∀ x ∈ q :: (hs ++ [nz]), PlanOk many k x := fun x hx => (behP_ok hp m8).2 x hx
      generalize q :: (hs ++ [nz]) = bs at *
      push_cast []
      refine ⟨by simp, by rw [List.length_map]; omega, fun w _ Ω2 => True.intro, fun ps p pl nd _ => ?_⟩
      rw [List.length_map, bl] at pl
      push_cast []
      refine ⟨fun i Γ Ω => ∃ (Z : List (Addr × List W)) (v4 v5 v6 : Option W), Γ = [some (.sh (askD ns q hs nz)), some (.sh (.lst (L.map tI))), some (.sh (.lst bs)), some (.pt p), v4, v5, v6, none, none, none] ∧ Ω = (p, .lst (ptZ Z)) :: omZ Z ∧ (shO v4 ∧ shO v5 ∧ shO v6) ∧ Z.length = ns.length + 2 ∧ (p :: Z.map (·.1)).Nodup ∧ ∀ k z, Z[k]? = some z → z.2 = ((comeP ns (L.take i) k).map tI).map W.sh, ⟨ps.map fun a => (a, []), none, none, none, rfl, ?_, ⟨shO_n, shO_n, shO_n⟩, by rw [List.length_map, pl], ?_, fun k z hk => ?_⟩, ?_, ?_⟩
      · unfold ptZ omZ fresL
        rw [List.map_map, List.map_map]
        rfl
      · rw [List.map_map]
        have : ps.map ((fun x : Addr × List W => x.1) ∘ fun a => (a, [])) = ps := List.map_id ps
        rw [this]
        exact nd
      · rw [List.getElem?_map] at hk
        cases e : ps[k]? with
        | none => rw [e] at hk; cases hk
        | some a =>
          rw [e] at hk
          cases hk
          rfl
      · rintro i w Γ Ω hw ⟨Z, v4, v5, v6, rfl, rfl, ⟨s4, s5, s6⟩, zl, nd, hz2⟩
        rw [List.map_map, List.getElem?_map] at hw
        cases e : L[i]? with
        | none => rw [e] at hw; cases hw
        | some l =>
          rw [e] at hw
          obtain rfl : W.sh (tI l) = w := Option.some.inj hw
          have l8 := hl8 l (List.mem_of_getElem? e)
          have ht : L.take (i + 1) = L.take i ++ [l] := by rw [List.take_succ, e]; rfl
          have hpl : placeP ns l < Z.length := by rw [zl]; exact placeP_lt
          obtain ⟨n1, n2⟩ := List.nodup_cons.mp nd
          obtain ⟨a, us, ez⟩ : ∃ a us, Z[placeP ns l]? = some (a, us) := ⟨_, _, List.getElem?_eq_getElem hpl⟩
          have hus : us = ((comeP ns (L.take i) (placeP ns l)).map tI).map W.sh := hz2 _ _ ez
          have npa : a ≠ p := fun h => n1 (by rw [← h]; exact List.mem_map.mpr ⟨_, List.mem_of_getElem? ez, rfl⟩)
          have ea : L2.atI (ptZ Z) ((placeP ns l : Nat) : Int) = some (.pt a) := atI_nat (by rw [List.getElem?_map, ez]; rfl)
          have lk : look ((p, OD.lst (ptZ Z)) :: omZ Z) a = some (.lst us) := by rw [look_tl npa]; exact look_z n2 ez
          have pu : ∀ x, OA.put ((p, OD.lst (ptZ Z)) :: omZ Z) a (.lst x) = (p, OD.lst (ptZ Z)) :: omZ (Z.set (placeP ns l) (a, x)) := fun x => by rw [put_t (Ne.symm npa), put_z n2 ez]
          push_cast []
          refine ⟨l, rfl, by omega, by omega, ?_⟩
          push_cast []
          rw [atR_some ea]
          push_cast [lk, pu]
          have ul : us.length ≤ 5000 := by
            rw [hus, List.length_map, List.length_map]
            have := come_len (ns := ns) (L := L.take i) (k := placeP ns l)
            have := List.length_take_le i L
            have : (L.take i).length ≤ L.length := by rw [List.length_take]; omega
            omega
          refine ⟨by unfold lenLt; rw [sizeLine_eq]; omega, Z.set (placeP ns l) (a, us ++ [W.sh (tI (restP ns l))]), by rw [set_pts ez], rfl, shO_s, shO_s, shO_s, by rw [List.length_set]; exact zl, by rw [set_keys ez]; exact nd, fun k' z hk => ?_⟩
          rw [List.getElem?_set] at hk
          by_cases e' : placeP ns l = k'
          · subst e'
            rw [if_pos rfl, if_pos hpl] at hk
            cases hk
            show us ++ [W.sh (tI (restP ns l))] = _
            rw [ht, come_snoc, if_pos rfl, List.map_append, List.map_append, hus]
            rfl
          · rw [if_neg e'] at hk
            rw [ht, come_snoc, if_neg e', List.append_nil]
            exact hz2 k' z hk
      · rintro Γ Ω ⟨Z, v4, v5, v6, rfl, rfl, ⟨s4, s5, s6⟩, zl, nd, hz2⟩
        push_cast []
        have e2 : (List.map W.sh (List.map tI L)).length = L.length := by rw [List.length_map, List.length_map]
        rw [e2, List.take_length] at hz2
        obtain ⟨n1, n2⟩ := List.nodup_cons.mp nd
        have atz : ∀ j : Nat, j < ns.length + 2 → ∃ a, Z[j]? = some (a, ((comeP ns L j).map tI).map W.sh) ∧ a ≠ p := fun j hj => by
          have hj : j < Z.length := by omega
          have ez : Z[j]? = some Z[j] := List.getElem?_eq_getElem hj
          have hu := hz2 _ _ ez
          refine ⟨Z[j].1, by rw [ez, ← hu], fun h => n1 ?_⟩
          rw [← h]
          exact List.mem_map.mpr ⟨_, List.mem_of_getElem? ez, rfl⟩
        refine ⟨fun i Γ Ω => ∃ (v5 : Option W), Γ = [some (.sh (askD ns q hs nz)), some (.sh (.lst (L.map tI))), some (.sh (.lst bs)), some (.pt p), v4, v5, v6, none, none, none] ∧ Ω = (p, .lst (ptZ Z)) :: omZ Z ∧ shO v5 ∧ (1 ≤ i → ¬ ∀ l ∈ L, placeP ns l = 0) ∧ (2 ≤ i → ¬ ∀ l ∈ L, placeP ns l = ns.length + 1), ⟨v5, rfl, rfl, s5, fun h => by omega, fun h => by omega⟩, ?_, ?_⟩
        · rintro i w Γ Ω hw ⟨v5, rfl, rfl, s5, m1, m2⟩
          match i, hw, m1 with
          | 0, hw, m1 =>
            cases hw
            obtain ⟨a, ez, npa⟩ := atz 0 (by omega)
            have ea : L2.atI (ptZ Z) 0 = some (.pt a) := atI_nat (j := 0) (by rw [List.getElem?_map, ez]; rfl)
            have eq : L2.atI (List.map W.sh bs) 0 = some (.sh q) := atI_nat (j := 0) (by rw [List.getElem?_map, b0]; rfl)
            have lk : look ((p, OD.lst (ptZ Z)) :: omZ Z) a = some (.lst (((comeP ns L 0).map tI).map W.sh)) := by rw [look_tl npa]; exact look_z n2 ez
            have lc : (List.map W.sh (List.map tI (comeP ns L 0))).length = (comeP ns L 0).length := by rw [List.length_map, List.length_map]
            push_cast []
            rw [atR_some ea]
            push_cast [lk, lc, ll]
            refine ite2 (fun z => ?_) (fun z => ?_)
            · have h0 := come_all (show (comeP ns L 0).length = L.length by omega)
              push_cast []
              rw [atR_some eq]
              push_cast [spTrD]
              have et : trimP (k + 1) (askD ns q hs nz) L = trimP k q L := by rw [trim_ask, if_neg zL, if_pos (come_all' h0)]
              rw [et] at kk
              exact ⟨many, k, L, rfl, hq, by omega, m8, hL, hl8, .sh kk⟩
            · push_cast []
              exact ⟨shO_s, fun _ h => z (by have := come_all' h; omega), fun h => by omega⟩
          | 1, hw, m1 =>
            cases hw
            have m1' := m1 (Nat.le_refl 1)
            obtain ⟨a, ez, npa⟩ := atz (ns.length + 1) (by omega)
            have ea : L2.atI (ptZ Z) (-1) = some (.pt a) := atI_last (m := ns.length + 1) (by rw [List.length_map, zl]) (by rw [List.getElem?_map, ez]; rfl)
            have eq : L2.atI (List.map W.sh bs) (-1) = some (.sh nz) := atI_last (m := ns.length + 1) (by rw [List.length_map, bl]) (by rw [List.getElem?_map, b1]; rfl)
            have lk : look ((p, OD.lst (ptZ Z)) :: omZ Z) a = some (.lst (((comeP ns L (ns.length + 1)).map tI).map W.sh)) := by rw [look_tl npa]; exact look_z n2 ez
            have lc : (List.map W.sh (List.map tI (comeP ns L (ns.length + 1)))).length = (comeP ns L (ns.length + 1)).length := by rw [List.length_map, List.length_map]
            push_cast []
            rw [atR_some ea]
            push_cast [lk, lc, ll]
            refine ite2 (fun z => ?_) (fun z => ?_)
            · have h0 := come_all (show (comeP ns L (ns.length + 1)).length = L.length by omega)
              push_cast []
              rw [atR_some eq]
              push_cast [spTrD]
              have et : trimP (k + 1) (askD ns q hs nz) L = trimP k nz L := by rw [trim_ask, if_neg zL, if_neg fun h => m1' (come_all h), if_pos (come_all' h0)]
              rw [et] at kk
              exact ⟨many, k, L, rfl, hz, by omega, m8, hL, hl8, .sh kk⟩
            · push_cast []
              exact ⟨shO_s, fun _ => m1', fun _ h => z (by have := come_all' h; omega)⟩
          | i + 2, hw, m1 => simp at hw
        · rintro Γ Ω ⟨v5, rfl, rfl, s5, m1, m2⟩
          have k1 := m1 (by decide)
          have k2 := m2 (by decide)
          have et : trimP (k + 1) (askD ns q hs nz) L = askD ns (trimP k q (comeP ns L 0)) (hs.mapIdx fun j h => trimP k h (comeP ns L (j + 1))) (trimP k nz (comeP ns L (ns.length + 1))) := by rw [trim_ask, if_neg zL, if_neg fun h => k1 (come_all h), if_neg fun h => k2 (come_all h)]
          rw [et] at kk
          let Z2 : List (Addr × List D) := Z.mapIdx fun j z => (z.1, (comeP ns L j).map tI)
          have hZ : Z = Z2.map fun z => (z.1, z.2.map W.sh) := by
            refine List.ext_getElem? fun j => ?_
            rw [List.getElem?_map, List.getElem?_mapIdx]
            cases ez : Z[j]? with
            | none => rfl
            | some z =>
              have := hz2 j z ez
              show some z = some (z.1, ((comeP ns L j).map tI).map W.sh)
              rw [← this]
          have hk2 : Z2.map (·.1) = Z.map (·.1) := by
            have := congrArg (List.map (·.1)) hZ
            rw [List.map_map] at this
            exact this.symm
          have eΩ : ((p, OD.lst (ptZ Z)) :: omZ Z : Om) = (p, OD.lst (([] : List D).map W.sh ++ Z2.map fun z => W.pt z.1)) :: ((Z2.map fun z => (z.1, OD.lst (z.2.map W.sh))) ++ []) := by
            rw [List.append_nil]
            unfold ptZ omZ
            generalize hz3 : Z2 = Z3 at hZ ⊢
            rw [hZ, List.map_map, List.map_map]
            rfl
          have hfz : Z2.map (fun z => D.lst z.2) = (List.range (ns.length + 2)).map fun j => D.lst ((comeP ns L j).map tI) := by
            refine List.ext_getElem? fun j => ?_
            rw [List.getElem?_map, List.getElem?_mapIdx, List.getElem?_map]
            rcases Nat.lt_or_ge j (ns.length + 2) with hj | hj
            · rw [List.getElem?_eq_getElem (show j < Z.length by omega), List.getElem?_range hj]
              rfl
            · rw [List.getElem?_eq_none (show Z.length ≤ j by omega), List.getElem?_eq_none (by rw [List.length_range]; exact hj)]
              rfl
          rw [eΩ]
          refine .mk (frz_all Z2 [] (by rw [hk2]; exact nd) (fun a ha w hw e => ?_) (fun a _ => ⟨fun h => by simp at h, fun _ => rfl⟩) ?_)
          · rw [e] at hw
            rw [hk2] at ha
            have nap : a ≠ p := fun e => n1 (by rw [← e]; exact ha)
            simp at hw
            rcases hw with h | h | h | h
            · exact nap h
            · exact s4 a h.symm
            · exact s5 a h.symm
            · exact s6 a h.symm
          · rw [List.nil_append, hfz]
            push_cast [OA.subG, subW, Option.map_some, Option.map_none]
            have ew : List.map (fun p : D × D => W.sh (D.tup [p.1, p.2])) (bs.zip ((List.range (ns.length + 2)).map fun j => D.lst ((comeP ns L j).map tI))) = (List.range (ns.length + 2)).map fun j => W.sh (D.tup [bs.getD j .non, .lst ((comeP ns L j).map tI)]) := by
              refine List.ext_getElem? fun j => ?_
              rw [List.getElem?_map, List.getElem?_map]
              rcases Nat.lt_or_ge j (ns.length + 2) with hj | hj
              · have hb : bs[j]? = some (bs.getD j .non) := by
                  rw [List.getD_eq_getElem?_getD, List.getElem?_eq_getElem (show j < bs.length by omega)]
                  rfl
                rw [List.getElem?_zip_eq_some (z := (bs.getD j .non, D.lst ((comeP ns L j).map tI))) |>.mpr ⟨hb, by rw [List.getElem?_map, List.getElem?_range hj]; rfl⟩, List.getElem?_range hj]
                rfl
              · rw [List.getElem?_eq_none (by rw [List.length_zip, bl, List.length_map, List.length_range]; omega), List.getElem?_eq_none (by rw [List.length_range]; exact hj)]
                rfl
            have ep : ((List.range (ns.length + 2)).map fun j => trimP k (bs.getD j .non) (comeP ns L j)) = bs.mapIdx fun j b => trimP k b (comeP ns L j) := by
              refine List.ext_getElem? fun j => ?_
              rw [List.getElem?_map, List.getElem?_mapIdx]
              rcases Nat.lt_or_ge j (ns.length + 2) with hj | hj
              · rw [List.getElem?_range hj]
                show some (trimP k (bs.getD j .non) (comeP ns L j)) = _
                rw [List.getD_eq_getElem?_getD, List.getElem?_eq_getElem (show j < bs.length by omega)]
                rfl
              · rw [List.getElem?_eq_none (show bs.length ≤ j by omega), List.getElem?_eq_none (by rw [List.length_range]; exact hj)]
                rfl
            rw [ew]
            refine ⟨by simp, _, dLcP_map (D0 := List.range (ns.length + 2)) (f := fun j => W.sh (D.tup [bs.getD j .non, .lst ((comeP ns L j).map tI)])) (G := fun j => W.sh (trimP k (bs.getD j .non) (comeP ns L j))) (by rw [List.length_range]; omega) (fun j hj acc u Pn hn0 lt2 kp => ?_), fun acc hacc => ?_⟩
            · have hj := List.mem_range.mp hj
              have cl := come_len (ns := ns) (L := L) (k := j)
              have hb : PlanOk many k (bs.getD j .non) := by
                rw [List.getD_eq_getElem?_getD, List.getElem?_eq_getElem (show j < bs.length by omega)]
                exact bok _ (List.getElem_mem _)
              push_cast [spTrD]
              refine ⟨many, k, comeP ns L j, rfl, hb, by omega, m8, by omega, fun l hl => ?_, lt2, kp⟩
              obtain ⟨l0, h1, _, rfl⟩ := come_sub hl
              have := hl8 l0 h1
              have := restP_len (ns := ns) (l := l0)
              omega
            · have : acc = (trimP k q (comeP ns L 0) :: ((hs.mapIdx fun j h => trimP k h (comeP ns L (j + 1))) ++ [trimP k nz (comeP ns L (ns.length + 1))])).map W.sh := by
                rw [hacc, List.length_map, List.take_length, bm, ← ep, List.map_map]
                rfl
              subst this
              have lm : (hs.mapIdx fun j h => trimP k h (comeP ns L (j + 1))).length = ns.length := by rw [List.length_mapIdx, hl3]
              generalize (hs.mapIdx fun j h => trimP k h (comeP ns L (j + 1))) = hs' at *
              generalize trimP k q (comeP ns L 0) = q' at *
              generalize trimP k nz (comeP ns L (ns.length + 1)) = nz' at *
              have e1 : L2.atI (List.map W.sh (q' :: (hs' ++ [nz']))) (-1) = some (.sh nz') := atI_last (m := ns.length + 1) (by simp; omega) (by
                rw [List.getElem?_map, ← lm, List.getElem?_cons_succ, List.getElem?_append_right (Nat.le_refl _), Nat.sub_self]
                rfl)
              have e0 : L2.atI (List.map W.sh (q' :: (hs' ++ [nz']))) 0 = some (.sh q') := atI_nat (j := 0) rfl
              rw [shsW_map]
              generalize hp5 : q' :: (hs' ++ [nz']) = parts at *
              push_cast []
              rw [atR_some e0]
              have em : cutA parts (some 1) (some (-1)) = hs' := by rw [← hp5]; exact cut_mid _ _ _
              push_cast [em]
              rw [atR_some e1]
              push_cast []
              exact .sh kk
theorem trimmed_0 (T : Txt K mg base A) : FnOk P w K mg base CX0 2 A.trimmed_for A.d_trimmed_for ["plan", "lefts"] (spD K am0 (spTrD 0)) := by
  refine T.F_trimmed_for.ok sc_trimmed_for (fun vs H Q E h => by
    obtain ⟨_, ws, Qd, _, _, _, hv, hsp, _⟩ := h
    obtain ⟨many, n, d, L, rfl, _⟩ := hsp
    exact hv.len.symm) (fun cdv A' outer s H vs Q E hr h => ?_)
  have hu := hu_of hr
  refine spD_run (td := ?td) h (qs_cons (q_if (PW.pt (pw_or (q_cmp op_eq (pe_ix ix_T (qv 0) pe_int (fun _ _ => rfl)) pe_str (nomark _)) (pw_or1 (q_cmp op_eq (pe_callB c_len (by rfl) T.m_len (by decide +kernel) (pa_cons (qv 1) pa_nil)) pe_int (nomark _))))) (pss_one (ps_ret (pe_tup (pa_cons pe_str pa_nil)))) pss_nil)
    (qs_cons (ps_set (i := 2) sc_trimmed_for.nd rfl (Or.inl rfl) (q_call (ok_plans_behind T) (hr.mono (by decide)) rfl T.g_plans_behind T.k_plans_behind T.b_plans_behind pass0 (pa_cons (qv 0) pa_nil)))
    (qs_cons (q_setOwn (q_setLc (i := 3) (own := [("behind", 8)]) (g := gName 8) (tt := tYes) rfl sc_trimmed_for.nd rfl rfl (sw_true rfl rfl rfl (by decide +kernel)) (qi_list (qv 2)) (blkOk_by (own := [("behind", 8)]) (N := ["plan", "lefts", "plans", "coming", "left", "place", "left_then", "parts", "behind", "later"]) (sc := defScope s_trimmed_for) (by decide +kernel)) (fun _ _ _ _ _ => (pg_name (i := 8) sc_trimmed_for.nd rfl (Or.inl rfl))) (fun _ _ _ _ _ => pts_nil) (fun _ _ _ _ _ => (q_own (pe_lst pa_nil)))))
    (qs_cons (q_for PassesOwn.never rfl (qi_list (qv 1)) (pg_name (i := 4) sc_trimmed_for.nd rfl (Or.inl rfl)) (qs_cons (ps_asg (q_call (ok_behind_ask T) (hr.mono (by decide)) rfl T.g_behind_ask T.k_behind_ask T.b_behind_ask pass0 (pa_cons (pe_ix ix_T (qv 0) pe_int (fun _ _ => rfl)) (pa_cons (qv 4) pa_nil))) (q_gtup (n := 2) rfl (q_gcons (pg_name (i := 5) sc_trimmed_for.nd rfl (Or.inl rfl)) (q_gcons (pg_name (i := 6) sc_trimmed_for.nd rfl (Or.inl rfl)) q_gnil))))
    (pss_one (ps_expr (lm1 PySem.F.slot_list_append PySem.F.type_list_append m_append (pe_ix ix_L (qv 3) (qv 5) (fun _ _ => rfl)) (pa_cons (qv 6) pa_nil))))))
    (qs_cons ps_never
    (qs_cons ps_never
    (pss_one (ps_ret (pe_tup (pa_cons pe_str (pa_cons (pe_ix ix_T (qv 0) pe_int (fun _ _ => rfl)) (pa_cons (pe_ix ix_L (qv 7) pe_int (fun _ _ => rfl)) (pa_cons (pe_callTy c_tupL (by rfl) T.m_tuple (by decide +kernel) (pa_cons (pe_slice sl_L (qv 7) (q_some pe_int) (q_some (pe_un o_neg pe_int))) pa_nil)) (pa_cons (pe_ix ix_L (qv 7) (pe_un o_neg pe_int) (fun _ _ => rfl)) pa_nil)))))))))))))) ?hs ?hD
  case hs => (try simp only [cx_K, cx_prog, cx_w, blkK]); exact inferInstance
  rintro ws Qd ⟨many, n, d, L, rfl, ⟨hp, hn, m8, hL, hl8⟩, kk⟩
  obtain rfl : n = 0 := by omega
  obtain rfl : d = endD := hp
  push_cast [spTrD]
  exact .sh kk
theorem all_trimmed (T : Txt K mg base A) : ∀ N, FnOk P w K mg base CX0 (N + 2) A.trimmed_for A.d_trimmed_for ["plan", "lefts"] (spD K am0 (spTrD N))
  | 0 => trimmed_0 T
  | N + 1 => ok_trimmed_for T N (all_trimmed T N)
theorem sc_trimmed : FnScope ["plan", "many", "most"] ["plan", "many", "most"] (defScope s_trimmed) := ⟨rfl, rfl, rfl, by decide +kernel, rfl, by decide +kernel, by decide +kernel⟩
theorem ok_trimmed (T : Txt K mg base A) : FnOk P w K mg base CX0 23 A.trimmed A.d_trimmed ["plan", "many", "most"] (spD K (amN A) (fun ws Q => ∃ (many most : Nat) (d : D), ws = [.sh d, .sh (.int (many : Nat)), .sh (.int (most : Nat))] ∧ (PlanOk many 20 d ∧ (1 ≤ many ∧ many ≤ 8) ∧ 1 ≤ most ∧ most ≤ many) ∧ Q (.sh (trimP 20 d (gsI many most))) [])) := by
  refine T.F_trimmed.ok sc_trimmed (fun vs H Q E h => by
    obtain ⟨_, ws, Qd, _, _, _, hv, hsp, _⟩ := h
    obtain ⟨many, most, d, rfl, _⟩ := hsp
    exact hv.len.symm) (fun cdv A' outer s H vs Q E hr h => ?_)
  have hu := hu_of hr
  refine spD_run (td := ?td) h (qs_cons (ps_expr (q_call (ok_check_numbers T) (hr.mono (by decide)) rfl T.g_check_numbers T.k_check_numbers T.b_check_numbers pass0 (pa_cons (qv 1) (pa_cons (qv 2) pa_nil))))
    (qs_cons (ps_expr (q_call (ok_check_plan T) (hr.mono (by decide)) rfl T.g_check_plan T.k_check_plan T.b_check_plan pass0 (pa_cons (qv 0) (pa_cons (qv 1) pa_nil))))
    (pss_one (ps_ret (q_call (all_trimmed T 20) (hr.mono (by decide)) rfl T.g_trimmed_for T.k_trimmed_for T.b_trimmed_for pass0 (pa_cons (qv 0) (pa_cons (q_call (ok_sets_of T) (hr.mono (by decide)) rfl T.g_sets_of T.k_sets_of T.b_sets_of pass0 (pa_cons (qv 1) (pa_cons pe_int (pa_cons (qv 2) pa_nil)))) pa_nil))))))) ?hs ?hD
  case hs => (try simp only [cx_K, cx_prog, cx_w, blkK]); exact inferInstance
  rintro ws Qd ⟨many, most, d, rfl, ⟨hp, ⟨m1, m8⟩, s1, s8⟩, kk⟩
  push_cast []
  refine ⟨many, rfl, most, rfl, by omega, by omega, by omega, by omega, ?_⟩
  push_cast []
  refine ⟨many, rfl, hp, m8, ?_⟩
  push_cast [spTrD]
  have gl : (gsI many most).length ≤ 5000 := by
    have := sets_len (many := many) (least := 0) m8 (most + 1) (by omega)
    unfold gsI
    rw [List.length_map]
    unfold setsN
    omega
  have gm : (setsN many 0 most).map tD = (gsI many most).map tI := by
    unfold gsI
    rw [List.map_map]
    exact List.map_congr_left fun g _ => tD_tI g
  exact ⟨many, rfl, 0, rfl, most, rfl, m8, by omega, many, 20, gsI many most, gm, hp, Nat.le_refl _, m8, gl, fun l hl => by have := (gs_ok hl).2.2; omega, .sh kk⟩
end
end P
end OA

namespace OA
open PySem PySem.Spec PyProof.Rows L2
local macro_rules
  | `(tactic| push_cast only [$a,*]) => `(tactic| simp -implicitDefEqProofs only [Int.toNat_natCast, List.cons.injEq, W.sh.injEq, D.int.injEq, D.str.injEq, D.bl.injEq, D.tup.injEq, D.lst.injEq, W.pt.injEq, and_assoc, exists_eq_left', exists_eq_left, exists_and_left, true_implies, dIsi, tn_n, tn_b, tn_i, tn_s, tn_t, tn_nt, tn_l, kr_NoneType_bool, kr_NoneType_int, kr_NoneType_str, kr_NoneType_list, kr_NoneType_tuple, kr_NoneType_dict, kr_bool_bool, kr_bool_int, kr_bool_str, kr_bool_list, kr_bool_tuple, kr_bool_dict, kr_int_bool, kr_int_int, kr_int_str, kr_int_list, kr_int_tuple, kr_int_dict, kr_str_bool, kr_str_int, kr_str_str, kr_str_list, kr_str_tuple, kr_str_dict, kr_list_bool, kr_list_int, kr_list_str, kr_list_list, kr_list_tuple, kr_list_dict, kr_tuple_bool, kr_tuple_int, kr_tuple_str, kr_tuple_list, kr_tuple_tuple, kr_tuple_dict, kr_dict_bool, kr_dict_int, kr_dict_str, kr_dict_list, kr_dict_tuple, kr_dict_dict, dVar, dC_n, dC_b, dC_i, dC_s, dC_t, dC_r, dOp, dUn, dNil, dCons, dStar, dStarT, dTup, dLst, dLstO, dAnd, dOr, dNot, dIf, dTest, dYes, dChain, dCall, dNext, dCut, dSeq, dDrop, dRet, dRetN, dIfS, dName, sgnil_e, sgcons_e, dGtup, dAsg, dAug, dWhile, dFor, dLc, dLcO, dLc2, dDc, dI0, dIC, dEq, dIsN, isNonW, noPy, dAddS, dMulS, dCat, dCatT, dInT, dInLI, dInTI, dInS, dIxL, dIxT, dIxS, dNeg, dNoPart, dPart, dSl, dSlL, dSlT, dSlS, dRev, dDGet, dDIn, dDNew, dDNewS, dsDPut, dgSub, dSetL, isLW, dLM, dLM0, dAppend, dPopAt, dExtend, dPop, dLen, dTupL, dLstL, dAbs, dIntB, dMin2, dMax2, dMaxL, dCKw, dMaxT, dFn, dList, dTupI, dStrI, dR1, dR2, dEnum, dTAnd, dTOr, dTNot, varR_e, intW_e, blW_e, strW_e, shW_e, tyW_e, tupW_e, tupW_n, tup0W_e, lookL_e, lookD_e, lookR_e, lookR_l, seqW_e, seqW_p, dicW_e, dicW_p, ownL_p, ownD_p, keyW_i, keyW_s, one1W_e, two2W_e, shsW_nil, shsW_cons, shsW_app, shsW_map, intsD_nil, intsD_cons, intsD_map, strsD_map, cWR_n, cWR_b, cWR_i, cWR_s, flW_n, flW_b, flW_i, flW_s, fls_nil, fls_n, fls_b, fls_i, fls_s, lenW_l, lenW_d, lenW_t, lenW_n, lenW_s, lenW_p, lenO'_l, lenO'_d, atR_0, atR_1, atR_2, atR_3, atR_4, lenOk_0, lenOk_1, lenOk_2, lenOk_3, lenOk_4, lenOk_5, look_hd, put_c, put_n, notins_nil, startG, scal, List.map, List.replicate, List.length_cons, List.length_nil, List.cons_append, List.nil_append, List.append_nil, List.getElem?_cons_zero, List.getElem?_cons_succ, List.set_cons_zero, List.set_cons_succ, wipeG, true_and, and_true, if_true, if_false, decide_eq_true_eq, reduceCtorEq, reduceIte, Bool.false_eq_true, decide_true, decide_false, Bool.true_and, Bool.false_and, Bool.and_true, Bool.and_false, Bool.not_true, Bool.not_false, V.int.injEq, V.str.injEq, V.bl.injEq, Nat.reduceAdd, Nat.reduceSub, Nat.reduceLT, Int.reduceEq, Int.reduceLT, Int.reduceLE, Int.reduceAdd, Int.reduceSub, Int.cast_ofNat_Int, dForK, dOff, dMany, dMixed, dDcO, dLstVals, dEqLI, dDictO, dSortP, dLstK, dNeD0, dRep, dLstRg, dSortPT, dTupF, dTupDF, dTupRgF, dSlF, dTIx, dLstT, dLstTO, dRevI, dRemI, ntW_e, D.nt.injEq, dShapeP, dLcN, dZipI, dRepT, dTupT, dNotInLT, dIndexLT, dEqP, pdW_s, pdW_p, dSortI, dInsert0, dCatO, dLcK, $a,*])
  | `(tactic| push_cast [$a,*]) => `(tactic| ((repeat refine LaterD.mk ?_); push_cast only [$a,*]; repeat ((refine LaterD.mk ?_); (repeat refine LaterD.mk ?_); push_cast only [$a,*])))
section
variable {K : PySem.W.Frag} {am : Am}
def dSum (ws : List W) (Ω : Om) (Q : DQ) : Prop := one1W ws fun w => seqW Ω w fun us => shsW us fun ds => intsD ds fun ns => Q (.sh (.int ns.sum)) Ω
instance r_sum : SRC K am (rSum K) dSum := ⟨fun {c T σ Γ Ω H xs ws Q R} e hs h k => by
  obtain ⟨w, v, rfl, hw, h_1⟩ := one1W_el h hs
  obtain ⟨a, vs, us, rfl, ha, hv, h_2⟩ := seqW_el e hw h_1
  obtain ⟨ds, rfl, h_3⟩ := shsW_el h_2
  obtain ⟨ns, rfl, h_4⟩ := intsD_el h_3
  rw [lay_ints hv.lay] at ha
  exact ⟨a, ns, rfl, SqL.of ha, k _ _ _ _ h_4 (e.addv rfl)⟩⟩
end
namespace P
def spPtD (N : Nat) : DSp := fun ws Q => ∃ (many n : Nat) (d : D), ws = [.sh d] ∧ (PlanOk many n d ∧ n ≤ N ∧ many ≤ 8) ∧ Q (.sh (.int (partsP n d : Nat))) []
theorem sum_cast (l : List Nat) : (l.map fun (n : Nat) => (n : Int)).sum = ((l.sum : Nat) : Int) := by
  induction l with
  | nil => rfl
  | cons a l ih => rw [List.map_cons, List.sum_cons, List.sum_cons, ih]; omega
section
variable {P : Program} {w : World} {K : PySem.W.Frag} {mg : Str → Option Value} {base : Heap} {A : Ad}
theorem sc__law_parts : FnScope ["_law_plan_here", "_law_part"] ["_law_plan_here"] (defScope s__law_parts) := ⟨rfl, rfl, rfl, by decide +kernel, rfl, by decide +kernel, by decide +kernel⟩
theorem ok__law_parts (T : Txt K mg base A)(N : Nat) (G : FnOk P w K mg base CX0 (N + 1) A._law_parts A.d__law_parts ["_law_plan_here"] (spD K am0 (spPtD N))) : FnOk P w K mg base CX0 (N + 2) A._law_parts A.d__law_parts ["_law_plan_here"] (spD K am0 (spPtD (N + 1))) := by
  refine T.F__law_parts.ok sc__law_parts (fun vs H Q E h => by
    obtain ⟨_, ws, Qd, _, _, _, hv, hsp, _⟩ := h
    obtain ⟨many, n, d, rfl, _⟩ := hsp
    exact hv.len.symm) (fun cdv A' outer s H vs Q E hr h => ?_)
  have hu := hu_of hr
  refine spD_run (td := ?td) h (qs_cons (q_if (q_cmp op_eq (pe_ix ix_T (qv 0) pe_int (fun _ _ => rfl)) pe_str (nomark _)) (pss_one (ps_ret pe_int)) pss_nil)
    (pss_one (ps_ret (pe_op o_add pe_int (pe_callB (cr_sum rfl) (by rfl) T.m_sum (by decide +kernel) (pa_cons (q_lc (own := [("_law_part", 1)]) (g := gName 1) (tt := tYes) rfl sc__law_parts.nd (qi_tup (pe_op (o_catA (K' := K)) (pe_op (o_catA (K' := K)) (pe_tup (pa_cons (pe_ix ix_T (qv 0) pe_int (fun _ _ => rfl)) pa_nil)) (pe_ix ix_T (qv 0) pe_int (fun _ _ => rfl))) (pe_tup (pa_cons (pe_ix ix_T (qv 0) pe_int (fun _ _ => rfl)) pa_nil)))) (blkOk_by (own := [("_law_part", 1)]) (N := ["_law_plan_here", "_law_part"]) (sc := defScope s__law_parts) (by decide +kernel)) (fun _ _ _ _ _ => (pg_name (i := 1) sc__law_parts.nd rfl (Or.inl rfl))) (fun _ _ _ _ _ => pts_nil) (fun _ _ _ _ _ => (q_call G (hr.mono (by omega)) rfl T.g__law_parts T.k__law_parts T.b__law_parts pass0 (pa_cons (qv 1) pa_nil)))) pa_nil)))))) ?hs ?hD
  case hs => (try simp only [cx_K, cx_prog, cx_w, blkK]); exact inferInstance
  rintro ws Qd ⟨many, n, d, rfl, ⟨hp, hn, m8⟩, kk⟩
  rcases hp.cs with rfl | ⟨k, ns, q, hs, nz, rfl, rfl, hns, hl3, hq, hh, hz⟩
  · push_cast [spPtD]
    rw [parts_end] at kk
    exact .sh kk
  · have nsl := hns.len
    have bok : ∀ x ∈ q :: (hs ++ [nz]), PlanOk many k x := fun x hx => (behP_ok hp m8).2 x hx
    push_cast [spPtD, w_ae]
    have el : (List.map W.sh (hs ++ [nz])).length + 1 = (q :: (hs ++ [nz])).length := by rw [List.length_map, List.length_cons]
    refine ⟨by simp, lenOk_of (by simp; omega), lenOk_of (by simp; omega), _, dLcP_map (D0 := q :: (hs ++ [nz])) (f := W.sh) (G := fun x => W.sh (.int (partsP k x : Nat))) (by simp; omega) (fun x hx acc u Pn hn0 lt2 kp => ?_), fun acc hacc => ?_⟩
    · push_cast [spPtD]
      exact ⟨many, k, bok x hx, by omega, m8, lt2, kp⟩
    · have : acc = ((((q :: (hs ++ [nz])).map (partsP k)).map fun (n : Nat) => (n : Int)).map D.int).map W.sh := by
        rw [hacc, el, List.take_length, List.map_map, List.map_map, List.map_map]
        rfl
      subst this
      rw [shsW_map]
      generalize hps : (q :: (hs ++ [nz])).map (partsP k) = ps at *
      push_cast [dSum, sum_cast]
      rw [parts_ask, hps] at kk
      have e1 : (1 : Int) + ((ps.sum : Nat) : Int) = ((1 + ps.sum : Nat) : Int) := by omega
      push_cast [e1]
      exact .sh kk
theorem parts_0 (T : Txt K mg base A) : FnOk P w K mg base CX0 1 A._law_parts A.d__law_parts ["_law_plan_here"] (spD K am0 (spPtD 0)) := by
  refine T.F__law_parts.ok sc__law_parts (fun vs H Q E h => by
    obtain ⟨_, ws, Qd, _, _, _, hv, hsp, _⟩ := h
    obtain ⟨many, n, d, rfl, _⟩ := hsp
    exact hv.len.symm) (fun cdv A' outer s H vs Q E hr h => ?_)
  have hu := hu_of hr
  refine spD_run (td := ?td) h (qs_cons (q_if (q_cmp op_eq (pe_ix ix_T (qv 0) pe_int (fun _ _ => rfl)) pe_str (nomark _)) (pss_one (ps_ret pe_int)) pss_nil)
    (pss_one ps_never)) ?hs ?hD
  case hs => (try simp only [cx_K, cx_prog, cx_w, blkK]); exact inferInstance
  rintro ws Qd ⟨many, n, d, rfl, ⟨hp, hn, m8⟩, kk⟩
  obtain rfl : n = 0 := by omega
  obtain rfl : d = endD := hp
  push_cast [spPtD]
  exact .sh kk
theorem all_parts (T : Txt K mg base A) : ∀ N, FnOk P w K mg base CX0 (N + 1) A._law_parts A.d__law_parts ["_law_plan_here"] (spD K am0 (spPtD N))
  | 0 => parts_0 T
  | N + 1 => ok__law_parts T N (all_parts T N)
end
end P
end OA

namespace OA
namespace P
open PySem L2
local macro_rules
  | `(tactic| push_cast only [$a,*]) => `(tactic| simp -implicitDefEqProofs only [Int.toNat_natCast, List.cons.injEq, W.sh.injEq, D.int.injEq, D.str.injEq, D.bl.injEq, D.tup.injEq, D.lst.injEq, W.pt.injEq, and_assoc, exists_eq_left', exists_eq_left, exists_and_left, true_implies, dIsi, tn_n, tn_b, tn_i, tn_s, tn_t, tn_nt, tn_l, kr_NoneType_bool, kr_NoneType_int, kr_NoneType_str, kr_NoneType_list, kr_NoneType_tuple, kr_NoneType_dict, kr_bool_bool, kr_bool_int, kr_bool_str, kr_bool_list, kr_bool_tuple, kr_bool_dict, kr_int_bool, kr_int_int, kr_int_str, kr_int_list, kr_int_tuple, kr_int_dict, kr_str_bool, kr_str_int, kr_str_str, kr_str_list, kr_str_tuple, kr_str_dict, kr_list_bool, kr_list_int, kr_list_str, kr_list_list, kr_list_tuple, kr_list_dict, kr_tuple_bool, kr_tuple_int, kr_tuple_str, kr_tuple_list, kr_tuple_tuple, kr_tuple_dict, kr_dict_bool, kr_dict_int, kr_dict_str, kr_dict_list, kr_dict_tuple, kr_dict_dict, dVar, dC_n, dC_b, dC_i, dC_s, dC_t, dC_r, dOp, dUn, dNil, dCons, dStar, dStarT, dTup, dLst, dLstO, dAnd, dOr, dNot, dIf, dTest, dYes, dChain, dCall, dNext, dCut, dSeq, dDrop, dRet, dRetN, dIfS, dName, sgnil_e, sgcons_e, dGtup, dAsg, dAug, dWhile, dFor, dLc, dLcO, dLc2, dDc, dI0, dIC, dEq, dIsN, isNonW, noPy, dAddS, dMulS, dCat, dCatT, dInT, dInLI, dInTI, dInS, dIxL, dIxT, dIxS, dNeg, dNoPart, dPart, dSl, dSlL, dSlT, dSlS, dRev, dDGet, dDIn, dDNew, dDNewS, dsDPut, dgSub, dSetL, isLW, dLM, dLM0, dAppend, dPopAt, dExtend, dPop, dLen, dTupL, dLstL, dAbs, dIntB, dMin2, dMax2, dMaxL, dCKw, dMaxT, dFn, dList, dTupI, dStrI, dR1, dR2, dEnum, dTAnd, dTOr, dTNot, varR_e, intW_e, blW_e, strW_e, shW_e, tyW_e, tupW_e, tupW_n, tup0W_e, lookL_e, lookD_e, lookR_e, lookR_l, seqW_e, seqW_p, dicW_e, dicW_p, ownL_p, ownD_p, keyW_i, keyW_s, one1W_e, two2W_e, shsW_nil, shsW_cons, shsW_app, shsW_map, intsD_nil, intsD_cons, intsD_map, strsD_map, cWR_n, cWR_b, cWR_i, cWR_s, flW_n, flW_b, flW_i, flW_s, fls_nil, fls_n, fls_b, fls_i, fls_s, lenW_l, lenW_d, lenW_t, lenW_n, lenW_s, lenW_p, lenO'_l, lenO'_d, atR_0, atR_1, atR_2, atR_3, atR_4, lenOk_0, lenOk_1, lenOk_2, lenOk_3, lenOk_4, lenOk_5, look_hd, put_c, put_n, notins_nil, startG, scal, List.map, List.replicate, List.length_cons, List.length_nil, List.cons_append, List.nil_append, List.append_nil, List.getElem?_cons_zero, List.getElem?_cons_succ, List.set_cons_zero, List.set_cons_succ, wipeG, true_and, and_true, if_true, if_false, decide_eq_true_eq, reduceCtorEq, reduceIte, Bool.false_eq_true, decide_true, decide_false, Bool.true_and, Bool.false_and, Bool.and_true, Bool.and_false, Bool.not_true, Bool.not_false, V.int.injEq, V.str.injEq, V.bl.injEq, Nat.reduceAdd, Nat.reduceSub, Nat.reduceLT, Int.reduceEq, Int.reduceLT, Int.reduceLE, Int.reduceAdd, Int.reduceSub, Int.cast_ofNat_Int, dForK, dOff, dMany, dMixed, dDcO, dLstVals, dEqLI, dDictO, dSortP, dLstK, dNeD0, dRep, dLstRg, dTupF, dTupDF, dTupRgF, dSlF, dTIx, dLstT, dLstTO, dRevI, dRemI, ntW_e, D.nt.injEq, dShapeP, P.dAreN, dLcN, dZipI, dRepT, dTupT, dNotInLT, dIndexLT, dEqP, pdW_s, pdW_p, dSortI, dInsert0, dCatO, dLcK, $a,*])
  | `(tactic| push_cast [$a,*]) => `(tactic| ((repeat refine LaterD.mk ?_); push_cast only [$a,*]; repeat ((refine LaterD.mk ?_); (repeat refine LaterD.mk ?_); push_cast only [$a,*])))
def oI (ns : List Int) (j : Nat) : Nat := if j = 0 then 0 else ns.length + 1
theorem oI_0 {ns : List Int} {j : Nat} : oI ns j = 0 ↔ j = 0 := by
  unfold oI
  by_cases z : j = 0
  · simp [z]
  · rw [if_neg z]
    constructor
    · intro h; omega
    · intro h; exact absurd h z
theorem oI_1 {ns : List Int} {j : Nat} (h : j < 2) : oI ns j = ns.length + 1 ↔ j = 1 := by
  unfold oI
  by_cases z : j = 0
  · rw [if_pos z]
    constructor
    · intro h; omega
    · intro h; omega
  · rw [if_neg z]
    constructor
    · intro _; omega
    · intro _; rfl
/-- the first lists -/
theorem z_new {F : Nat → Nat} {ns : List Int} {ps : List Addr} {j : Nat} {z : Addr × List W} (h : (ps.map fun x => (x, ([] : List W)))[j]? = some z) : z.2 = ((comeP ns [] (F j)).map tI).map W.sh := by
  rw [List.getElem?_map] at h
  cases e : ps[j]? with
  | none => rw [e] at h; cases h
  | some a =>
    rw [e] at h
    cases h
    rfl
/-- one more in its list -/
theorem z_next {F : Nat → Nat} {ns : List Int} {L : List (List Int)} {l : List Int} {Z : List (Addr × List W)} {j : Nat} {a : Addr} {us : List W} (hF : ∀ j', j' < Z.length → (F j' = placeP ns l ↔ j' = j)) (e : Z[j]? = some (a, us))
    (h : ∀ j z, Z[j]? = some z → z.2 = ((comeP ns L (F j)).map tI).map W.sh) : ∀ j' z, (Z.set j (a, us ++ [W.sh (tI (restP ns l))]))[j']? = some z → z.2 = ((comeP ns (L ++ [l]) (F j')).map tI).map W.sh := by
  intro j' z hk
  have hj : j < Z.length := (List.getElem?_eq_some_iff.mp e).1
  rw [List.getElem?_set] at hk
  by_cases e' : j = j'
  · subst e'
    rw [if_pos rfl, if_pos hj] at hk
    cases hk
    have hu := h j _ e
    have hp : placeP ns l = F j := ((hF j hj).mpr rfl).symm
    show us ++ [W.sh (tI (restP ns l))] = _
    rw [come_snoc, if_pos hp, List.map_append, List.map_append, ← hu]
    rfl
  · rw [if_neg e'] at hk
    have hj' : j' < Z.length := (List.getElem?_eq_some_iff.mp hk).1
    rw [come_snoc, if_neg fun q => e' ((hF j' hj').mp q.symm).symm, List.append_nil]
    exact h j' z hk
theorem z_same {F : Nat → Nat} {ns : List Int} {L : List (List Int)} {l : List Int} {Z : List (Addr × List W)} (hF : ∀ j', j' < Z.length → placeP ns l ≠ F j')
    (h : ∀ j z, Z[j]? = some z → z.2 = ((comeP ns L (F j)).map tI).map W.sh) : ∀ j' z, Z[j']? = some z → z.2 = ((comeP ns (L ++ [l]) (F j')).map tI).map W.sh := by
  intro j' z hk
  have hj' : j' < Z.length := (List.getElem?_eq_some_iff.mp hk).1
  rw [come_snoc, if_neg (hF j' hj'), List.append_nil]
  exact h j' z hk
section
variable {P : Program} {w : World} {K : PySem.W.Frag} {mg : Str → Option Value} {base : Heap} {A : Ad}
theorem sc__law_trim : FnScope ["_law_plan_here", "_law_lefts", "_law_heards", "_law_others", "_law_left", "_law_speak", "_law_k", "_law_some", "_law_number"] ["_law_plan_here", "_law_lefts"] (defScope s__law_trim) := ⟨rfl, rfl, rfl, by decide +kernel, rfl, by decide +kernel, by decide +kernel⟩
theorem ok__law_trim (T : Txt K mg base A)(N : Nat) (G : FnOk P w K mg base CX0 (N + 1) A._law_trim A.d__law_trim ["_law_plan_here", "_law_lefts"] (spD K am0 (spTrD N))) : FnOk P w K mg base CX0 (N + 2) A._law_trim A.d__law_trim ["_law_plan_here", "_law_lefts"] (spD K am0 (spTrD (N + 1))) := by
  refine T.F__law_trim.ok sc__law_trim (fun vs H Q E h => by
    obtain ⟨_, ws, Qd, _, _, _, hv, hsp, _⟩ := h
    obtain ⟨many, n, d, L, rfl, _⟩ := hsp
    exact hv.len.symm) (fun cdv A' outer s H vs Q E hr h => ?_)
  have hu := hu_of hr
  refine spD_run (td := ?td) h (qs_cons (q_if (PW.pt (pw_or (q_cmp op_eq (pe_ix ix_T (qv 0) pe_int (fun _ _ => rfl)) pe_str (nomark _)) (pw_or1 (q_cmp (op_eqD (X := _) hr.units) (qv 1) (pe_lst pa_nil) (nomark _))))) (pss_one (ps_ret (pe_tup (pa_cons pe_str pa_nil)))) pss_nil)
    (qs_cons (ps_set (i := 2) sc__law_trim.nd rfl (Or.inr rfl) (q_own (q_lc (own := [("_law_number", 8)]) (g := gName 8) (tt := tYes) rfl sc__law_trim.nd (qi_tup (pe_ix ix_T (qv 0) pe_int (fun _ _ => rfl))) (blkOk_by (own := [("_law_number", 8)]) (N := ["_law_plan_here", "_law_lefts", "_law_heards", "_law_others", "_law_left", "_law_speak", "_law_k", "_law_some", "_law_number"]) (sc := defScope s__law_trim) (by decide +kernel)) (fun _ _ _ _ _ => (pg_name (i := 8) sc__law_trim.nd rfl (Or.inl rfl))) (fun _ _ _ _ _ => pts_nil) (fun _ _ _ _ _ => (q_own (pe_lst pa_nil))))))
    (qs_cons (ps_set (i := 3) sc__law_trim.nd rfl (Or.inl rfl) (q_own (pe_lst (pa_cons (q_own (pe_lst pa_nil)) (pa_cons (q_own (pe_lst pa_nil)) pa_nil)))))
    (qs_cons (q_for PassesOwn.never rfl (qi_list (qv 1)) (pg_name (i := 4) sc__law_trim.nd rfl (Or.inr rfl)) (qs_cons (ps_set (i := 5) sc__law_trim.nd rfl (Or.inr rfl) (q_lc (own := [("_law_number", 8)]) (g := gName 8) rfl sc__law_trim.nd (qi_tup (pe_ix ix_T (qv 0) pe_int (fun _ _ => rfl))) (blkOk_by (own := [("_law_number", 8)]) (N := ["_law_plan_here", "_law_lefts", "_law_heards", "_law_others", "_law_left", "_law_speak", "_law_k", "_law_some", "_law_number"]) (sc := defScope s__law_trim) (by decide +kernel)) (fun _ _ _ _ _ => (pg_name (i := 8) sc__law_trim.nd rfl (Or.inl rfl))) (fun _ _ _ _ _ => pts_one (q_cmp o_inTI (qv 8) (qv 4) (by rfl))) (fun _ _ _ _ _ => (qv 8))))
    (pss_one (q_if (q_cmp op_eq (pe_callB c_len (by rfl) T.m_len (by decide +kernel) (pa_cons (qv 5) pa_nil)) pe_int (nomark _)) (pss_one (ps_expr (lm1 PySem.F.slot_list_append PySem.F.type_list_append m_append (pe_ix ix_L (qv 2) (q_tidx (pe_ix ix_T (qv 0) pe_int (fun _ _ => rfl)) (pe_ix ix_L (qv 5) pe_int (fun _ _ => rfl))) (fun _ _ => rfl)) (pa_cons (pe_callTy c_tupL (by rfl) T.m_tuple (by decide +kernel) (pa_cons (q_lc (own := [("_law_number", 8)]) (g := gName 8) rfl sc__law_trim.nd (qi_tup (qv 4)) (blkOk_by (own := [("_law_number", 8)]) (N := ["_law_plan_here", "_law_lefts", "_law_heards", "_law_others", "_law_left", "_law_speak", "_law_k", "_law_some", "_law_number"]) (sc := defScope s__law_trim) (by decide +kernel)) (fun _ _ _ _ _ => (pg_name (i := 8) sc__law_trim.nd rfl (Or.inl rfl))) (fun _ _ _ _ _ => pts_one (q_cmp op_ne (qv 8) (pe_ix ix_L (qv 5) pe_int (fun _ _ => rfl)) (nomark _))) (fun _ _ _ _ _ => (qv 8))) pa_nil)) pa_nil)))) (pss_one (ps_expr (lm1 PySem.F.slot_list_append PySem.F.type_list_append m_append (pe_ix ix_L (qv 3) (pe_callTy c_intB (by rfl) T.m_int (by decide +kernel) (pa_cons (pe_cmpR (o_neLI hr.units) (qv 5) (pe_lst pa_nil) (nomark _)) pa_nil)) (fun _ _ => rfl)) (pa_cons (qv 4) pa_nil))))))))
    (qs_cons (q_for PassesOwn.never rfl (qi_r1 (by rfl) T.m_range (pa_cons pe_int pa_nil)) (pg_name (i := 6) sc__law_trim.nd rfl (Or.inl rfl)) (pss_one (q_if (q_cmp op_eq (pe_callB c_len (by rfl) T.m_len (by decide +kernel) (pa_cons (pe_ix ix_L (qv 3) (qv 6) (fun _ _ => rfl)) pa_nil)) (pe_callB c_len (by rfl) T.m_len (by decide +kernel) (pa_cons (qv 1) pa_nil)) (nomark _)) (pss_one (ps_ret (q_call G (hr.mono (by omega)) rfl T.g__law_trim T.k__law_trim T.b__law_trim pass0 (pa_cons (pe_ix ix_T (qv 0) (pe_ix ix_L (pe_lst (pa_cons pe_int (pa_cons pe_int pa_nil))) (qv 6) (fun _ _ => rfl)) (fun _ _ => rfl)) (pa_cons (qv 1) pa_nil))))) pss_nil)))
    (qs_cons (ps_set (i := 7) sc__law_trim.nd rfl (Or.inl rfl) (pe_callTy c_tupL (by rfl) T.m_tuple (by decide +kernel) (pa_cons (q_lc (own := [("_law_k", 6)]) (g := gName 6) (tt := tYes) rfl sc__law_trim.nd (qi_r1 (by rfl) T.m_range (pa_cons (pe_callB c_len (by rfl) T.m_len (by decide +kernel) (pa_cons (qv 2) pa_nil)) pa_nil)) (blkOk_by (own := [("_law_k", 6)]) (N := ["_law_plan_here", "_law_lefts", "_law_heards", "_law_others", "_law_left", "_law_speak", "_law_k", "_law_some", "_law_number"]) (sc := defScope s__law_trim) (by decide +kernel)) (fun _ _ _ _ _ => (pg_name (i := 6) sc__law_trim.nd rfl (Or.inl rfl))) (fun _ _ _ _ _ => pts_nil) (fun _ _ _ _ _ => (q_call G (hr.mono (by omega)) rfl T.g__law_trim T.k__law_trim T.b__law_trim pass0 (pa_cons (pe_ix ix_T (pe_ix ix_T (qv 0) pe_int (fun _ _ => rfl)) (qv 6) (fun _ _ => rfl)) (pa_cons (pe_ix ix_L (qv 2) (qv 6) (fun _ _ => rfl)) pa_nil))))) pa_nil)))
    (pss_one (ps_ret (pe_tup (pa_cons pe_str (pa_cons (pe_ix ix_T (qv 0) pe_int (fun _ _ => rfl)) (pa_cons (q_call G (hr.mono (by omega)) rfl T.g__law_trim T.k__law_trim T.b__law_trim pass0 (pa_cons (pe_ix ix_T (qv 0) pe_int (fun _ _ => rfl)) (pa_cons (pe_ix ix_L (qv 3) pe_int (fun _ _ => rfl)) pa_nil))) (pa_cons (qv 7) (pa_cons (q_call G (hr.mono (by omega)) rfl T.g__law_trim T.k__law_trim T.b__law_trim pass0 (pa_cons (pe_ix ix_T (qv 0) pe_int (fun _ _ => rfl)) (pa_cons (pe_ix ix_L (qv 3) pe_int (fun _ _ => rfl)) pa_nil))) pa_nil)))))))))))))) ?hs ?hD
  case hs => (try simp only [cx_K, cx_prog, cx_w, blkK]); exact inferInstance
  rintro ws Qd ⟨many, n, d, L, rfl, ⟨hp, hn, m8, hL, hl8⟩, kk⟩
  rcases hp.cs with rfl | ⟨k, ns, q, hs, nz, rfl, rfl, hns, hl3, hq, hh, hz⟩
  · push_cast [spTrD]
    rw [trim_end] at kk
    exact .sh kk
  · have nsl := hns.len
    push_cast [spTrD, w_ae]
    have ll : (List.map tI L).length = L.length := List.length_map _
    have pl0 : plD (.lst (L.map tI)) = true := pl_all fun x hx => by
      obtain ⟨l, _, rfl⟩ := List.mem_map.mp hx
      show plL (l.map .int) = true
      exact pl_all fun x hx => by
        obtain ⟨n, _, rfl⟩ := List.mem_map.mp hx
        rfl
    have dp0 : (pdD (.lst (L.map tI))).depth ≤ 64 := by
      unfold pdD PyData.depth
      have := dp_all (xs := L.map tI) (n := 1) fun x hx => by
        obtain ⟨l, _, rfl⟩ := List.mem_map.mp hx
        unfold pdD PyData.depth
        have := dp_all (xs := l.map D.int) (n := 0) fun x hx => by
          obtain ⟨n, _, rfl⟩ := List.mem_map.mp hx
          exact Nat.le_refl _
        omega
      omega
    refine ⟨pl0, dp0, rfl, by decide, ?_⟩
    by_cases zL : L = []
    · subst zL
      rw [if_pos (show (pdD (D.lst (List.map tI []))).eqv (pdD (D.lst [])) = true by decide)]
      push_cast []
      rw [trim_nil hp] at kk
      exact .sh kk
    · have lp := List.length_pos_iff.mpr zL
      rw [if_neg (show ¬ (pdD (D.lst (List.map tI L))).eqv (pdD (D.lst [])) = true by
        cases L with
        | nil => exact absurd rfl zL
        | cons a L => exact fun z => by cases z)]
      push_cast []
      rw [sh_ints]
      refine ⟨by simp, by rw [List.length_map]; omega, fun w _ Ω2 => True.intro, fun ps ph psl nd _ => ?_⟩
      rw [List.length_map] at psl
      push_cast []
      intro a na b nb po npo
      rw [notin_cons, notin_cons] at nb npo
      rw [notin_cons] at na npo
      have kf : (fresL ps).map (·.1) = ps := by
        unfold fresL
        rw [List.map_map]
        exact List.map_id ps
      have kz : (ps.map fun x => (x, ([] : List W))).map (·.1) = ps := by
        rw [List.map_map]
        exact List.map_id ps
      have nf : ∀ {x : Addr}, notin x (fresL ps) → x ∉ ps := fun h z => h (by rw [kf]; exact z)
      have e1 : ptZ (ps.map fun x => (x, ([] : List W))) = ps.map .pt := by
        unfold ptZ
        rw [List.map_map]
        rfl
      have e2 : omZ (ps.map fun x => (x, ([] : List W))) = fresL ps := by
        unfold omZ fresL
        rw [List.map_map]
        rfl
      have nd2 : Nd2 po ph [(a, []), (b, [])] (ps.map fun x => (x, [])) := by
        unfold Nd2
        rw [kz]
        show (po :: a :: b :: ph :: ps).Nodup
        refine List.nodup_cons.mpr ⟨?_, List.nodup_cons.mpr ⟨?_, List.nodup_cons.mpr ⟨?_, nd⟩⟩⟩
        · simp only [List.mem_cons, not_or]
          exact ⟨npo.2.1, npo.1, npo.2.2.1, nf npo.2.2.2⟩
        · simp only [List.mem_cons, not_or]
          exact ⟨Ne.symm nb.1, na.1, nf na.2⟩
        · simp only [List.mem_cons, not_or]
          exact ⟨nb.2.1, nf nb.2.2⟩
      refine .perm (Om2 po ph [(a, []), (b, [])] (ps.map fun x => (x, []))) ?_ ?_
      · unfold Om2
        rw [e1, e2]
        exact List.Perm.cons _ (List.Perm.swap _ _ _)
      push_cast []
      refine ⟨fun i Γ Ω => ∃ (Zo Zh : List (Addr × List W)) (v4 v5 : Option W), Γ = [some (.sh (askD ns q hs nz)), some (.sh (.lst (L.map tI))), some (.pt ph), some (.pt po), v4, v5, none, none, none] ∧ Ω = Om2 po ph Zo Zh ∧ (shO v4 ∧ shO v5) ∧ (Zo.length = 2 ∧ Zh.length = ns.length) ∧ Nd2 po ph Zo Zh ∧ (∀ j z, Zo[j]? = some z → z.2 = ((comeP ns (L.take i) (oI ns j)).map tI).map W.sh) ∧ (∀ j z, Zh[j]? = some z → z.2 = ((comeP ns (L.take i) (j + 1)).map tI).map W.sh),
        ⟨[(a, []), (b, [])], ps.map fun x => (x, []), none, none, rfl, rfl, ⟨shO_n, shO_n⟩, ⟨rfl, by rw [List.length_map, psl]⟩, nd2, fun j z hj => z_new (ps := [a, b]) (F := oI ns) hj, fun j z hj => z_new (F := fun j => j + 1) hj⟩, ?_, ?_⟩
      · rintro i w Γ Ω hw ⟨Zo, Zh, v4, v5, rfl, rfl, ⟨s4, s5⟩, ⟨zo, zh⟩, nd, ho, hh2⟩
        rw [List.map_map, List.getElem?_map] at hw
        cases e : L[i]? with
        | none => rw [e] at hw; cases hw
        | some l =>
          rw [e] at hw
          obtain rfl : W.sh (tI l) = w := Option.some.inj hw
          have l8 := hl8 l (List.mem_of_getElem? e)
          have ht : L.take (i + 1) = L.take i ++ [l] := by rw [List.take_succ, e]; rfl
          have ulen : ∀ {k : Nat}, (comeP ns (L.take i) k).length ≤ 5000 := fun {k} => by
            have := come_len (ns := ns) (L := L.take i) (k := k)
            have : (L.take i).length ≤ L.length := by rw [List.length_take]; omega
            omega
          push_cast []
          rw [sh_ints]
          refine ⟨by simp, _, dLcP_filt (D0 := ns) (f := fun n => W.sh (.int n)) (G := fun n => W.sh (.int n)) (t := fun n => decide (n ∈ l)) (by omega) (fun n hn acc u Pn hn0 ll k1 => ?_), fun acc hacc => ?_⟩
          · push_cast []
            exact if_ll ll k1
          · have : acc = ((speakP ns l).map D.int).map W.sh := by
              rw [hacc, List.length_map, List.take_length, List.map_map]
              rfl
            subst this
            have hsm : ∀ s ∈ speakP ns l, s ∈ ns ∧ s ∈ l := fun s h => speakP_mem h
            have ep : placeP ns l = match speakP ns l with
              | [] => 0
              | [s] => ns.idxOf s + 1
              | _ => ns.length + 1 := rfl
            have er : restP ns l = match speakP ns l with
              | [s] => l.filter fun n => decide (n ≠ s)
              | _ => l := rfl
            generalize speakP ns l = sp at *
            match sp, hsm, ep, er with
            | [], _, ep, er =>
              have ep : placeP ns l = 0 := ep
              have er : restP ns l = l := er
              obtain ⟨c, us, ez⟩ : ∃ c us, Zo[0]? = some (c, us) := ⟨_, _, List.getElem?_eq_getElem (show 0 < Zo.length by omega)⟩
              have hus : us = _ := ho 0 _ ez
              have ea : L2.atI (ptZ Zo) 0 = some (.pt c) := atI_nat (j := 0) (by rw [List.getElem?_map, ez]; rfl)
              have lk := look_o nd ez
              have pu := fun x => put_o (x := x) nd ez
              push_cast [look_po]
              rw [atR_some ea]
              push_cast [lk, pu]
              have ul : us.length ≤ 5000 := by
                rw [hus, List.length_map, List.length_map]
                exact ulen
              refine ⟨by unfold lenLt; rw [sizeLine_eq]; omega, Zo.set 0 (c, us ++ [W.sh (tI l)]), Zh, rfl, shO_s, shO_s, by rw [List.length_set]; exact zo, zh, nd.set_o ez, ?_, ?_⟩
              · have zn := z_next (F := oI ns) (l := l) (fun j' hj' => by rw [ep]; exact oI_0) ez ho
                rw [er] at zn
                rw [ht]
                exact zn
              · rw [ht]
                exact z_same (F := fun j => j + 1) (fun j' hj' => by rw [ep]; show _ ≠ j' + 1; omega) hh2
            | [s], hsm, ep, er =>
              have ep : placeP ns l = ns.idxOf s + 1 := ep
              have er : restP ns l = l.filter fun n => decide (n ≠ s) := er
              obtain ⟨m1, m2⟩ := hsm s (by simp)
              have ix := idx_lt m1
              obtain ⟨c, us, ez⟩ : ∃ c us, Zh[ns.idxOf s]? = some (c, us) := ⟨_, _, List.getElem?_eq_getElem (show ns.idxOf s < Zh.length by omega)⟩
              have hus : us = _ := hh2 _ _ ez
              have ea : L2.atI (ptZ Zh) ((ns.idxOf s : Nat) : Int) = some (.pt c) := atI_nat (by rw [List.getElem?_map, ez]; rfl)
              have lk := look_h nd ez
              have pu := fun x => put_h (x := x) nd ez
              push_cast [look_ph nd]
              refine ⟨m1, ?_⟩
              rw [atR_some ea, sh_ints]
              push_cast [lk, pu]
              refine ⟨by simp, _, dLcP_filt (D0 := l) (f := fun n => W.sh (.int n)) (G := fun n => W.sh (.int n)) (t := fun n => decide (n ≠ s)) (by omega) (fun n hn acc u Pn hn0 ll k1 => ?_), fun acc hacc => ?_⟩
              · push_cast []
                by_cases z : n = s
                · rw [if_neg (by simp [z])] at k1
                  subst z
                  push_cast []
                  exact k1
                · rw [if_pos (by simp [z])] at k1
                  rw [decide_eq_false z]
                  push_cast []
                  exact ⟨ll, k1⟩
              · have : acc = ((restP ns l).map D.int).map W.sh := by
                  rw [hacc, List.length_map, List.take_length, er, List.map_map]
                  rfl
                subst this
                have ul : us.length ≤ 5000 := by
                  rw [hus, List.length_map, List.length_map]
                  exact ulen
                push_cast [lk, pu]
                refine ⟨by unfold lenLt; rw [sizeLine_eq]; omega, Zo, Zh.set (ns.idxOf s) (c, us ++ [W.sh (tI (restP ns l))]), rfl, shO_s, shO_s, zo, by rw [List.length_set]; exact zh, nd.set_h ez, ?_, ?_⟩
                · rw [ht]
                  exact z_same (F := oI ns) (fun j' hj' => by unfold oI; rw [ep]; split <;> omega) ho
                · rw [ht]
                  exact z_next (F := fun j => j + 1) (l := l) (fun j' hj' => by rw [ep]; show j' + 1 = _ ↔ _; omega) ez hh2
            | s :: s2 :: r, _, ep, er =>
              have ep : placeP ns l = ns.length + 1 := ep
              have er : restP ns l = l := er
              obtain ⟨c, us, ez⟩ : ∃ c us, Zo[1]? = some (c, us) := ⟨_, _, List.getElem?_eq_getElem (show 1 < Zo.length by omega)⟩
              have hus : us = _ := ho 1 _ ez
              have ea : L2.atI (ptZ Zo) 1 = some (.pt c) := atI_nat (j := 1) (by rw [List.getElem?_map, ez]; rfl)
              have lk := look_o nd ez
              have pu := fun x => put_o (x := x) nd ez
              push_cast [look_po]
              rw [atR_some ea]
              push_cast [lk, pu]
              have ul : us.length ≤ 5000 := by
                rw [hus, List.length_map, List.length_map]
                exact ulen
              refine ⟨by unfold lenLt; rw [sizeLine_eq]; omega, Zo.set 1 (c, us ++ [W.sh (tI l)]), Zh, rfl, shO_s, shO_s, by rw [List.length_set]; exact zo, zh, nd.set_o ez, ?_, ?_⟩
              · have zn := z_next (F := oI ns) (l := l) (fun j' hj' => by rw [ep]; exact oI_1 (by omega)) ez ho
                rw [er] at zn
                rw [ht]
                exact zn
              · rw [ht]
                exact z_same (F := fun j => j + 1) (fun j' hj' => by rw [ep]; show _ ≠ j' + 1; omega) hh2
      · rintro Γ Ω ⟨Zo, Zh, v4, v5, rfl, rfl, ⟨s4, s5⟩, ⟨zo, zh⟩, nd, ho, hh2⟩
        push_cast []
        have e2 : (List.map W.sh (List.map tI L)).length = L.length := by rw [List.length_map, List.length_map]
        rw [e2, List.take_length] at ho hh2
        have bs0 : PlanOk many k q := hq
        refine ⟨by decide, by decide, fun i Γ Ω => ∃ (v6 : Option W), Γ = [some (.sh (askD ns q hs nz)), some (.sh (.lst (L.map tI))), some (.pt ph), some (.pt po), v4, v5, v6, none, none] ∧ Ω = Om2 po ph Zo Zh ∧ shO v6 ∧ (1 ≤ i → ¬ ∀ l ∈ L, placeP ns l = 0) ∧ (2 ≤ i → ¬ ∀ l ∈ L, placeP ns l = ns.length + 1), ⟨none, rfl, rfl, shO_n, fun h => by omega, fun h => by omega⟩, ?_, ?_⟩
        · rintro i w Γ Ω hw ⟨v6, rfl, rfl, s6, m1, m2⟩
          have hi : i < 2 := by
            have := (List.getElem?_eq_some_iff.mp hw).1
            simpa [natsW] using this
          match i, hi, hw, m1 with
          | 0, _, hw, m1 =>
            obtain rfl : W.sh (.int (0 : Nat)) = w := Option.some.inj hw
            obtain ⟨c, us, ez⟩ : ∃ c us, Zo[0]? = some (c, us) := ⟨_, _, List.getElem?_eq_getElem (show 0 < Zo.length by omega)⟩
            have hus : us = ((comeP ns L 0).map tI).map W.sh := ho 0 _ ez
            have ea : L2.atI (ptZ Zo) 0 = some (.pt c) := atI_nat (j := 0) (by rw [List.getElem?_map, ez]; rfl)
            have lk := look_o nd ez
            have lc : us.length = (comeP ns L 0).length := by rw [hus, List.length_map, List.length_map]
            push_cast [look_po]
            rw [atR_some ea]
            push_cast [lk, lc, ll]
            refine ite2 (fun z => ?_) (fun z => ?_)
            · have h0 := come_all (show (comeP ns L 0).length = L.length by omega)
              have et : trimP (k + 1) (askD ns q hs nz) L = trimP k q L := by rw [trim_ask, if_neg zL, if_pos (come_all' h0)]
              rw [et] at kk
              push_cast [spTrD]
              exact ⟨many, k, L, rfl, hq, by omega, m8, hL, hl8, .sh kk⟩
            · push_cast []
              exact ⟨shO_s, fun _ h => z (by have := come_all' h; omega), fun h => by omega⟩
          | 1, _, hw, m1 =>
            obtain rfl : W.sh (.int (1 : Nat)) = w := Option.some.inj hw
            have m1' := m1 (Nat.le_refl 1)
            obtain ⟨c, us, ez⟩ : ∃ c us, Zo[1]? = some (c, us) := ⟨_, _, List.getElem?_eq_getElem (show 1 < Zo.length by omega)⟩
            have hus : us = ((comeP ns L (ns.length + 1)).map tI).map W.sh := ho 1 _ ez
            have ea : L2.atI (ptZ Zo) 1 = some (.pt c) := atI_nat (j := 1) (by rw [List.getElem?_map, ez]; rfl)
            have lk := look_o nd ez
            have lc : us.length = (comeP ns L (ns.length + 1)).length := by rw [hus, List.length_map, List.length_map]
            push_cast [look_po]
            rw [atR_some ea]
            push_cast [lk, lc, ll]
            refine ite2 (fun z => ?_) (fun z => ?_)
            · have h0 := come_all (show (comeP ns L (ns.length + 1)).length = L.length by omega)
              have et : trimP (k + 1) (askD ns q hs nz) L = trimP k nz L := by rw [trim_ask, if_neg zL, if_neg fun h => m1' (come_all h), if_pos (come_all' h0)]
              rw [et] at kk
              push_cast [spTrD]
              exact ⟨many, k, L, rfl, hz, by omega, m8, hL, hl8, .sh kk⟩
            · push_cast []
              exact ⟨shO_s, fun _ => m1', fun _ h => z (by have := come_all' h; omega)⟩
        · rintro Γ Ω ⟨v6, rfl, rfl, s6, m1, m2⟩
          have k1 := m1 (by decide)
          have k2 := m2 (by decide)
          have et : trimP (k + 1) (askD ns q hs nz) L = askD ns (trimP k q (comeP ns L 0)) (hs.mapIdx fun j h => trimP k h (comeP ns L (j + 1))) (trimP k nz (comeP ns L (ns.length + 1))) := by rw [trim_ask, if_neg zL, if_neg fun h => k1 (come_all h), if_neg fun h => k2 (come_all h)]
          rw [et] at kk
          obtain ⟨_, _, p1, p2, p3, p4, p5, _⟩ := nd.parts
          refine .mk (frz_two (Fo := fun j => (comeP ns L (oI ns j)).map tI) (Fh := fun j => (comeP ns L (j + 1)).map tI) nd ho hh2 (fun a ha w hw e => ?_) ?_)
          · rw [e] at hw
            have nap : a ≠ ph ∧ a ≠ po := by
              rcases List.mem_append.mp ha with h | h
              · exact ⟨fun z => p4 (by rw [← z]; exact h), fun z => p1 (by rw [← z]; exact h)⟩
              · exact ⟨fun z => p5 (by rw [← z]; exact h), fun z => p3 (by rw [← z]; exact h)⟩
            simp at hw
            rcases hw with h | h | h | h | h
            · exact nap.1 h
            · exact nap.2 h
            · exact s4 a h.symm
            · exact s5 a h.symm
            · exact s6 a h.symm
          · rw [zo, zh]
            have er2 : (List.range 2).map (fun j => D.lst ((comeP ns L (oI ns j)).map tI)) = [D.lst ((comeP ns L 0).map tI), D.lst ((comeP ns L (ns.length + 1)).map tI)] := rfl
            have npp : (ph = po) = False := eq_false (Ne.symm p2)
            rw [er2]
            have lr : (List.map (fun j => D.lst (List.map tI (comeP ns L (j + 1)))) (List.range ns.length)).length = ns.length := by rw [List.length_map, List.length_range]
            generalize hHs : List.map (fun j => D.lst (List.map tI (comeP ns L (j + 1)))) (List.range ns.length) = Hs at *
            push_cast [OA.subG, subW, Option.map_some, Option.map_none, npp, lr]
            refine ⟨by simp, by omega, by omega, _, dLcP_map (D0 := List.range ns.length) (f := fun j => W.sh (.int (j : Nat))) (G := fun j => W.sh (trimP k (hs.getD j .non) (comeP ns L (j + 1)))) (by rw [List.length_range]; omega) (fun j hj acc u Pn hn0 lt2 kp => ?_), fun acc hacc => ?_⟩
            · have hj := List.mem_range.mp hj
              have hjh : j < hs.length := by omega
              have hb : hs.getD j .non = hs[j] := by
                rw [List.getD_eq_getElem?_getD, List.getElem?_eq_getElem hjh]
                rfl
              have eh : L2.atI hs ((j : Nat) : Int) = some (hs.getD j .non) := atI_nat (by rw [hb]; exact List.getElem?_eq_getElem hjh)
              have eH : L2.atI (List.map W.sh Hs) ((j : Nat) : Int) = some (.sh (.lst ((comeP ns L (j + 1)).map tI))) := atI_nat (by rw [List.getElem?_map, ← hHs, List.getElem?_map, List.getElem?_range hj]; rfl)
              have cl := come_len (ns := ns) (L := L) (k := j + 1)
              push_cast []
              rw [atR_some eh]
              push_cast []
              rw [atR_some eH]
              push_cast [spTrD]
              refine ⟨many, k, comeP ns L (j + 1), rfl, by rw [hb]; exact hh _ (List.getElem_mem hjh), by omega, m8, by omega, fun l hl => ?_, lt2, kp⟩
              obtain ⟨l0, h1, _, rfl⟩ := come_sub hl
              have := hl8 l0 h1
              have := restP_len (ns := ns) (l := l0)
              omega
            · have en : (natsW ns.length).length = ns.length := by simp [natsW]
              have : acc = (hs.mapIdx fun j h => trimP k h (comeP ns L (j + 1))).map W.sh := by
                have e0 : acc = (List.range ns.length).map fun j => W.sh (trimP k (hs.getD j .non) (comeP ns L (j + 1))) := by
                  rw [hacc]
                  have : (natsW ns.length).length = (List.range ns.length).length := by rw [en, List.length_range]
                  first
                    | rw [this, List.take_length]
                    | rw [show ns.length = (List.range ns.length).length by rw [List.length_range], List.take_length]
                rw [e0]
                refine List.ext_getElem? fun j => ?_
                rw [List.getElem?_map, List.getElem?_map, List.getElem?_mapIdx]
                rcases Nat.lt_or_ge j ns.length with hj | hj
                · have hjh : j < hs.length := by omega
                  rw [List.getElem?_range hj, List.getElem?_eq_getElem hjh]
                  show some (W.sh (trimP k (hs.getD j .non) (comeP ns L (j + 1)))) = _
                  rw [List.getD_eq_getElem?_getD, List.getElem?_eq_getElem hjh]
                  rfl
                · rw [List.getElem?_eq_none (by rw [List.length_range]; exact hj), List.getElem?_eq_none (show hs.length ≤ j by omega)]
                  rfl
              subst this
              have c8 : ∀ k', (comeP ns L k').length ≤ 5000 ∧ ∀ l ∈ comeP ns L k', l.length ≤ 8 := fun k' => by
                have cl := come_len (ns := ns) (L := L) (k := k')
                refine ⟨by omega, fun l hl => ?_⟩
                obtain ⟨l0, h1, _, rfl⟩ := come_sub hl
                have := hl8 l0 h1
                have := restP_len (ns := ns) (l := l0)
                omega
              rw [shsW_map]
              push_cast [spTrD]
              refine ⟨many, k, comeP ns L 0, rfl, hq, by omega, m8, (c8 0).1, (c8 0).2, ?_⟩
              push_cast [spTrD]
              refine ⟨many, k, comeP ns L (ns.length + 1), rfl, hz, by omega, m8, (c8 _).1, (c8 _).2, ?_⟩
              push_cast []
              exact .sh kk
theorem trim_0 (T : Txt K mg base A) : FnOk P w K mg base CX0 1 A._law_trim A.d__law_trim ["_law_plan_here", "_law_lefts"] (spD K am0 (spTrD 0)) := by
  refine T.F__law_trim.ok sc__law_trim (fun vs H Q E h => by
    obtain ⟨_, ws, Qd, _, _, _, hv, hsp, _⟩ := h
    obtain ⟨many, n, d, L, rfl, _⟩ := hsp
    exact hv.len.symm) (fun cdv A' outer s H vs Q E hr h => ?_)
  have hu := hu_of hr
  refine spD_run (td := ?td) h (qs_cons (q_if (PW.pt (pw_or (q_cmp op_eq (pe_ix ix_T (qv 0) pe_int (fun _ _ => rfl)) pe_str (nomark _)) (pw_or1 (q_cmp (op_eqD (X := _) hr.units) (qv 1) (pe_lst pa_nil) (nomark _))))) (pss_one (ps_ret (pe_tup (pa_cons pe_str pa_nil)))) pss_nil)
    (qs_cons ps_never
    (qs_cons ps_never
    (qs_cons ps_never
    (qs_cons ps_never
    (qs_cons ps_never
    (pss_one ps_never))))))) ?hs ?hD
  case hs => (try simp only [cx_K, cx_prog, cx_w, blkK]); exact inferInstance
  rintro ws Qd ⟨many, n, d, L, rfl, ⟨hp, hn, m8, hL, hl8⟩, kk⟩
  obtain rfl : n = 0 := by omega
  obtain rfl : d = endD := hp
  push_cast [spTrD]
  exact .sh kk
theorem all_trim (T : Txt K mg base A) : ∀ N, FnOk P w K mg base CX0 (N + 1) A._law_trim A.d__law_trim ["_law_plan_here", "_law_lefts"] (spD K am0 (spTrD N))
  | 0 => trim_0 T
  | N + 1 => ok__law_trim T N (all_trim T N)
end
end P
end OA

namespace OA
namespace P
open PySem L2
local macro_rules
  | `(tactic| push_cast only [$a,*]) => `(tactic| simp -implicitDefEqProofs only [Int.toNat_natCast, List.cons.injEq, W.sh.injEq, D.int.injEq, D.str.injEq, D.bl.injEq, D.tup.injEq, D.lst.injEq, W.pt.injEq, and_assoc, exists_eq_left', exists_eq_left, exists_and_left, true_implies, dIsi, tn_n, tn_b, tn_i, tn_s, tn_t, tn_nt, tn_l, kr_NoneType_bool, kr_NoneType_int, kr_NoneType_str, kr_NoneType_list, kr_NoneType_tuple, kr_NoneType_dict, kr_bool_bool, kr_bool_int, kr_bool_str, kr_bool_list, kr_bool_tuple, kr_bool_dict, kr_int_bool, kr_int_int, kr_int_str, kr_int_list, kr_int_tuple, kr_int_dict, kr_str_bool, kr_str_int, kr_str_str, kr_str_list, kr_str_tuple, kr_str_dict, kr_list_bool, kr_list_int, kr_list_str, kr_list_list, kr_list_tuple, kr_list_dict, kr_tuple_bool, kr_tuple_int, kr_tuple_str, kr_tuple_list, kr_tuple_tuple, kr_tuple_dict, kr_dict_bool, kr_dict_int, kr_dict_str, kr_dict_list, kr_dict_tuple, kr_dict_dict, dVar, dC_n, dC_b, dC_i, dC_s, dC_t, dC_r, dOp, dUn, dNil, dCons, dStar, dStarT, dTup, dLst, dLstO, dAnd, dOr, dNot, dIf, dTest, dYes, dChain, dCall, dNext, dCut, dSeq, dDrop, dRet, dRetN, dIfS, dName, sgnil_e, sgcons_e, dGtup, dAsg, dAug, dWhile, dFor, dLc, dLcO, dLc2, dDc, dI0, dIC, dEq, dIsN, isNonW, noPy, dAddS, dMulS, dCat, dCatT, dInT, dInLI, dInTI, dInS, dIxL, dIxT, dIxS, dNeg, dNoPart, dPart, dSl, dSlL, dSlT, dSlS, dRev, dDGet, dDIn, dDNew, dDNewS, dsDPut, dgSub, dSetL, isLW, dLM, dLM0, dAppend, dPopAt, dExtend, dPop, dLen, dTupL, dLstL, dAbs, dIntB, dMin2, dMax2, dMaxL, dCKw, dMaxT, dFn, dList, dTupI, dStrI, dR1, dR2, dEnum, dTAnd, dTOr, dTNot, varR_e, intW_e, blW_e, strW_e, shW_e, tyW_e, tupW_e, tupW_n, tup0W_e, lookL_e, lookD_e, lookR_e, lookR_l, seqW_e, seqW_p, dicW_e, dicW_p, ownL_p, ownD_p, keyW_i, keyW_s, one1W_e, two2W_e, shsW_nil, shsW_cons, shsW_app, shsW_map, intsD_nil, intsD_cons, intsD_map, strsD_map, cWR_n, cWR_b, cWR_i, cWR_s, flW_n, flW_b, flW_i, flW_s, fls_nil, fls_n, fls_b, fls_i, fls_s, lenW_l, lenW_d, lenW_t, lenW_n, lenW_s, lenW_p, lenO'_l, lenO'_d, atR_0, atR_1, atR_2, atR_3, atR_4, lenOk_0, lenOk_1, lenOk_2, lenOk_3, lenOk_4, lenOk_5, look_hd, put_c, put_n, notins_nil, startG, scal, List.map, List.replicate, List.length_cons, List.length_nil, List.cons_append, List.nil_append, List.append_nil, List.getElem?_cons_zero, List.getElem?_cons_succ, List.set_cons_zero, List.set_cons_succ, wipeG, true_and, and_true, if_true, if_false, decide_eq_true_eq, reduceCtorEq, reduceIte, Bool.false_eq_true, decide_true, decide_false, Bool.true_and, Bool.false_and, Bool.and_true, Bool.and_false, Bool.not_true, Bool.not_false, V.int.injEq, V.str.injEq, V.bl.injEq, Nat.reduceAdd, Nat.reduceSub, Nat.reduceLT, Int.reduceEq, Int.reduceLT, Int.reduceLE, Int.reduceAdd, Int.reduceSub, Int.cast_ofNat_Int, dForK, dOff, dMany, dMixed, dDcO, dLstVals, dEqLI, dDictO, dSortP, dLstK, dNeD0, dRep, dLstRg, dDGet2, dSortDW, dFnM, dTupF, dTupDF, dTupRgF, dSlF, dTIx, dLstT, dLstTO, dRevI, dRemI, ntW_e, D.nt.injEq, dShapeP, P.dAreN, dDNewT, dsDPutT, dGet2T, dLstDT, dInLD, dInLB, dtW_p, lookT_e, keyTW, keysD_nil, keysD_i, bolsD_map, dLcN, dZipI, dRepT, dTupT, dNotInLT, dIndexLT, dEqP, pdW_s, pdW_p, dSortI, dInsert0, dCatO, dLcK, $a,*])
  | `(tactic| push_cast [$a,*]) => `(tactic| ((repeat refine LaterD.mk ?_); push_cast only [$a,*]; repeat ((refine LaterD.mk ?_); (repeat refine LaterD.mk ?_); push_cast only [$a,*])))
/-! idle asks -/
def wordP (ns l : List Int) : Int × Int := match speakP ns l with
  | [] => (0, 0)
  | [s] => (1, s)
  | _ => (2, 0)
theorem sp_cases (ns l : List Int) : (speakP ns l = [] ∧ wordP ns l = (0, 0) ∧ placeP ns l = 0 ∧ restP ns l = l) ∨ (∃ s, speakP ns l = [s] ∧ s ∈ ns ∧ wordP ns l = (1, s) ∧ placeP ns l = ns.idxOf s + 1 ∧ restP ns l = l.filter fun n => decide (n ≠ s)) ∨
    ∃ s t r, speakP ns l = s :: t :: r ∧ wordP ns l = (2, 0) ∧ placeP ns l = ns.length + 1 ∧ restP ns l = l := by
  unfold wordP placeP restP
  match h : speakP ns l with
  | [] => exact .inl ⟨rfl, rfl, rfl, rfl⟩
  | [s] => exact .inr (.inl ⟨s, rfl, (speakP_mem (ns := ns) (l := l) (s := s) (by rw [h]; simp)).1, rfl, rfl, rfl⟩)
  | s :: t :: r => exact .inr (.inr ⟨s, t, r, rfl, rfl, rfl, rfl⟩)
theorem word_0 {ns l : List Int} : wordP ns l = (0, 0) ↔ placeP ns l = 0 := by
  rcases sp_cases ns l with ⟨_, a, b, _⟩ | ⟨s, _, _, a, b, _⟩ | ⟨s, t, r, _, a, b, _⟩
  · rw [a, b]; simp
  · rw [a, b]; simp
  · rw [a, b]; simp
theorem word_2 {ns l : List Int} : wordP ns l = (2, 0) ↔ placeP ns l = ns.length + 1 := by
  rcases sp_cases ns l with ⟨_, a, b, _⟩ | ⟨s, _, h, a, b, _⟩ | ⟨s, t, r, _, a, b, _⟩
  · rw [a, b]; simp
  · rw [a, b]
    have := idx_lt h
    simp
    omega
  · rw [a, b]; simp
theorem idx_get {ns : List Int} (nd : ns.Nodup) {k : Nat} (hk : k < ns.length) : ns.idxOf ns[k] = k := nd.idxOf_getElem k hk
theorem word_1 {ns l : List Int} (nd : ns.Nodup) {k : Nat} (hk : k < ns.length) : wordP ns l = (1, ns[k]) ↔ placeP ns l = k + 1 := by
  rcases sp_cases ns l with ⟨_, a, b, _⟩ | ⟨s, _, h, a, b, _⟩ | ⟨s, t, r, _, a, b, _⟩
  · rw [a, b]
    constructor
    · intro h; simp at h
    · intro h; omega
  · rw [a, b]
    have hi := idx_lt h
    constructor
    · intro h
      have h : s = ns[k] := by simpa using h
      rw [h, idx_get nd hk]
    · intro h
      have h : ns.idxOf s = k := by omega
      have e2 : ns[ns.idxOf s]'hi = s := List.getElem_idxOf hi
      have : s = ns[k] := by
        rw [← e2]
        congr 1
      rw [this]
  · rw [a, b]
    constructor
    · intro h; simp at h
    · intro h; omega
def fileP (ns : List Int) (L : List (List Int)) (x : Int × Int) : List (List Int) := (L.filter fun l => decide (wordP ns l = x)).map (restP ns)
theorem file_snoc {ns : List Int} {L : List (List Int)} {l : List Int} {x : Int × Int} : fileP ns (L ++ [l]) x = fileP ns L x ++ (if wordP ns l = x then [restP ns l] else []) := by
  unfold fileP
  rw [List.filter_append, List.map_append]
  congr 1
  by_cases z : wordP ns l = x <;> simp [z]
theorem file_of {ns : List Int} {L : List (List Int)} {x : Int × Int} {k : Nat} (h : ∀ l, wordP ns l = x ↔ placeP ns l = k) : fileP ns L x = comeP ns L k := by
  unfold fileP comeP
  congr 1
  refine List.filter_congr fun l _ => decide_eq_decide.mpr (h l)
theorem file_none {ns : List Int} {L : List (List Int)} {x : Int × Int} (h : ¬ ∃ l ∈ L, wordP ns l = x) : fileP ns L x = [] := by
  unfold fileP
  rw [List.filter_eq_nil_iff.mpr fun l hl e => h ⟨l, hl, of_decide_eq_true e⟩]
  rfl
def kP (x : Int × Int) : List Key := [.inl x.1, .inl x.2]
theorem kP_inj {x y : Int × Int} (h : kP x = kP y) : x = y := by
  unfold kP at h
  simp at h
  exact Prod.ext h.1 h.2
theorem valG_map {G : Int × Int → W} {x : Int × Int} : ∀ xs : List (Int × Int), dvalG (xs.map kP) (xs.map G) (kP x) = if x ∈ xs then some (G x) else none
  | [] => rfl
  | y :: xs => by
    have ih := valG_map (G := G) (x := x) xs
    unfold dvalG at ih ⊢
    rw [List.map_cons, List.map_cons, List.zip_cons_cons, List.find?_cons]
    by_cases z : kP y = kP x
    · rw [decide_eq_true z, kP_inj z, if_pos List.mem_cons_self]
      rfl
    · rw [decide_eq_false z, ih]
      have : ¬ x = y := fun e => z (by rw [e])
      simp [this]
theorem hasG_map {x : Int × Int} : ∀ xs : List (Int × Int), hasG (xs.map kP) (kP x) = decide (x ∈ xs)
  | [] => rfl
  | y :: xs => by
    have ih := hasG_map (x := x) xs
    unfold hasG at ih ⊢
    rw [List.map_cons, List.any_cons, ih]
    by_cases z : kP y = kP x
    · rw [decide_eq_true z, kP_inj z]
      simp
    · rw [decide_eq_false z]
      have : ¬ x = y := fun e => z (by rw [e])
      simp [this]
def addX (xs : List (Int × Int)) (x : Int × Int) : List (Int × Int) := if x ∈ xs then xs else xs ++ [x]
theorem putG_map {G G' : Int × Int → W} {x : Int × Int} {xs : List (Int × Int)} (h : ∀ y, y ≠ x → G' y = G y) : putG (xs.map kP) (xs.map G) (kP x) (G' x) = ((addX xs x).map kP, (addX xs x).map G') := by
  unfold putG addX
  rw [hasG_map]
  by_cases z : x ∈ xs
  · rw [if_pos (decide_eq_true z), if_pos z]
    congr 1
    rw [List.zip_map', List.map_map]
    refine List.map_congr_left fun y _ => ?_
    show (if kP y = kP x then G' x else G y) = G' y
    by_cases e : y = x
    · rw [if_pos (by rw [e]), e]
    · rw [if_neg fun q => e (kP_inj q), h y e]
  · rw [if_neg (by rw [decide_eq_false z]; decide), if_neg z, List.map_append, List.map_append]
    congr 1
    congr 1
    refine List.map_congr_left fun y hy => ?_
    exact (h y fun e => z (by rw [← e]; exact hy)).symm
theorem addX_nd {xs : List (Int × Int)} {x : Int × Int} (nd : xs.Nodup) : (addX xs x).Nodup := by
  unfold addX
  split
  · exact nd
  · rename_i z
    rw [List.nodup_append]
    refine ⟨nd, by simp, fun a ha b hb e => ?_⟩
    rw [List.mem_singleton.mp hb] at e
    exact z (by rw [← e]; exact ha)
theorem addX_mem {xs : List (Int × Int)} {x y : Int × Int} : y ∈ addX xs x ↔ y ∈ xs ∨ y = x := by
  unfold addX
  split
  · rename_i z
    constructor
    · exact .inl
    · rintro (h | h)
      · exact h
      · rw [h]; exact z
  · simp
/-- the words that were met -/
def metX (ns : List Int) (L : List (List Int)) : List (Int × Int) := L.foldl (fun xs l => addX xs (wordP ns l)) []
theorem met_snoc {ns : List Int} {L : List (List Int)} {l : List Int} : metX ns (L ++ [l]) = addX (metX ns L) (wordP ns l) := by
  unfold metX
  rw [List.foldl_append]
  rfl
theorem met_ok {ns : List Int} (L : List (List Int)) : (metX ns L).Nodup ∧ ∀ x, x ∈ metX ns L ↔ ∃ l ∈ L, wordP ns l = x := by
  suffices h : ∀ (M : List (List Int)) (xs : List (Int × Int)), xs.Nodup → (M.foldl (fun xs l => addX xs (wordP ns l)) xs).Nodup ∧ ∀ x, x ∈ M.foldl (fun xs l => addX xs (wordP ns l)) xs ↔ x ∈ xs ∨ ∃ l ∈ M, wordP ns l = x by
    obtain ⟨a, b⟩ := h L [] List.nodup_nil
    exact ⟨a, fun x => by rw [show x ∈ metX ns L ↔ _ from b x]; simp⟩
  intro M
  induction M with
  | nil => intro xs nd; exact ⟨nd, fun x => by simp⟩
  | cons m M ih =>
    intro xs nd
    obtain ⟨a, b⟩ := ih (addX xs (wordP ns m)) (addX_nd nd)
    refine ⟨a, fun x => ?_⟩
    rw [List.foldl_cons, b x, addX_mem]
    constructor
    · rintro ((h | h) | ⟨l, hl, h⟩)
      · exact .inl h
      · exact .inr ⟨m, List.mem_cons_self, h.symm⟩
      · exact .inr ⟨l, List.mem_cons_of_mem _ hl, h⟩
    · rintro (h | ⟨l, hl, h⟩)
      · exact .inl (.inl h)
      · rcases List.mem_cons.mp hl with rfl | hl
        · exact .inl (.inr h.symm)
        · exact .inr ⟨l, hl, h⟩
theorem met_nil {ns : List Int} {L : List (List Int)} : metX ns L = [] ↔ L = [] := by
  obtain ⟨_, b⟩ := met_ok (ns := ns) L
  constructor
  · intro h
    cases L with
    | nil => rfl
    | cons l L =>
      have := (b (wordP ns l)).mpr ⟨l, List.mem_cons_self, rfl⟩
      rw [h] at this
      simp at this
  · intro h
    rw [h]
    rfl
theorem met_one {ns : List Int} {L : List (List Int)} {x : Int × Int} : metX ns L = [x] ↔ L ≠ [] ∧ ∀ l ∈ L, wordP ns l = x := by
  obtain ⟨a, b⟩ := met_ok (ns := ns) L
  constructor
  · intro h
    refine ⟨fun z => ?_, fun l hl => ?_⟩
    · rw [met_nil.mpr z] at h
      cases h
    · have := (b (wordP ns l)).mpr ⟨l, hl, rfl⟩
      rw [h] at this
      exact List.mem_singleton.mp this
  · rintro ⟨h1, h2⟩
    have hx : ∀ y ∈ metX ns L, y = x := fun y hy => by
      obtain ⟨l, hl, e⟩ := (b y).mp hy
      rw [← e, h2 l hl]
    generalize hm : metX ns L = m at *
    match m, hx, a with
    | [], _, _ => exact absurd (met_nil.mp hm) h1
    | [y], hx, _ => rw [hx y (by simp)]
    | y :: z :: r, hx, a =>
      have e1 := hx y (by simp)
      have e2 := hx z (by simp)
      rw [e1, e2] at a
      simp at a
theorem pd_keys : ∀ xs : List (Int × Int), (([PyData.list [], .list [.tuple [.int 0, .int 0]], .list [.tuple [.int 2, .int 0]]].any fun z => PyData.eqv z (pdD (.lst (xs.map fun x => keyTD (kP x)))))) = (decide (xs = []) || decide (xs = [(0, 0)]) || decide (xs = [(2, 0)]))
  | [] => by decide
  | [(a, b)] => by
    show ((PyData.eqv (.list []) (.list [.tuple [.int a, .int b]])) || ((PyData.eqv (.list [.tuple [.int 0, .int 0]]) (.list [.tuple [.int a, .int b]])) || ((PyData.eqv (.list [.tuple [.int 2, .int 0]]) (.list [.tuple [.int a, .int b]])) || false))) = _
    rw [Bool.eq_iff_iff]
    simp only [PyData.eqv, PyData.eqvAll, Bool.and_true, Bool.false_or, Bool.or_false, Bool.or_eq_true, Bool.and_eq_true, beq_iff_eq, decide_eq_true_eq, List.cons.injEq, Prod.mk.injEq, and_true, reduceCtorEq, false_or]
    constructor
    · rintro (⟨h1, h2⟩ | ⟨h1, h2⟩)
      · exact .inl ⟨h1.symm, h2.symm⟩
      · exact .inr ⟨h1.symm, h2.symm⟩
    · rintro (⟨h1, h2⟩ | ⟨h1, h2⟩)
      · exact .inl ⟨h1.symm, h2.symm⟩
      · exact .inr ⟨h1.symm, h2.symm⟩
  | x :: y :: r => by
    show ((PyData.eqv (.list []) (.list (_ :: _ :: _))) || ((PyData.eqv (.list [.tuple [.int 0, .int 0]]) (.list (_ :: _ :: _))) || ((PyData.eqv (.list [.tuple [.int 2, .int 0]]) (.list (_ :: _ :: _))) || false))) = _
    simp [PyData.eqv, PyData.eqvAll]
theorem met_len {ns : List Int} (L : List (List Int)) : (metX ns L).length ≤ L.length := by
  suffices h : ∀ (M : List (List Int)) (xs : List (Int × Int)), (M.foldl (fun xs l => addX xs (wordP ns l)) xs).length ≤ xs.length + M.length by
    have h0 := h L []
    show (L.foldl (fun xs l => addX xs (wordP ns l)) []).length ≤ L.length
    simpa using h0
  intro M
  induction M with
  | nil => intro xs; exact Nat.le_refl _
  | cons m M ih =>
    intro xs
    have h1 := ih (addX xs (wordP ns m))
    have h2 : (addX xs (wordP ns m)).length ≤ xs.length + 1 := by
      unfold addX
      split
      · omega
      · simp
    rw [List.foldl_cons, List.length_cons]
    omega
abbrev gL (ns : List Int) (L : List (List Int)) (x : Int × Int) : W := .sh (.lst ((fileP ns L x).map tI))
theorem get_file {ns : List Int} {L : List (List Int)} (a b : Int) : (dvalG ((metX ns L).map kP) ((metX ns L).map (gL ns L)) [Sum.inl a, Sum.inl b]).getD (.sh (.lst [])) = gL ns L (a, b) := by
  have h := valG_map (G := gL ns L) (x := (a, b)) (metX ns L)
  have e : kP (a, b) = [Sum.inl a, Sum.inl b] := rfl
  rw [← e, h]
  by_cases z : (a, b) ∈ metX ns L
  · rw [if_pos z]
    rfl
  · rw [if_neg z]
    have hn : fileP ns L (a, b) = [] := file_none fun h => z ((met_ok L).2 _ |>.mpr h)
    unfold gL
    rw [hn]
    rfl
theorem put_file {ns : List Int} {L : List (List Int)} {l : List Int} {a b : Int} (hw : wordP ns l = (a, b)) : putG ((metX ns L).map kP) ((metX ns L).map (gL ns L)) [Sum.inl a, Sum.inl b] (.sh (.lst ((fileP ns L (a, b)).map tI ++ [tI (restP ns l)]))) = ((metX ns (L ++ [l])).map kP, (metX ns (L ++ [l])).map (gL ns (L ++ [l]))) := by
  have h := putG_map (G := gL ns L) (G' := gL ns (L ++ [l])) (x := (a, b)) (xs := metX ns L) fun y hy => by
    unfold gL
    rw [file_snoc, if_neg (fun e => hy (by rw [← e, hw])), List.append_nil]
  have e1 : gL ns (L ++ [l]) (a, b) = .sh (.lst ((fileP ns L (a, b)).map tI ++ [tI (restP ns l)])) := by
    unfold gL
    rw [file_snoc, if_pos hw, List.map_append]
    rfl
  rw [e1] at h
  rw [met_snoc, hw]
  exact h
def spIdD (N : Nat) : DSp := fun ws Q => ∃ (many n : Nat) (d : D) (L : List (List Int)), ws = [.sh d, .sh (.lst (L.map tI))] ∧ (PlanOk many n d ∧ n ≤ N ∧ many ≤ 8 ∧ L.length ≤ 5000 ∧ ∀ l ∈ L, l.length ≤ 8) ∧ Q (.sh (.bl (idleP n d L))) []
section
variable {P : Program} {w : World} {K : PySem.W.Frag} {mg : Str → Option Value} {base : Heap} {A : Ad}
theorem sc__law_idle : FnScope ["_law_plan_here", "_law_lefts", "_law_behind", "_law_left", "_law_speak", "_law_word", "_law_some", "_law_k", "_law_number", "_law_one"] ["_law_plan_here", "_law_lefts"] (defScope s__law_idle) := ⟨rfl, rfl, rfl, by decide +kernel, rfl, by decide +kernel, by decide +kernel⟩
theorem ok__law_idle (T : Txt K mg base A)(N : Nat) (G : FnOk P w K mg base CX0 (N + 1) A._law_idle A.d__law_idle ["_law_plan_here", "_law_lefts"] (spD K am0 (spIdD N))) : FnOk P w K mg base CX0 (N + 2) A._law_idle A.d__law_idle ["_law_plan_here", "_law_lefts"] (spD K am0 (spIdD (N + 1))) := by
  refine T.F__law_idle.ok sc__law_idle (fun vs H Q E h => by
    obtain ⟨_, ws, Qd, _, _, _, hv, hsp, _⟩ := h
    obtain ⟨many, n, d, L, rfl, _⟩ := hsp
    exact hv.len.symm) (fun cdv A' outer s H vs Q E hr h => ?_)
  have hu := hu_of hr
  refine spD_run (td := ?td) h (qs_cons (q_if (q_cmp op_eq (pe_ix ix_T (qv 0) pe_int (fun _ _ => rfl)) pe_str (nomark _)) (pss_one (ps_ret pe_bl)) pss_nil)
    (qs_cons (ps_set (i := 2) sc__law_idle.nd rfl (Or.inl rfl) (q_own pe_dnewT))
    (qs_cons (q_for PassesOwn.never rfl (qi_list (qv 1)) (pg_name (i := 3) sc__law_idle.nd rfl (Or.inr rfl)) (qs_cons (ps_set (i := 4) sc__law_idle.nd rfl (Or.inr rfl) (q_lc (own := [("_law_number", 8)]) (g := gName 8) rfl sc__law_idle.nd (qi_tup (pe_ix ix_T (qv 0) pe_int (fun _ _ => rfl))) (blkOk_by (own := [("_law_number", 8)]) (N := ["_law_plan_here", "_law_lefts", "_law_behind", "_law_left", "_law_speak", "_law_word", "_law_some", "_law_k", "_law_number", "_law_one"]) (sc := defScope s__law_idle) (by decide +kernel)) (fun _ _ _ _ _ => (pg_name (i := 8) sc__law_idle.nd rfl (Or.inl rfl))) (fun _ _ _ _ _ => pts_one (q_cmp o_inTI (qv 8) (qv 3) (by rfl))) (fun _ _ _ _ _ => (qv 8))))
    (qs_cons (ps_set (i := 5) sc__law_idle.nd rfl (Or.inl rfl) (pe_tup (pa_cons (pe_callB (c_min2 rfl) (by rfl) T.m_min (by decide +kernel) (pa_cons pe_int (pa_cons (pe_callB c_len (by rfl) T.m_len (by decide +kernel) (pa_cons (qv 4) pa_nil)) pa_nil))) (pa_cons (pe_ifExp (q_cmp op_eq (pe_callB c_len (by rfl) T.m_len (by decide +kernel) (pa_cons (qv 4) pa_nil)) pe_int (nomark _)) (pe_ix ix_L (qv 4) pe_int (fun _ _ => rfl)) pe_int) pa_nil))))
    (pss_one (q_dputT hu (qv 2) (qv 5) (pe_op o_cat (q_dget2T hu (qv 2) (qv 5) (pe_lst pa_nil) ⟨by rfl, by rfl, by rfl, by rfl⟩) (pe_lst (pa_cons (pe_callTy c_tupL (by rfl) T.m_tuple (by decide +kernel) (pa_cons (q_lc (own := [("_law_one", 9)]) (g := gName 9) rfl sc__law_idle.nd (qi_tup (qv 3)) (blkOk_by (own := [("_law_one", 9)]) (N := ["_law_plan_here", "_law_lefts", "_law_behind", "_law_left", "_law_speak", "_law_word", "_law_some", "_law_k", "_law_number", "_law_one"]) (sc := defScope s__law_idle) (by decide +kernel)) (fun _ _ _ _ _ => (pg_name (i := 9) sc__law_idle.nd rfl (Or.inl rfl))) (fun _ _ _ _ _ => pts_one (PW.pt (pw_or (q_cmp op_ne (pe_callB c_len (by rfl) T.m_len (by decide +kernel) (pa_cons (qv 4) pa_nil)) pe_int (nomark _)) (pw_or1 (q_cmp op_ne (qv 9) (pe_ix ix_L (qv 4) pe_int (fun _ _ => rfl)) (nomark _)))))) (fun _ _ _ _ _ => (qv 9))) pa_nil)) pa_nil))) rfl)))))
    (qs_cons (q_if (q_cmp (op_inD hr.units1) (pe_callTy (c_lstDT rfl) (by rfl) T.m_list (by decide +kernel) (pa_cons (qv 2) pa_nil)) (pe_lst (pa_cons (pe_lst pa_nil) (pa_cons (pe_lst (pa_cons (pe_tup (pa_cons pe_int (pa_cons pe_int pa_nil))) pa_nil)) (pa_cons (pe_lst (pa_cons (pe_tup (pa_cons pe_int (pa_cons pe_int pa_nil))) pa_nil)) pa_nil)))) (by rfl)) (pss_one (ps_ret pe_bl)) pss_nil)
    (qs_cons (ps_set (i := 6) sc__law_idle.nd rfl (Or.inl rfl) (q_own (pe_lst (pa_cons (q_call G (hr.mono (by omega)) rfl T.g__law_idle T.k__law_idle T.b__law_idle pass0 (pa_cons (pe_ix ix_T (qv 0) pe_int (fun _ _ => rfl)) (pa_cons (q_dget2T hu (qv 2) (pe_tup (pa_cons pe_int (pa_cons pe_int pa_nil))) (pe_lst pa_nil) ⟨by rfl, by rfl, by rfl, by rfl⟩) pa_nil))) (pa_cons (q_call G (hr.mono (by omega)) rfl T.g__law_idle T.k__law_idle T.b__law_idle pass0 (pa_cons (pe_ix ix_T (qv 0) pe_int (fun _ _ => rfl)) (pa_cons (q_dget2T hu (qv 2) (pe_tup (pa_cons pe_int (pa_cons pe_int pa_nil))) (pe_lst pa_nil) ⟨by rfl, by rfl, by rfl, by rfl⟩) pa_nil))) pa_nil)))))
    (qs_cons (q_for PassesOwn.never rfl (qi_r1 (by rfl) T.m_range (pa_cons (pe_callB c_len (by rfl) T.m_len (by decide +kernel) (pa_cons (pe_ix ix_T (qv 0) pe_int (fun _ _ => rfl)) pa_nil)) pa_nil)) (pg_name (i := 7) sc__law_idle.nd rfl (Or.inl rfl)) (pss_one (ps_expr (lm1 PySem.F.slot_list_append PySem.F.type_list_append m_append (qv 6) (pa_cons (q_call G (hr.mono (by omega)) rfl T.g__law_idle T.k__law_idle T.b__law_idle pass0 (pa_cons (pe_ix ix_T (pe_ix ix_T (qv 0) pe_int (fun _ _ => rfl)) (qv 7) (fun _ _ => rfl)) (pa_cons (q_dget2T hu (qv 2) (pe_tup (pa_cons pe_int (pa_cons (pe_ix ix_T (pe_ix ix_T (qv 0) pe_int (fun _ _ => rfl)) (qv 7) (fun _ _ => rfl)) pa_nil))) (pe_lst pa_nil) ⟨by rfl, by rfl, by rfl, by rfl⟩) pa_nil))) pa_nil)))))
    (pss_one (ps_ret (pe_cmpR o_inLB pe_bl (qv 6) (by rfl)))))))))) ?hs ?hD
  case hs => (try simp only [cx_K, cx_prog, cx_w, blkK]); exact inferInstance
  rintro ws Qd ⟨many, n, d, L, rfl, ⟨hp, hn, m8, hL, hl8⟩, kk⟩
  rcases hp.cs with rfl | ⟨k, ns, q, hs, nz, rfl, rfl, hns, hl3, hq, hh, hz⟩
  · push_cast [spIdD]
    rw [idle_end] at kk
    exact .sh kk
  · have nsl := hns.len
    push_cast [spIdD, w_ae]
    intro p _
    push_cast []
    refine ⟨fun i Γ Ω => ∃ (v3 v4 v5 : Option W), Γ = [some (.sh (askD ns q hs nz)), some (.sh (.lst (L.map tI))), some (.pt p), v3, v4, v5, none, none, none, none] ∧ Ω = [(p, .dt ((metX ns (L.take i)).map kP) ((metX ns (L.take i)).map (gL ns (L.take i))))], ⟨none, none, none, rfl, rfl⟩, ?_, ?_⟩
    · rintro i w Γ Ω hw ⟨v3, v4, v5, rfl, rfl⟩
      rw [List.map_map, List.getElem?_map] at hw
      cases e : L[i]? with
      | none => rw [e] at hw; cases hw
      | some l =>
        rw [e] at hw
        obtain rfl : W.sh (tI l) = w := Option.some.inj hw
        have l8 := hl8 l (List.mem_of_getElem? e)
        have ht : L.take (i + 1) = L.take i ++ [l] := by rw [List.take_succ, e]; rfl
        have tl : (L.take i).length ≤ L.length := by rw [List.length_take]; omega
        have ml := met_len (ns := ns) (L.take i)
        have lnm : lenLt ((metX ns (L.take i)).map kP) := by
          unfold lenLt
          rw [sizeLine_eq, List.length_map]
          omega
        have fl : ∀ x, (fileP ns (L.take i) x).length ≤ 5000 := fun x => by
          unfold fileP
          rw [List.length_map]
          have := List.length_filter_le (fun l => decide (wordP ns l = x)) (L.take i)
          omega
        push_cast []
        rw [sh_ints]
        refine ⟨by simp, _, dLcP_filt (D0 := ns) (f := fun n => W.sh (.int n)) (G := fun n => W.sh (.int n)) (t := fun n => decide (n ∈ l)) (by omega) (fun n hn acc u Pn hn0 ll k1 => ?_), fun acc hacc => ?_⟩
        · push_cast []
          exact if_ll ll k1
        · have : acc = ((speakP ns l).map D.int).map W.sh := by
            rw [hacc, List.length_map, List.take_length, List.map_map]
            rfl
          subst this
          rcases sp_cases ns l with ⟨es, ew, _, er⟩ | ⟨s, es, _, ew, _, er⟩ | ⟨s, t, r, es, ew, _, er⟩
          · rw [es]
            have pf := put_file (L := L.take i) ew
            have gf := get_file (ns := ns) (L := L.take i) 0 0
            push_cast [gf]
            rw [sh_ints]
            refine ⟨by simp, _, dLcP_filt (D0 := l) (f := fun n => W.sh (.int n)) (G := fun n => W.sh (.int n)) (t := fun n => true) (by omega) (fun n hn acc u Pn hn0 ll k1 => ?_), fun acc hacc => ?_⟩
            · have k1 : Pn (acc ++ [W.sh (.int n)]) := k1
              push_cast []
              exact ⟨ll, k1⟩
            · have : acc = ((restP ns l).map D.int).map W.sh := by
                rw [hacc, List.length_map, List.take_length, er, List.map_map]
                rw [List.filter_eq_self.mpr fun _ _ => rfl]
                rfl
              subst this
              push_cast [gf]
              refine ⟨lenOk_of (by simp; have := fl (0, 0); omega), lnm, ?_⟩
              rw [pf, ht]
          · rw [es]
            have pf := put_file (L := L.take i) ew
            have gf := get_file (ns := ns) (L := L.take i) 1 s
            push_cast [gf]
            rw [sh_ints]
            refine ⟨by simp, _, dLcP_filt (D0 := l) (f := fun n => W.sh (.int n)) (G := fun n => W.sh (.int n)) (t := fun n => decide (n ≠ s)) (by omega) (fun n hn acc u Pn hn0 ll k1 => ?_), fun acc hacc => ?_⟩
            · push_cast []
              by_cases z : n = s
              · rw [if_neg (by simp [z])] at k1
                subst z
                push_cast []
                exact k1
              · rw [if_pos (by simp [z])] at k1
                rw [decide_eq_false z]
                push_cast []
                exact ⟨ll, k1⟩
            · have : acc = ((restP ns l).map D.int).map W.sh := by
                rw [hacc, List.length_map, List.take_length, er, List.map_map]
                rfl
              subst this
              push_cast [gf]
              refine ⟨lenOk_of (by simp; have := fl (1, s); omega), lnm, ?_⟩
              rw [pf, ht]
          · rw [es]
            have pf := put_file (L := L.take i) ew
            have gf := get_file (ns := ns) (L := L.take i) 2 0
            have em : (if (((List.map D.int r).length + 1 + 1 : Nat) : Int) < 2 then (((List.map D.int r).length + 1 + 1 : Nat) : Int) else 2) = 2 := by split <;> omega
            have h1 : ((((List.map D.int r).length + 1 + 1 : Nat) : Int) = 1) = False := eq_false (by omega)
            push_cast [em, h1, gf]
            rw [sh_ints]
            refine ⟨by simp, _, dLcP_filt (D0 := l) (f := fun n => W.sh (.int n)) (G := fun n => W.sh (.int n)) (t := fun n => true) (by omega) (fun n hn acc u Pn hn0 ll k1 => ?_), fun acc hacc => ?_⟩
            · have k1 : Pn (acc ++ [W.sh (.int n)]) := k1
              push_cast [h1]
              exact ⟨ll, k1⟩
            · have : acc = ((restP ns l).map D.int).map W.sh := by
                rw [hacc, List.length_map, List.take_length, er, List.map_map]
                rw [List.filter_eq_self.mpr fun _ _ => rfl]
                rfl
              subst this
              push_cast [gf]
              refine ⟨lenOk_of (by simp; have := fl (2, 0); omega), lnm, ?_⟩
              rw [pf, ht]
    · rintro Γ Ω ⟨v3, v4, v5, rfl, rfl⟩
      push_cast []
      have e2 : (List.map W.sh (List.map tI L)).length = L.length := by rw [List.length_map, List.length_map]
      rw [e2, List.take_length]
      have ek : List.map keyTD (List.map kP (metX ns L)) = (metX ns L).map fun x => keyTD (kP x) := by rw [List.map_map]; rfl
      have plk : plD (.lst ((metX ns L).map fun x => keyTD (kP x))) = true := pl_all fun x hx => by
        obtain ⟨y, _, rfl⟩ := List.mem_map.mp hx
        rfl
      have dpk : (pdD (.lst ((metX ns L).map fun x => keyTD (kP x)))).depth ≤ 64 := by
        unfold pdD PyData.depth
        have := dp_all (xs := (metX ns L).map fun x => keyTD (kP x)) (n := 1) fun x hx => by
          obtain ⟨y, _, rfl⟩ := List.mem_map.mp hx
          show (PyData.tuple [.int y.1, .int y.2]).depth ≤ 1
          simp [PyData.depth, PyData.depthAll]
        omega
      rw [ek]
      refine ⟨plk, dpk, by decide, by decide, ?_⟩
      rw [show pdL [D.lst [], D.lst [D.tup [D.int 0, D.int 0]], D.lst [D.tup [D.int 2, D.int 0]]] = [PyData.list [], .list [.tuple [.int 0, .int 0]], .list [.tuple [.int 2, .int 0]]] from rfl, pd_keys]
      have hiff : (decide (metX ns L = []) || decide (metX ns L = [(0, 0)]) || decide (metX ns L = [(2, 0)])) = true ↔ (∀ l ∈ L, placeP ns l = 0) ∨ ∀ l ∈ L, placeP ns l = ns.length + 1 := by
        simp only [Bool.or_eq_true, decide_eq_true_eq, met_nil, met_one]
        constructor
        · rintro ((h | ⟨_, h⟩) | ⟨_, h⟩)
          · left; intro l hl; rw [h] at hl; simp at hl
          · left; exact fun l hl => word_0.mp (h l hl)
          · right; exact fun l hl => word_2.mp (h l hl)
        · intro h
          by_cases zL : L = []
          · exact .inl (.inl zL)
          · rcases h with h | h
            · exact .inl (.inr ⟨zL, fun l hl => word_0.mpr (h l hl)⟩)
            · exact .inr ⟨zL, fun l hl => word_2.mpr (h l hl)⟩
      by_cases z : (decide (metX ns L = []) || decide (metX ns L = [(0, 0)]) || decide (metX ns L = [(2, 0)])) = true
      · rw [if_pos z]
        have ei : idleP (k + 1) (askD ns q hs nz) L = true := by
          rw [idle_ask]
          rcases hiff.mp z with h | h
          · rw [decide_eq_true h]; simp
          · rw [decide_eq_true h]; simp
        rw [ei] at kk
        push_cast []
        exact .sh kk
      · rw [if_neg z]
        have hn := fun h => z (hiff.mpr h)
        have k1 : ¬ ∀ l ∈ L, placeP ns l = 0 := fun h => hn (.inl h)
        have k2 : ¬ ∀ l ∈ L, placeP ns l = ns.length + 1 := fun h => hn (.inr h)
        rw [idle_ask, decide_eq_false k1, decide_eq_false k2] at kk
        have f0 : fileP ns L (0, 0) = comeP ns L 0 := file_of fun l => word_0
        have f2 : fileP ns L (2, 0) = comeP ns L (ns.length + 1) := file_of fun l => word_2
        have c8 : ∀ k', (comeP ns L k').length ≤ 5000 ∧ ∀ l ∈ comeP ns L k', l.length ≤ 8 := fun k' => by
          have cl := come_len (ns := ns) (L := L) (k := k')
          refine ⟨by omega, fun l hl => ?_⟩
          obtain ⟨l0, h1, _, rfl⟩ := come_sub hl
          have := hl8 l0 h1
          have := restP_len (ns := ns) (l := l0)
          omega
        push_cast [spIdD, get_file, f0, f2]
        refine ⟨many, k, comeP ns L 0, rfl, hq, by omega, m8, (c8 0).1, (c8 0).2, ?_⟩
        push_cast [spIdD, get_file, f0, f2]
        refine ⟨many, k, comeP ns L (ns.length + 1), rfl, hz, by omega, m8, (c8 _).1, (c8 _).2, ?_⟩
        push_cast []
        intro ps nps
        rw [notin_cons] at nps
        have npp : ps ≠ p := nps.1
        have lkp : ∀ o (Ω' : Om), look ((ps, o) :: Ω') p = look Ω' p := fun o Ω' => look_tl (fun z => npp z.symm)
        have ptp : ∀ o o' (Ω' : Om), OA.put ((p, o) :: Ω') ps o' = (p, o) :: OA.put Ω' ps o' := fun o o' Ω' => put_t (Ne.symm npp)
        push_cast [lkp, ptp]
        generalize idleP k q (comeP ns L 0) = b0 at *
        generalize idleP k nz (comeP ns L (ns.length + 1)) = b2 at *
        have blen : ∀ i, i ≤ ns.length → (b0 :: b2 :: (List.range i).map fun j => idleP k (hs.getD j .non) (comeP ns L (j + 1))).length ≤ 1000 := fun i hi => by
          rw [List.length_cons, List.length_cons, List.length_map, List.length_range]
          omega
        refine ⟨by omega, by omega, fun i Γ Ω => ∃ (v7 : Option W), Γ = [some (.sh (askD ns q hs nz)), some (.sh (.lst (L.map tI))), some (.pt p), v3, v4, v5, some (.pt ps), v7, none, none] ∧ Ω = [(ps, .lst (((b0 :: b2 :: (List.range i).map fun j => idleP k (hs.getD j .non) (comeP ns L (j + 1))).map D.bl).map W.sh)), (p, .dt ((metX ns L).map kP) ((metX ns L).map (gL ns L)))], ⟨none, rfl, rfl⟩, ?_, ?_⟩
        · rintro i w Γ Ω hw ⟨v7, rfl, rfl⟩
          have hi : i < ns.length := by
            have := (List.getElem?_eq_some_iff.mp hw).1
            simpa [natsW] using this
          obtain rfl : W.sh (.int (i : Nat)) = w := by
            unfold natsW at hw
            rw [List.getElem?_map, List.getElem?_range hi] at hw
            exact Option.some.inj hw
          have hih : i < hs.length := by omega
          have hb : hs.getD i .non = hs[i] := by
            rw [List.getD_eq_getElem?_getD, List.getElem?_eq_getElem hih]
            rfl
          have eh : L2.atI hs ((i : Nat) : Int) = some (hs.getD i .non) := atI_nat (by rw [hb]; exact List.getElem?_eq_getElem hih)
          have en : L2.atI (List.map D.int ns) ((i : Nat) : Int) = some (.int ns[i]) := atI_nat (by rw [List.getElem?_map, List.getElem?_eq_getElem hi]; rfl)
          have f1 : fileP ns L (1, ns[i]) = comeP ns L (i + 1) := file_of fun l => word_1 hns.nd hi
          have bl := blen i (by omega)
          generalize hbs : b0 :: b2 :: (List.range i).map (fun j => idleP k (hs.getD j .non) (comeP ns L (j + 1))) = bsl at *
          push_cast [lkp, ptp]
          rw [atR_some eh]
          push_cast [lkp, ptp]
          rw [atR_some en]
          push_cast [lkp, ptp, get_file, f1, spIdD]
          refine ⟨many, k, comeP ns L (i + 1), rfl, by rw [hb]; exact hh _ (List.getElem_mem hih), by omega, m8, (c8 _).1, (c8 _).2, ?_⟩
          push_cast [lkp, ptp]
          refine ⟨by unfold lenLt; rw [sizeLine_eq, List.length_map, List.length_map]; omega, ?_⟩
          rw [← hbs, List.range_succ, List.map_append]
          simp
        · rintro Γ Ω ⟨v7, rfl, rfl⟩
          have enl : (natsW ns.length).length = ns.length := by simp [natsW]
          rw [enl]
          generalize hbs : b0 :: b2 :: (List.range ns.length).map (fun j => idleP k (hs.getD j .non) (comeP ns L (j + 1))) = bsl at *
          push_cast []
          refine .sh ?_
          have hgd : ∀ j (hj : j < hs.length), hs.getD j .non = hs[j] := fun j hj => by
            rw [List.getD_eq_getElem?_getD, List.getElem?_eq_getElem hj]
            rfl
          have eb : decide (true ∈ bsl) = (false || false || b0 || b2 || (hs.mapIdx fun k_1 h => idleP k h (comeP ns L (k_1 + 1))).any id) := by
            rw [← hbs, Bool.eq_iff_iff]
            simp only [decide_eq_true_eq, List.mem_cons, Bool.false_or, Bool.or_eq_true, List.any_eq_true, id_eq]
            constructor
            · rintro (h | h | h)
              · exact .inl (.inl h.symm)
              · exact .inl (.inr h.symm)
              · obtain ⟨j, hj, e⟩ := List.mem_map.mp h
                have hj := List.mem_range.mp hj
                have hjh : j < hs.length := by omega
                rw [hgd j hjh] at e
                exact .inr ⟨true, List.mem_mapIdx.mpr ⟨j, hjh, e⟩, rfl⟩
            · rintro ((h | h) | ⟨x, hx, rfl⟩)
              · exact .inl h.symm
              · exact .inr (.inl h.symm)
              · obtain ⟨j, hj, e⟩ := List.mem_mapIdx.mp hx
                exact .inr (.inr (List.mem_map.mpr ⟨j, List.mem_range.mpr (by omega), by rw [hgd j hj]; exact e⟩))
          rw [eb]
          exact kk
theorem idle_0 (T : Txt K mg base A) : FnOk P w K mg base CX0 1 A._law_idle A.d__law_idle ["_law_plan_here", "_law_lefts"] (spD K am0 (spIdD 0)) := by
  refine T.F__law_idle.ok sc__law_idle (fun vs H Q E h => by
    obtain ⟨_, ws, Qd, _, _, _, hv, hsp, _⟩ := h
    obtain ⟨many, n, d, L, rfl, _⟩ := hsp
    exact hv.len.symm) (fun cdv A' outer s H vs Q E hr h => ?_)
  have hu := hu_of hr
  refine spD_run (td := ?td) h (qs_cons (q_if (q_cmp op_eq (pe_ix ix_T (qv 0) pe_int (fun _ _ => rfl)) pe_str (nomark _)) (pss_one (ps_ret pe_bl)) pss_nil)
    (qs_cons (ps_set (i := 2) sc__law_idle.nd rfl (Or.inl rfl) (q_own pe_dnewT))
    (qs_cons ps_never
    (qs_cons ps_never
    (qs_cons ps_never
    (qs_cons ps_never
    (pss_one (ps_ret (pe_cmpR o_inLB pe_bl (qv 6) (by rfl)))))))))) ?hs ?hD
  case hs => (try simp only [cx_K, cx_prog, cx_w, blkK]); exact inferInstance
  rintro ws Qd ⟨many, n, d, L, rfl, ⟨hp, hn, m8, hL, hl8⟩, kk⟩
  obtain rfl : n = 0 := by omega
  obtain rfl : d = endD := hp
  push_cast [spIdD]
  exact .sh kk
theorem all_idle (T : Txt K mg base A) : ∀ N, FnOk P w K mg base CX0 (N + 1) A._law_idle A.d__law_idle ["_law_plan_here", "_law_lefts"] (spD K am0 (spIdD N))
  | 0 => idle_0 T
  | N + 1 => ok__law_idle T N (all_idle T N)
end
end P
end OA

namespace OA
namespace P
open PySem L2
local macro_rules
  | `(tactic| push_cast only [$a,*]) => `(tactic| simp -implicitDefEqProofs only [Int.toNat_natCast, List.cons.injEq, W.sh.injEq, D.int.injEq, D.str.injEq, D.bl.injEq, D.tup.injEq, D.lst.injEq, W.pt.injEq, and_assoc, exists_eq_left', exists_eq_left, exists_and_left, true_implies, dIsi, tn_n, tn_b, tn_i, tn_s, tn_t, tn_nt, tn_l, kr_NoneType_bool, kr_NoneType_int, kr_NoneType_str, kr_NoneType_list, kr_NoneType_tuple, kr_NoneType_dict, kr_bool_bool, kr_bool_int, kr_bool_str, kr_bool_list, kr_bool_tuple, kr_bool_dict, kr_int_bool, kr_int_int, kr_int_str, kr_int_list, kr_int_tuple, kr_int_dict, kr_str_bool, kr_str_int, kr_str_str, kr_str_list, kr_str_tuple, kr_str_dict, kr_list_bool, kr_list_int, kr_list_str, kr_list_list, kr_list_tuple, kr_list_dict, kr_tuple_bool, kr_tuple_int, kr_tuple_str, kr_tuple_list, kr_tuple_tuple, kr_tuple_dict, kr_dict_bool, kr_dict_int, kr_dict_str, kr_dict_list, kr_dict_tuple, kr_dict_dict, dVar, dC_n, dC_b, dC_i, dC_s, dC_t, dC_r, dOp, dUn, dNil, dCons, dStar, dStarT, dTup, dLst, dLstO, dAnd, dOr, dNot, dIf, dTest, dYes, dChain, dCall, dNext, dCut, dSeq, dDrop, dRet, dRetN, dIfS, dName, sgnil_e, sgcons_e, dGtup, dAsg, dAug, dWhile, dFor, dLc, dLcO, dLc2, dDc, dI0, dIC, dEq, dIsN, isNonW, noPy, dAddS, dMulS, dCat, dCatT, dInT, dInLI, dInTI, dInS, dIxL, dIxT, dIxS, dNeg, dNoPart, dPart, dSl, dSlL, dSlT, dSlS, dRev, dDGet, dDIn, dDNew, dDNewS, dsDPut, dgSub, dSetL, isLW, dLM, dLM0, dAppend, dPopAt, dExtend, dPop, dLen, dTupL, dLstL, dAbs, dIntB, dMin2, dMax2, dMaxL, dCKw, dMaxT, dFn, dList, dTupI, dStrI, dR1, dR2, dEnum, dTAnd, dTOr, dTNot, varR_e, intW_e, blW_e, strW_e, shW_e, tyW_e, tupW_e, tupW_n, tup0W_e, lookL_e, lookD_e, lookR_e, lookR_l, seqW_e, seqW_p, dicW_e, dicW_p, ownL_p, ownD_p, keyW_i, keyW_s, one1W_e, two2W_e, shsW_nil, shsW_cons, shsW_app, shsW_map, intsD_nil, intsD_cons, intsD_map, strsD_map, cWR_n, cWR_b, cWR_i, cWR_s, flW_n, flW_b, flW_i, flW_s, fls_nil, fls_n, fls_b, fls_i, fls_s, lenW_l, lenW_d, lenW_t, lenW_n, lenW_s, lenW_p, lenO'_l, lenO'_d, atR_0, atR_1, atR_2, atR_3, atR_4, lenOk_0, lenOk_1, lenOk_2, lenOk_3, lenOk_4, lenOk_5, look_hd, put_c, put_n, notins_nil, startG, scal, List.map, List.replicate, List.length_cons, List.length_nil, List.cons_append, List.nil_append, List.append_nil, List.getElem?_cons_zero, List.getElem?_cons_succ, List.set_cons_zero, List.set_cons_succ, wipeG, true_and, and_true, if_true, if_false, decide_eq_true_eq, reduceCtorEq, reduceIte, Bool.false_eq_true, decide_true, decide_false, Bool.true_and, Bool.false_and, Bool.and_true, Bool.and_false, Bool.not_true, Bool.not_false, V.int.injEq, V.str.injEq, V.bl.injEq, Nat.reduceAdd, Nat.reduceSub, Nat.reduceLT, Int.reduceEq, Int.reduceLT, Int.reduceLE, Int.reduceAdd, Int.reduceSub, Int.cast_ofNat_Int, dForK, dOff, dMany, dMixed, dDcO, dLstVals, dEqLI, dDictO, dSortP, dTupF, dTupDF, dTupRgF, dSlF, dTIx, dLstT, dLstTO, dRevI, dRemI, ntW_e, D.nt.injEq, dShapeP, P.dAreN, dTupT, dNotInLT, dIndexLT, dEqP, pdW_s, pdW_p, dSortI, dInsert0, dCatO, dLcK, $a,*])
  | `(tactic| push_cast [$a,*]) => `(tactic| ((repeat refine LaterD.mk ?_); push_cast only [$a,*]; repeat ((refine LaterD.mk ?_); (repeat refine LaterD.mk ?_); push_cast only [$a,*])))
theorem judP_n {d : D} {g : Nat} {s : List Int} : judP d [] g s = .tup [.str "heard", .int (g : Nat), tI s] := rfl
theorem judP_c {d : D} {x : List Int} {r : List (List Int)} {g : Nat} {s : List Int} : judP d (x :: r) g s = if (folP 20 d x).2 = [] then (if (folP 20 d x).1 > g then judP d r (folP 20 d x).1 x else judP d r g s) else .tup [.str "missed", tI x, tI (folP 20 d x).2] := rfl
theorem gs_map (many most : Nat) : (setsN many 0 most).map tD = (gsI many most).map tI := by
  unfold gsI
  rw [List.map_map]
  exact List.map_congr_left fun g _ => tD_tI g
theorem drop_at {α : Type} {l : List α} {i : Nat} {x : α} (q : l[i]? = some x) : l.drop i = x :: l.drop (i + 1) := by
  have hi : i < l.length := (List.getElem?_eq_some_iff.mp q).1
  rw [List.drop_eq_getElem_cons hi]
  rw [List.getElem?_eq_getElem hi] at q
  rw [Option.some.inj q]
section
variable {P : Program} {w : World} {K : PySem.W.Frag} {mg : Str → Option Value} {base : Heap} {A : Ad}
theorem sc_judged : FnScope ["plan", "many", "most", "greatest", "slowest", "group", "asks", "missed"] ["plan", "many", "most"] (defScope s_judged) := ⟨rfl, rfl, rfl, by decide +kernel, rfl, by decide +kernel, by decide +kernel⟩
theorem ok_judged (T : Txt K mg base A) : FnOk P w K mg base CX0 8 A.judged A.d_judged ["plan", "many", "most"] (spD K (amN A) (fun ws Q => ∃ (many most : Nat) (d : D), ws = [.sh d, .sh (.int (many : Nat)), .sh (.int (most : Nat))] ∧ (PlanOk many 20 d ∧ (1 ≤ many ∧ many ≤ 8) ∧ 1 ≤ most ∧ most ≤ many) ∧ Q (.sh (judP d (gsI many most) 0 [])) [])) := by
  refine T.F_judged.ok sc_judged (fun vs H Q E h => by
    obtain ⟨_, ws, Qd, _, _, _, hv, hsp, _⟩ := h
    obtain ⟨many, most, d, rfl, _⟩ := hsp
    exact hv.len.symm) (fun cdv A' outer s H vs Q E hr h => ?_)
  have hu := hu_of hr
  refine spD_run (td := ?td) h (qs_cons (ps_expr (q_call (ok_check_numbers T) (hr.mono (by decide)) rfl T.g_check_numbers T.k_check_numbers T.b_check_numbers pass0 (pa_cons (qv 1) (pa_cons (qv 2) pa_nil))))
    (qs_cons (ps_expr (q_call (ok_check_plan T) (hr.mono (by decide)) rfl T.g_check_plan T.k_check_plan T.b_check_plan pass0 (pa_cons (qv 0) (pa_cons (qv 1) pa_nil))))
    (qs_cons (ps_set (i := 3) sc_judged.nd rfl (Or.inl rfl) pe_int)
    (qs_cons (ps_set (i := 4) sc_judged.nd rfl (Or.inl rfl) (pe_tup pa_nil))
    (qs_cons (q_for PassesOwn.never rfl (qi_list (q_call (ok_sets_of T) (hr.mono (by decide)) rfl T.g_sets_of T.k_sets_of T.b_sets_of pass0 (pa_cons (qv 1) (pa_cons pe_int (pa_cons (qv 2) pa_nil))))) (pg_name (i := 5) sc_judged.nd rfl (Or.inl rfl)) (qs_cons (ps_asg (q_call (ok_followed T) (hr.mono (by decide)) rfl T.g_followed T.k_followed T.b_followed pass0 (pa_cons (qv 0) (pa_cons (qv 5) pa_nil))) (q_gtup (n := 2) rfl (q_gcons (pg_name (i := 6) sc_judged.nd rfl (Or.inl rfl)) (q_gcons (pg_name (i := 7) sc_judged.nd rfl (Or.inl rfl)) q_gnil))))
    (qs_cons (q_if (q_cmp o_gt (pe_callB c_len (by rfl) T.m_len (by decide +kernel) (pa_cons (qv 7) pa_nil)) pe_int (nomark _)) (pss_one (ps_ret (pe_tup (pa_cons pe_str (pa_cons (qv 5) (pa_cons (qv 7) pa_nil)))))) pss_nil)
    (pss_one (q_if (q_cmp o_gt (qv 6) (qv 3) (nomark _)) (qs_cons (ps_set (i := 3) sc_judged.nd rfl (Or.inl rfl) (qv 6))
    (pss_one (ps_set (i := 4) sc_judged.nd rfl (Or.inl rfl) (qv 5)))) pss_nil)))))
    (pss_one (ps_ret (pe_tup (pa_cons pe_str (pa_cons (qv 3) (pa_cons (qv 4) pa_nil))))))))))) ?hs ?hD
  case hs => (try simp only [cx_K, cx_prog, cx_w, blkK]); exact inferInstance
  rintro ws Qd ⟨many, most, d, rfl, ⟨hp, ⟨m1, m8⟩, s1, s8⟩, kk⟩
  push_cast []
  refine ⟨many, rfl, most, rfl, by omega, by omega, by omega, by omega, ?_⟩
  push_cast []
  refine ⟨many, rfl, hp, m8, ?_⟩
  push_cast []
  refine ⟨many, rfl, 0, rfl, most, rfl, m8, by omega, ?_⟩
  rw [gs_map]
  have gok : ∀ x ∈ gsI many most, x.length ≤ 8 := fun x hx => by
    have := (gs_ok hx).2.2
    omega
  generalize gsI many most = gs at *
  refine ⟨fun i Γ Ω => ∃ (gr : Nat) (sl : List Int) (v5 v6 v7 : Option W), Γ = [some (.sh d), some (.sh (.int (many : Nat))), some (.sh (.int (most : Nat))), some (.sh (.int (gr : Nat))), some (.sh (tI sl)), v5, v6, v7] ∧ Ω = [] ∧ judP d gs 0 [] = judP d (gs.drop i) gr sl, ⟨0, [], none, none, none, rfl, rfl, rfl⟩, ?_, ?_⟩
  · rintro i w Γ Ω hw ⟨gr, sl, v5, v6, v7, rfl, rfl, hgo⟩
    rw [List.map_map, List.getElem?_map] at hw
    cases q : gs[i]? with
    | none => rw [q] at hw; cases hw
    | some x =>
      rw [q] at hw
      obtain rfl : W.sh (tI x) = w := Option.some.inj hw
      rw [drop_at q, judP_c] at hgo
      have x8 := gok x (List.mem_of_getElem? q)
      push_cast []
      refine ⟨many, 20, x, rfl, hp, by decide, m8, x8, ?_⟩
      have hfl := folP_len 20 d x
      generalize folP 20 d x = fo at *
      obtain ⟨a, l⟩ := fo
      cases l with
      | nil =>
        rw [if_pos rfl] at hgo
        push_cast []
        refine ite2 (fun h => ?_) (fun h => ?_)
        · have h' : gr < a := by omega
          rw [if_pos h'] at hgo
          push_cast []
          exact ⟨a, rfl, x, rfl, hgo⟩
        · have h' : ¬ gr < a := by omega
          rw [if_neg h'] at hgo
          push_cast []
          exact ⟨gr, rfl, sl, rfl, hgo⟩
      | cons y l =>
        rw [if_neg (by simp)] at hgo
        rw [hgo] at kk
        push_cast []
        rw [if_pos (by omega)]
        push_cast []
        exact .sh kk
  · rintro Γ Ω ⟨gr, sl, v5, v6, v7, rfl, rfl, hgo⟩
    push_cast []
    have e2 : (List.map W.sh (List.map tI gs)).length = gs.length := by rw [List.length_map, List.length_map]
    rw [e2, List.drop_length, judP_n] at hgo
    rw [hgo] at kk
    exact .sh kk
end
end P
end OA

namespace OA
namespace P
open PySem L2
local macro_rules
  | `(tactic| push_cast only [$a,*]) => `(tactic| simp -implicitDefEqProofs only [Int.toNat_natCast, List.cons.injEq, W.sh.injEq, D.int.injEq, D.str.injEq, D.bl.injEq, D.tup.injEq, D.lst.injEq, W.pt.injEq, and_assoc, exists_eq_left', exists_eq_left, exists_and_left, true_implies, dIsi, tn_n, tn_b, tn_i, tn_s, tn_t, tn_nt, tn_l, kr_NoneType_bool, kr_NoneType_int, kr_NoneType_str, kr_NoneType_list, kr_NoneType_tuple, kr_NoneType_dict, kr_bool_bool, kr_bool_int, kr_bool_str, kr_bool_list, kr_bool_tuple, kr_bool_dict, kr_int_bool, kr_int_int, kr_int_str, kr_int_list, kr_int_tuple, kr_int_dict, kr_str_bool, kr_str_int, kr_str_str, kr_str_list, kr_str_tuple, kr_str_dict, kr_list_bool, kr_list_int, kr_list_str, kr_list_list, kr_list_tuple, kr_list_dict, kr_tuple_bool, kr_tuple_int, kr_tuple_str, kr_tuple_list, kr_tuple_tuple, kr_tuple_dict, kr_dict_bool, kr_dict_int, kr_dict_str, kr_dict_list, kr_dict_tuple, kr_dict_dict, dVar, dC_n, dC_b, dC_i, dC_s, dC_t, dC_r, dOp, dUn, dNil, dCons, dStar, dStarT, dTup, dLst, dLstO, dAnd, dOr, dNot, dIf, dTest, dYes, dChain, dCall, dNext, dCut, dSeq, dDrop, dRet, dRetN, dIfS, dName, sgnil_e, sgcons_e, dGtup, dAsg, dAug, dWhile, dFor, dLc, dLcO, dLc2, dDc, dI0, dIC, dEq, dIsN, isNonW, noPy, dAddS, dMulS, dCat, dCatT, dInT, dInLI, dInTI, dInS, dIxL, dIxT, dIxS, dNeg, dNoPart, dPart, dSl, dSlL, dSlT, dSlS, dRev, dDGet, dDIn, dDNew, dDNewS, dsDPut, dgSub, dSetL, isLW, dLM, dLM0, dAppend, dPopAt, dExtend, dPop, dLen, dTupL, dLstL, dAbs, dIntB, dMin2, dMax2, dMaxL, dCKw, dMaxT, dFn, dList, dTupI, dStrI, dR1, dR2, dEnum, dTAnd, dTOr, dTNot, varR_e, intW_e, blW_e, strW_e, shW_e, tyW_e, tupW_e, tupW_n, tup0W_e, lookL_e, lookD_e, lookR_e, lookR_l, seqW_e, seqW_p, dicW_e, dicW_p, ownL_p, ownD_p, keyW_i, keyW_s, one1W_e, two2W_e, shsW_nil, shsW_cons, shsW_app, shsW_map, intsD_nil, intsD_cons, intsD_map, strsD_map, cWR_n, cWR_b, cWR_i, cWR_s, flW_n, flW_b, flW_i, flW_s, fls_nil, fls_n, fls_b, fls_i, fls_s, lenW_l, lenW_d, lenW_t, lenW_n, lenW_s, lenW_p, lenO'_l, lenO'_d, atR_0, atR_1, atR_2, atR_3, atR_4, lenOk_0, lenOk_1, lenOk_2, lenOk_3, lenOk_4, lenOk_5, look_hd, put_c, put_n, notins_nil, startG, scal, List.map, List.replicate, List.length_cons, List.length_nil, List.cons_append, List.nil_append, List.append_nil, List.getElem?_cons_zero, List.getElem?_cons_succ, List.set_cons_zero, List.set_cons_succ, wipeG, true_and, and_true, if_true, if_false, decide_eq_true_eq, reduceCtorEq, reduceIte, Bool.false_eq_true, decide_true, decide_false, Bool.true_and, Bool.false_and, Bool.and_true, Bool.and_false, Bool.not_true, Bool.not_false, V.int.injEq, V.str.injEq, V.bl.injEq, Nat.reduceAdd, Nat.reduceSub, Nat.reduceLT, Int.reduceEq, Int.reduceLT, Int.reduceLE, Int.reduceAdd, Int.reduceSub, Int.cast_ofNat_Int, dForK, dOff, dMany, dMixed, dDcO, dLstVals, dEqLI, dDictO, dSortP, dTupF, dTupDF, dTupRgF, dSlF, dTIx, dLstT, dLstTO, dRevI, dRemI, ntW_e, D.nt.injEq, dShapeP, P.dAreN, dTupT, dNotInLT, dIndexLT, dEqP, pdW_s, pdW_p, dSortI, dInsert0, dCatO, dLcK, $a,*])
  | `(tactic| push_cast [$a,*]) => `(tactic| ((repeat refine LaterD.mk ?_); push_cast only [$a,*]; repeat ((refine LaterD.mk ?_); (repeat refine LaterD.mk ?_); push_cast only [$a,*])))
theorem folP_le : ∀ (n : Nat) (d : D) (l : List Int), (folP n d l).1 ≤ n := by
  intro n
  induction n with
  | zero => intro d l; exact Nat.le_refl _
  | succ n ih =>
    intro d l
    unfold folP
    split
    · cases ‹n + 1 = _ + 1›
      exact Nat.succ_le_succ (ih _ _)
    · exact Nat.zero_le _
theorem pl_tI (l : List Int) : plD (tI l) = true := by
  show plL (l.map .int) = true
  exact pl_all fun x hx => by
    obtain ⟨n, _, rfl⟩ := List.mem_map.mp hx
    rfl
theorem dp_tI (l : List Int) : (pdD (tI l)).depth ≤ 64 := by
  unfold pdD PyData.depth
  have := dp_all (xs := l.map D.int) (n := 0) fun x hx => by
    obtain ⟨n, _, rfl⟩ := List.mem_map.mp hx
    exact Nat.le_refl _
  omega
section
variable {P : Program} {w : World} {K : PySem.W.Frag} {mg : Str → Option Value} {base : Heap} {A : Ad}
theorem sc__law_followed : FnScope ["_law_plan_here", "_law_some", "_law_met", "_law_left", "_law_speak", "_law_number"] ["_law_plan_here", "_law_some"] (defScope s__law_followed) := ⟨rfl, rfl, rfl, by decide +kernel, rfl, by decide +kernel, by decide +kernel⟩
theorem ok__law_followed (T : Txt K mg base A) : FnOk P w K mg base CX0 2 A._law_followed A.d__law_followed ["_law_plan_here", "_law_some"] (spD K am0 (fun ws Q => ∃ (many n : Nat) (d : D) (l : List Int), ws = [.sh d, .sh (tI l)] ∧ (PlanOk many n d ∧ n ≤ 20 ∧ many ≤ 8 ∧ l.length ≤ 8 ∧ l.Nodup) ∧ ∀ ms : List D, ms.length = (folP n d l).1 → Q (.sh (.tup [.lst ms, tI (folP n d l).2])) [])) := by
  refine T.F__law_followed.ok sc__law_followed (fun vs H Q E h => by
    obtain ⟨_, ws, Qd, _, _, _, hv, hsp, _⟩ := h
    obtain ⟨many, n, d, l, rfl, _⟩ := hsp
    exact hv.len.symm) (fun cdv A' outer s H vs Q E hr h => ?_)
  have hu := hu_of hr
  refine spD_run (td := ?td) h (qs_cons (ps_set (i := 2) sc__law_followed.nd rfl (Or.inl rfl) (q_own (pe_lst pa_nil)))
    (qs_cons (ps_set (i := 3) sc__law_followed.nd rfl (Or.inr rfl) (q_own (pe_callTy c_lstT (by rfl) T.m_list (by decide +kernel) (pa_cons (qv 1) pa_nil))))
    (qs_cons (q_while PassesOwn.never (q_cmp op_ne (pe_ix ix_T (qv 0) pe_int (fun _ _ => rfl)) pe_str (nomark _)) (qs_cons (ps_expr (lm1 PySem.F.slot_list_append PySem.F.type_list_append m_append (qv 2) (pa_cons (pe_tup (pa_cons (qv 0) (pa_cons (pe_callTy c_tupL (by rfl) T.m_tuple (by decide +kernel) (pa_cons (qv 3) pa_nil)) pa_nil))) pa_nil)))
    (qs_cons (q_setLc (i := 4) (own := [("_law_number", 5)]) (g := gName 5) rfl sc__law_followed.nd rfl rfl (sw_true rfl rfl rfl (by decide +kernel)) (qi_tup (pe_ix ix_T (qv 0) pe_int (fun _ _ => rfl))) (blkOk_by (own := [("_law_number", 5)]) (N := ["_law_plan_here", "_law_some", "_law_met", "_law_left", "_law_speak", "_law_number"]) (sc := defScope s__law_followed) (by decide +kernel)) (fun _ _ _ _ _ => (pg_name (i := 5) sc__law_followed.nd rfl (Or.inl rfl))) (fun _ _ _ _ _ => pts_one (q_cmp o_inLI (qv 5) (qv 3) (by rfl))) (fun _ _ _ _ _ => (qv 5)))
    (pss_one (q_if (q_cmp op_eq (pe_callB c_len (by rfl) T.m_len (by decide +kernel) (pa_cons (qv 4) pa_nil)) pe_int (nomark _)) (qs_cons (ps_expr (lm1 PySem.F.slot_list_remove PySem.F.type_list_remove m_remove (qv 3) (pa_cons (pe_ix ix_L (qv 4) pe_int (fun _ _ => rfl)) pa_nil)))
    (pss_one (ps_set (i := 0) sc__law_followed.nd rfl (Or.inl rfl) (pe_ix ix_T (pe_ix ix_T (qv 0) pe_int (fun _ _ => rfl)) (q_tidx (pe_ix ix_T (qv 0) pe_int (fun _ _ => rfl)) (pe_ix ix_L (qv 4) pe_int (fun _ _ => rfl))) (fun _ _ => rfl))))) (pss_one (ps_set (i := 0) sc__law_followed.nd rfl (Or.inl rfl) (pe_ix ix_T (qv 0) (pe_ix ix_L (pe_lst (pa_cons pe_int (pa_cons pe_int pa_nil))) (pe_callTy c_intB (by rfl) T.m_int (by decide +kernel) (pa_cons (pe_cmpR (o_neLI hr.units) (qv 4) (pe_lst pa_nil) (nomark _)) pa_nil)) (fun _ _ => rfl)) (fun _ _ => rfl)))))))))
    (pss_one (ps_ret (pe_tup (pa_cons (qv 2) (pa_cons (pe_callTy c_tupL (by rfl) T.m_tuple (by decide +kernel) (pa_cons (qv 3) pa_nil)) pa_nil)))))))) ?hs ?hD
  case hs => (try simp only [cx_K, cx_prog, cx_w, blkK]); exact inferInstance
  rintro ws Qd ⟨many, n, d, l, rfl, ⟨hp, n20, m8, hl, nd⟩, kk⟩
  push_cast []
  intro p _
  push_cast []
  intro q hq
  rw [notin_cons] at hq
  have npq : q ≠ p := hq.1
  have lkp : ∀ o (Ω' : Om), look ((q, o) :: Ω') p = look Ω' p := fun o Ω' => look_tl (fun z => npq z.symm)
  have ptp : ∀ o o' (Ω' : Om), OA.put ((q, o) :: Ω') p o' = (q, o) :: OA.put Ω' p o' := fun o o' Ω' => put_t npq
  have ptq : ∀ o o' (Ω' : Om), OA.put ((p, o) :: Ω') q o' = (p, o) :: OA.put Ω' q o' := fun o o' Ω' => put_t (Ne.symm npq)
  push_cast []
  refine ⟨fun m Γ Ω => ∃ (g : D) (l' : List Int) (ms : List D) (v4 v5 : Option W), Γ = [some (.sh g), some (.sh (tI l)), some (.pt p), some (.pt q), v4, v5] ∧ Ω = [(q, .lst ((l'.map D.int).map .sh)), (p, .lst (ms.map .sh))] ∧ PlanOk many m g ∧ m ≤ 20 ∧ l'.length ≤ 8 ∧ l'.Nodup ∧ ms.length + (folP m g l').1 = (folP n d l).1 ∧ (folP m g l').2 = (folP n d l).2, n, ⟨d, l, [], none, none, rfl, rfl, hp, n20, hl, nd, by simp, rfl⟩, ?_⟩
  rintro m Γ Ω ⟨g, l', ms, v4, v5, rfl, rfl, hg, m20, hl', nd', h1, h2⟩
  rcases hg.cs with rfl | ⟨k, ns, q', hs, nz, rfl, rfl, hn, hl3, hq', hh, hz⟩
  · rw [folP_end] at h1 h2
    push_cast only []
    have lp : look ([(q, OD.lst (List.map W.sh (List.map D.int l'))), (p, OD.lst (List.map W.sh ms))] : Om) p = some (.lst (ms.map .sh)) := by rw [lkp, look_hd]
    have eΩ : subΩ p (.lst ms) [(q, OD.lst (List.map W.sh (List.map D.int l'))), (p, OD.lst (List.map W.sh ms))] = [(q, OD.lst (List.map W.sh (List.map D.int l')))] := by
      unfold subΩ
      rw [List.filter_cons_of_pos (by simpa using npq), List.filter_cons_of_neg (by simp), List.filter_nil, List.map_cons, List.map_nil]
      have es : ∀ ds : List D, List.map (subW p (.lst ms)) (List.map W.sh ds) = List.map W.sh ds := fun ds => by rw [List.map_map]; rfl
      show [(q, OD.lst (List.map (subW p (.lst ms)) (List.map W.sh (List.map D.int l'))))] = _
      rw [es]
    have fq : (q = p) = False := eq_false npq
    refine .mk (.frz p (.lst ms) (.lst lp) ?_)
    push_cast [OA.subG, subW, Option.map_some, fq, eΩ]
    rw [← h2] at kk
    exact .sh (kk ms (by omega))
  · have := hn.len
    push_cast only [w_ae]
    push_cast [lkp, ptp, ptq]
    have le20 := folP_le n d l
    refine ⟨by unfold lenLt; rw [sizeLine_eq, List.length_map]; omega, ?_⟩
    push_cast [lkp, ptp, ptq]
    rw [sh_ints]
    refine ⟨by simp, _, dLcP_filt (D0 := ns) (f := fun n => W.sh (.int n)) (G := fun n => W.sh (.int n)) (t := fun n => decide (n ∈ l')) (by omega) (fun n hn acc u Pn hn0 ll k1 => ?_), fun acc hacc => ?_⟩
    · rw [notin_cons] at hn0
      have lu : ∀ o (Ω' : Om), look ((u, o) :: Ω') q = look Ω' q := fun o Ω' => look_tl (Ne.symm hn0.1)
      push_cast [lu]
      exact if_ll ll k1
    · have : acc = ((speakP ns l').map D.int).map W.sh := by
        rw [hacc, List.length_map, List.take_length, List.map_map]
        rfl
      subst this
      have hsm : ∀ s ∈ speakP ns l', s ∈ ns ∧ s ∈ l' := fun s h => speakP_mem h
      have ep : placeP ns l' = match speakP ns l' with
        | [] => 0
        | [s] => ns.idxOf s + 1
        | _ => ns.length + 1 := rfl
      have er : restP ns l' = match speakP ns l' with
        | [s] => l'.filter fun n => decide (n ≠ s)
        | _ => l' := rfl
      obtain ⟨b1, b2⟩ := beh_at (l := l') hl3 hq' hh hz
      rw [folP_ask] at h1 h2
      have rl := restP_len (ns := ns) (l := l')
      have rn := restP_nd (ns := ns) nd'
      generalize (q' :: (hs ++ [nz])).getD (placeP ns l') .non = g' at *
      generalize placeP ns l' = pl at *
      generalize restP ns l' = rp at *
      generalize speakP ns l' = sp at *
      match sp, hsm, ep, er with
      | [], _, ep, er =>
        subst ep er
        have b1 : some q' = some g' := b1
        cases b1
        push_cast [lkp, ptp, ptq]
        exact ⟨k, by omega, q', rfl, rp, rfl, ms ++ [D.tup [askD ns q' hs nz, D.tup (rp.map .int)]], by rw [List.map_append]; rfl, b2, by omega, by omega, rn, by rw [List.length_append, List.length_singleton]; omega, h2⟩
      | [s], hsm, ep, er =>
        have ep : pl = ns.idxOf s + 1 := ep
        have er : rp = l'.filter fun n => decide (n ≠ s) := er
        subst ep er
        obtain ⟨m1, m2⟩ := hsm s (by simp)
        have ix := idx_lt m1
        rw [List.getElem?_cons_succ, List.getElem?_append_left (by omega)] at b1
        have ea : L2.atI hs ((ns.idxOf s : Nat) : Int) = some g' := atI_nat b1
        push_cast [lkp, ptp, ptq]
        rw [rem_filter nd' m2]
        refine ⟨m2, ?_⟩
        push_cast [lkp, ptp, ptq]
        refine ⟨m1, ?_⟩
        rw [atR_some ea]
        push_cast []
        exact ⟨k, by omega, g', rfl, _, rfl, ms ++ [D.tup [askD ns q' hs nz, D.tup (l'.map .int)]], by rw [List.map_append]; rfl, b2, by omega, Nat.le_trans rl hl', rn, by rw [List.length_append, List.length_singleton]; omega, h2⟩
      | s :: s2 :: r, _, ep, er =>
        subst ep er
        have b1 : (hs ++ [nz])[ns.length]? = some g' := b1
        rw [← hl3, List.getElem?_append_right (Nat.le_refl _), Nat.sub_self] at b1
        cases b1
        push_cast [lkp, ptp, ptq]
        exact ⟨k, by omega, nz, rfl, rp, rfl, ms ++ [D.tup [askD ns q' hs nz, D.tup (rp.map .int)]], by rw [List.map_append]; rfl, b2, by omega, by omega, rn, by rw [List.length_append, List.length_singleton]; omega, h2⟩
end
end P
end OA

namespace OA
namespace P
open PySem L2
local macro_rules
  | `(tactic| push_cast only [$a,*]) => `(tactic| simp -implicitDefEqProofs only [Int.toNat_natCast, List.cons.injEq, W.sh.injEq, D.int.injEq, D.str.injEq, D.bl.injEq, D.tup.injEq, D.lst.injEq, W.pt.injEq, and_assoc, exists_eq_left', exists_eq_left, exists_and_left, true_implies, dIsi, tn_n, tn_b, tn_i, tn_s, tn_t, tn_nt, tn_l, kr_NoneType_bool, kr_NoneType_int, kr_NoneType_str, kr_NoneType_list, kr_NoneType_tuple, kr_NoneType_dict, kr_bool_bool, kr_bool_int, kr_bool_str, kr_bool_list, kr_bool_tuple, kr_bool_dict, kr_int_bool, kr_int_int, kr_int_str, kr_int_list, kr_int_tuple, kr_int_dict, kr_str_bool, kr_str_int, kr_str_str, kr_str_list, kr_str_tuple, kr_str_dict, kr_list_bool, kr_list_int, kr_list_str, kr_list_list, kr_list_tuple, kr_list_dict, kr_tuple_bool, kr_tuple_int, kr_tuple_str, kr_tuple_list, kr_tuple_tuple, kr_tuple_dict, kr_dict_bool, kr_dict_int, kr_dict_str, kr_dict_list, kr_dict_tuple, kr_dict_dict, dVar, dC_n, dC_b, dC_i, dC_s, dC_t, dC_r, dOp, dUn, dNil, dCons, dStar, dStarT, dTup, dLst, dLstO, dAnd, dOr, dNot, dIf, dTest, dYes, dChain, dCall, dNext, dCut, dSeq, dDrop, dRet, dRetN, dIfS, dName, sgnil_e, sgcons_e, dGtup, dAsg, dAug, dWhile, dFor, dLc, dLcO, dLc2, dDc, dI0, dIC, dEq, dIsN, isNonW, noPy, dAddS, dMulS, dCat, dCatT, dInT, dInLI, dInTI, dInS, dIxL, dIxT, dIxS, dNeg, dNoPart, dPart, dSl, dSlL, dSlT, dSlS, dRev, dDGet, dDIn, dDNew, dDNewS, dsDPut, dgSub, dSetL, isLW, dLM, dLM0, dAppend, dPopAt, dExtend, dPop, dLen, dTupL, dLstL, dAbs, dIntB, dMin2, dMax2, dMaxL, dCKw, dMaxT, dFn, dList, dTupI, dStrI, dR1, dR2, dEnum, dTAnd, dTOr, dTNot, varR_e, intW_e, blW_e, strW_e, shW_e, tyW_e, tupW_e, tupW_n, tup0W_e, lookL_e, lookD_e, lookR_e, lookR_l, seqW_e, seqW_p, dicW_e, dicW_p, ownL_p, ownD_p, keyW_i, keyW_s, one1W_e, two2W_e, shsW_nil, shsW_cons, shsW_app, shsW_map, intsD_nil, intsD_cons, intsD_map, strsD_map, cWR_n, cWR_b, cWR_i, cWR_s, flW_n, flW_b, flW_i, flW_s, fls_nil, fls_n, fls_b, fls_i, fls_s, lenW_l, lenW_d, lenW_t, lenW_n, lenW_s, lenW_p, lenO'_l, lenO'_d, atR_0, atR_1, atR_2, atR_3, atR_4, lenOk_0, lenOk_1, lenOk_2, lenOk_3, lenOk_4, lenOk_5, look_hd, put_c, put_n, notins_nil, startG, scal, List.map, List.replicate, List.length_cons, List.length_nil, List.cons_append, List.nil_append, List.append_nil, List.getElem?_cons_zero, List.getElem?_cons_succ, List.set_cons_zero, List.set_cons_succ, wipeG, true_and, and_true, if_true, if_false, decide_eq_true_eq, reduceCtorEq, reduceIte, Bool.false_eq_true, decide_true, decide_false, Bool.true_and, Bool.false_and, Bool.and_true, Bool.and_false, Bool.not_true, Bool.not_false, V.int.injEq, V.str.injEq, V.bl.injEq, Nat.reduceAdd, Nat.reduceSub, Nat.reduceLT, Int.reduceEq, Int.reduceLT, Int.reduceLE, Int.reduceAdd, Int.reduceSub, Int.cast_ofNat_Int, dForK, dOff, dMany, dMixed, dDcO, dLstVals, dEqLI, dDictO, dSortP, dLstK, dNeD0, dRep, dLstRg, dTupF, dTupDF, dTupRgF, dSlF, dTIx, dLstT, dLstTO, dRevI, dRemI, ntW_e, D.nt.injEq, dShapeP, dTupT, dNotInLT, dIndexLT, dEqP, pdW_s, pdW_p, dSortI, dInsert0, dCatO, dLcK, $a,*])
  | `(tactic| push_cast [$a,*]) => `(tactic| ((repeat refine LaterD.mk ?_); push_cast only [$a,*]; repeat ((refine LaterD.mk ?_); (repeat refine LaterD.mk ?_); push_cast only [$a,*])))
/-! plans one by one; groups -/
def pot : List (List Int) → Nat
  | [] => 0
  | g :: r => (2 * g.length - 1) + pot r
theorem pot_len {many : Nat} : ∀ gs : List (List Int), (∀ g ∈ gs, NumsOk many g) → gs.length ≤ pot gs
  | [], _ => Nat.le_refl _
  | g :: r, h => by
    have ih := pot_len r fun x hx => h x (List.mem_cons_of_mem _ hx)
    have := List.length_pos_iff.mpr (h g List.mem_cons_self).ne
    show r.length + 1 ≤ (2 * g.length - 1) + pot r
    omega
section
variable {P : Program} {w : World} {K : PySem.W.Frag} {mg : Str → Option Value} {base : Heap} {A : Ad}
theorem sc__law_each : FnScope ["_law_d", "_law_numbers", "_law_plan_here", "_law_number", "_law_pair"] ["_law_d", "_law_numbers"] (defScope s__law_each) := ⟨rfl, rfl, rfl, by decide +kernel, rfl, by decide +kernel, by decide +kernel⟩
theorem ok__law_each (T : Txt K mg base A) : FnOk P w K mg base CX0 2 A._law_each A.d__law_each ["_law_d", "_law_numbers"] (spDr K (fun d ws Q => ∃ (many : Nat) (ns : List Int), ws = [.pt d, .sh (.lst (ns.map .int))] ∧ (many ≤ 8 ∧ (∀ n ∈ ns, 0 ≤ n ∧ n < (many : Int)) ∧ ns.length ≤ 8) ∧ ∀ p, PlanOk many (2 * ns.length) p → Q (.sh p) [])) := by
  refine T.F__law_each.ok sc__law_each (fun vs H Q E h => by
    obtain ⟨_, _, ws, Qd, _, _, _, hv, hsp, _⟩ := h
    obtain ⟨many, ns, rfl, _⟩ := hsp
    exact hv.len.symm) (fun cdv A' outer s H vs Q E hr h => ?_)
  have hu := hu_of hr
  obtain ⟨d, h⟩ := h
  refine spD_run (td := ?td) h (qs_cons (ps_set (i := 2) sc__law_each.nd rfl (Or.inl rfl) (pe_tup (pa_cons pe_str pa_nil)))
    (qs_cons (q_for PassesOwn.never rfl (qi_rev rfl T.m_reversed (qv 1)) (pg_name (i := 3) sc__law_each.nd rfl (Or.inl rfl)) (qs_cons (ps_set (i := 2) sc__law_each.nd rfl (Or.inl rfl) (pe_tup (pa_cons pe_str (pa_cons (pe_tupF (pa_cons (qv 3) pa_nil)) (pa_cons (qv 2) (pa_cons (pe_tup (pa_cons (qv 2) pa_nil)) (pa_cons (pe_tup (pa_cons pe_str pa_nil)) pa_nil)))))))
    (pss_one (q_if (q_cmp op_eq (q_call (ok__law_off T) (hr.mono (by decide)) rfl T.g__law_off T.k__law_off T.b__law_off pass0 (pa_cons (qv 0) (pa_cons pe_int pa_nil))) pe_int (nomark _)) (qs_cons (ps_set (i := 4) sc__law_each.nd rfl (Or.inl rfl) (pe_callB cr_sortedI (by rfl) T.m_sorted (by decide +kernel) (pa_cons (pe_lst (pa_cons (qv 3) (pa_cons (pe_ix ix_L (qv 1) (q_call (ok__law_off T) (hr.mono (by decide)) rfl T.g__law_off T.k__law_off T.b__law_off pass0 (pa_cons (qv 0) (pa_cons (pe_callB c_len (by rfl) T.m_len (by decide +kernel) (pa_cons (qv 1) pa_nil)) pa_nil))) (fun _ _ => rfl)) pa_nil))) pa_nil)))
    (pss_one (q_if (q_cmp o_lt (pe_ix ix_L (qv 4) pe_int (fun _ _ => rfl)) (pe_ix ix_L (qv 4) pe_int (fun _ _ => rfl)) (nomark _)) (pss_one (ps_set (i := 2) sc__law_each.nd rfl (Or.inl rfl) (pe_tup (pa_cons pe_str (pa_cons (pe_callTy c_tupF (by rfl) T.m_tuple (by decide +kernel) (pa_cons (qv 4) pa_nil)) (pa_cons (qv 2) (pa_cons (pe_tup (pa_cons (qv 2) (pa_cons (qv 2) pa_nil))) (pa_cons (qv 2) pa_nil)))))))) (pss_one (ps_set (i := 2) sc__law_each.nd rfl (Or.inl rfl) (pe_tup (pa_cons pe_str (pa_cons (pe_tupF (pa_cons (qv 3) pa_nil)) (pa_cons (qv 2) (pa_cons (pe_tup (pa_cons (qv 2) pa_nil)) (pa_cons (qv 2) pa_nil))))))))))) pss_nil))))
    (pss_one (ps_ret (qv 2))))) ?hs ?hD
  case hs => (try simp only [cx_K, cx_prog, cx_w, blkK]); exact inferInstance
  rintro ws Qd ⟨many, ns, rfl, ⟨m8, bd, l8⟩, kk⟩
  push_cast []
  refine ⟨fun i Γ Ω => ∃ (g : D) (v3 v4 : Option W), Γ = [some (.pt d), some (.sh (.lst (ns.map D.int))), some (.sh g), v3, v4] ∧ Ω = [] ∧ PlanOk many (2 * i) g, ⟨endD, none, none, rfl, rfl, PlanOk.fin many 0⟩, ?_, ?_⟩
  · rintro i w Γ Ω hw ⟨g, v3, v4, rfl, rfl, hg⟩
    obtain ⟨x, hx, rfl⟩ : ∃ x ∈ ns, w = W.sh (.int x) := by
      obtain ⟨y, hy, rfl⟩ := List.mem_map.mp (List.mem_of_getElem? hw)
      obtain ⟨x, hx, rfl⟩ := List.mem_map.mp (List.mem_reverse.mp hy)
      exact ⟨x, hx, rfl⟩
    have hb := bd x hx
    have h1 : PlanOk many (2 * i + 1) (askD [x] g [g] endD) := .ask (.one hb) rfl hg (fun h hh => by rw [List.mem_singleton.mp hh]; exact hg) (.fin many _)
    have n1 : 0 < ns.length := List.length_pos_of_mem hx
    push_cast []
    intro y hy
    refine ite2 (fun _ => ?_) (fun _ => ?_)
    · push_cast []
      have nl : (List.map D.int ns).length = ns.length := List.length_map _
      refine ⟨by omega, by omega, fun k hk => ?_⟩
      have hk : k < ns.length := by omega
      have ea : L2.atI (List.map W.sh (List.map D.int ns)) ((k : Nat) : Int) = some (.sh (.int ns[k])) := atI_nat (by rw [List.getElem?_map, List.getElem?_map, List.getElem?_eq_getElem hk]; rfl)
      rw [atR_some ea]
      push_cast []
      intro ms pm pw
      obtain ⟨a, b, rfl⟩ : ∃ a b, ms = [a, b] := by
        have := pm.length_eq
        match ms, this with
        | [a, b], _ => exact ⟨a, b, rfl⟩
      have bb : ∀ z ∈ [a, b], 0 ≤ z ∧ z < (many : Int) := fun z hz => by
        have := pm.mem_iff.mp hz
        rcases List.mem_cons.mp this with e | e
        · rw [e]; exact hb
        · rw [List.mem_singleton.mp e]; exact bd _ (List.getElem_mem hk)
      push_cast []
      refine ite2 (fun h => ?_) (fun h => ?_)
      · push_cast []
        refine ⟨_, rfl, show PlanOk many (2 * i + 1 + 1) _ from PlanOk.ask ⟨by simp, List.pairwise_cons.mpr ⟨fun z hz => ?_, List.pairwise_singleton _ _⟩, bb⟩ rfl h1 (fun z hz => ?_) h1⟩
        · rw [List.mem_singleton.mp hz]
          exact h
        · rcases List.mem_cons.mp hz with e | e
          · rw [e]; exact h1
          · rw [List.mem_singleton.mp e]; exact h1
      · push_cast []
        exact ⟨_, rfl, show PlanOk many (2 * i + 1 + 1) _ from PlanOk.ask (.one hb) rfl h1 (fun z hz => by rw [List.mem_singleton.mp hz]; exact h1) h1⟩
    · push_cast []
      exact ⟨_, rfl, show PlanOk many (2 * i + 1 + 1) _ from h1.up⟩
  · rintro Γ Ω ⟨g, v3, v4, rfl, rfl, hg⟩
    push_cast []
    rw [List.length_map, List.length_reverse, List.length_map] at hg
    exact .sh (kk _ hg)
def spGrD (N : Nat) : DSp := fun ws Q => ∃ (many : Nat) (gs : List (List Int)), ws = [.sh (.lst (gs.map .nt))] ∧ (many ≤ 8 ∧ (∀ g ∈ gs, NumsOk many g) ∧ pot gs ≤ N ∧ N ≤ 20) ∧ ∀ p, PlanOk many N p → Q (.sh p) []
theorem sc__law_groups : FnScope ["_law_groups_here", "_law_group", "_law_behind", "_law_cut", "_law_noise", "_law_number"] ["_law_groups_here"] (defScope s__law_groups) := ⟨rfl, rfl, rfl, by decide +kernel, rfl, by decide +kernel, by decide +kernel⟩
theorem ok__law_groups (T : Txt K mg base A)(N : Nat) (G : FnOk P w K mg base CX0 (N + 1) A._law_groups A.d__law_groups ["_law_groups_here"] (spD K am0 (spGrD N))) : FnOk P w K mg base CX0 (N + 2) A._law_groups A.d__law_groups ["_law_groups_here"] (spD K am0 (spGrD (N + 1))) := by
  refine T.F__law_groups.ok sc__law_groups (fun vs H Q E h => by
    obtain ⟨_, ws, Qd, _, _, _, hv, hsp, _⟩ := h
    obtain ⟨many, gs, rfl, _⟩ := hsp
    exact hv.len.symm) (fun cdv A' outer s H vs Q E hr h => ?_)
  have hu := hu_of hr
  refine spD_run (td := ?td) h (qs_cons (q_if (q_cmp (op_eqD (X := _) hr.units) (qv 0) (pe_lst pa_nil) (nomark _)) (pss_one (ps_ret (pe_tup (pa_cons pe_str pa_nil)))) pss_nil)
    (qs_cons (ps_set (i := 1) sc__law_groups.nd rfl (Or.inl rfl) (pe_ix ix_L (qv 0) pe_int (fun _ _ => rfl)))
    (qs_cons (ps_set (i := 2) sc__law_groups.nd rfl (Or.inr rfl) (q_call G (hr.mono (by omega)) rfl T.g__law_groups T.k__law_groups T.b__law_groups pass0 (pa_cons (pe_slice sl_L (qv 0) (q_some pe_int) po_none) pa_nil)))
    (qs_cons (ps_set (i := 3) sc__law_groups.nd rfl (Or.inl rfl) (pe_op o_sub (pe_callB c_len (by rfl) T.m_len (by decide +kernel) (pa_cons (qv 1) pa_nil)) (pe_op o_fdiv (pe_callB c_len (by rfl) T.m_len (by decide +kernel) (pa_cons (qv 1) pa_nil)) pe_int)))
    (qs_cons (ps_set (i := 4) sc__law_groups.nd rfl (Or.inl rfl) (pe_tup (pa_cons pe_str pa_nil)))
    (qs_cons (q_cut (q_if (q_cmp o_gt (pe_callB c_len (by rfl) T.m_len (by decide +kernel) (pa_cons (qv 1) pa_nil)) pe_int (nomark _)) (pss_one (ps_set (i := 4) sc__law_groups.nd rfl (Or.inl rfl) (q_call G (hr.mono (by omega)) rfl T.g__law_groups T.k__law_groups T.b__law_groups pass0 (pa_cons (pe_op o_cat (pe_lst (pa_cons (pe_slice sl_F (qv 1) po_none (q_some (qv 3))) (pa_cons (pe_slice sl_F (qv 1) (q_some (qv 3)) po_none) pa_nil))) (pe_slice sl_L (qv 0) (q_some pe_int) po_none)) pa_nil)))) pss_nil))
    (pss_one (ps_ret (pe_tup (pa_cons pe_str (pa_cons (qv 1) (pa_cons (qv 2) (pa_cons (pe_callTy c_tupL (by rfl) T.m_tuple (by decide +kernel) (pa_cons (q_lc (own := [("_law_number", 5)]) (g := gName 5) (tt := tYes) rfl sc__law_groups.nd (qi_tup (qv 1)) (blkOk_by (own := [("_law_number", 5)]) (N := ["_law_groups_here", "_law_group", "_law_behind", "_law_cut", "_law_noise", "_law_number"]) (sc := defScope s__law_groups) (by decide +kernel)) (fun _ _ _ _ _ => (pg_name (i := 5) sc__law_groups.nd rfl (Or.inl rfl))) (fun _ _ _ _ _ => pts_nil) (fun _ _ _ _ _ => (qv 2))) pa_nil)) (pa_cons (qv 4) pa_nil)))))))))))))) ?hs ?hD
  case hs => (try simp only [cx_K, cx_prog, cx_w, blkK]); exact inferInstance
  rintro ws Qd ⟨many, gs, rfl, ⟨m8, hg, hp, h20⟩, kk⟩
  have pg : ∀ g : List Int, plD (.nt g) = true ∧ (pdD (.nt g)).depth ≤ 1 := fun g => by
    refine ⟨rfl, ?_⟩
    unfold pdD PyData.depth
    have : PyData.depthAll (g.map PyData.int) = 0 := by
      induction g with
      | nil => rfl
      | cons n g ih =>
        rw [List.map_cons]
        unfold PyData.depthAll
        rw [ih]
        rfl
    omega
  have pl0 : plD (.lst (gs.map .nt)) = true := pl_all fun x hx => by
    obtain ⟨g, _, rfl⟩ := List.mem_map.mp hx
    rfl
  have dp0 : (pdD (.lst (gs.map .nt))).depth ≤ 64 := by
    unfold pdD PyData.depth
    have := dp_all (xs := gs.map D.nt) (n := 1) fun x hx => by
      obtain ⟨g, _, rfl⟩ := List.mem_map.mp hx
      exact (pg g).2
    omega
  push_cast [spGrD]
  refine ⟨pl0, dp0, rfl, by decide, ?_⟩
  cases gs with
  | nil =>
    rw [if_pos (show (pdD (D.lst (List.map D.nt []))).eqv (pdD (D.lst [])) = true by decide)]
    push_cast []
    exact .sh (kk _ (PlanOk.fin many _))
  | cons g r =>
    rw [if_neg (show ¬ (pdD (D.lst (List.map D.nt (g :: r)))).eqv (pdD (D.lst [])) = true from fun z => by cases z)]
    have hg0 := hg g List.mem_cons_self
    have hr0 : ∀ x ∈ r, NumsOk many x := fun x hx => hg x (List.mem_cons_of_mem _ hx)
    have gl := List.length_pos_iff.mpr hg0.ne
    have hp' : (2 * g.length - 1) + pot r ≤ N + 1 := hp
    push_cast [spGrD]
    have cr : cutA (D.nt g :: List.map D.nt r) (some 1) none = List.map D.nt r := cut_from (D.nt g :: List.map D.nt r) 1
    refine ⟨many, r, cr, m8, hr0, by omega, by omega, fun p hp1 => ?_⟩
    push_cast []
    have ec : (g.length : Int) - (g.length : Int) / 2 = ((g.length - g.length / 2 : Nat) : Int) := by omega
    rw [ec]
    generalize hc : g.length - g.length / 2 = cu
    refine ⟨⟨by omega, by omega⟩, ?_⟩
    push_cast []
    refine ⟨fun Γ Ω => ∃ (z : D) (v5 : Option W), Γ = [some (.sh (.lst (D.nt g :: List.map D.nt r))), some (.sh (.nt g)), some (.sh p), some (.sh (.int (cu : Nat))), some (.sh z), v5] ∧ Ω = [] ∧ PlanOk many N z, ?_, ?_⟩
    · rintro Γ Ω ⟨z, v5, rfl, rfl, hz⟩
      have := hg0.len
      have ei : List.map W.sh (List.map D.int g) = g.map fun n => W.sh (.int n) := by rw [List.map_map]; rfl
      push_cast []
      rw [ei]
      refine ⟨by simp, _, dLcP_map (D0 := g) (f := fun n => W.sh (.int n)) (G := fun _ => W.sh p) (by omega) (fun x hx acc q Pn hn0 ll k1 => ?_), fun acc hacc => ?_⟩
      · push_cast []
        exact ⟨ll, k1⟩
      · have : acc = (g.map fun _ => p).map W.sh := by
          rw [hacc, List.length_map, List.take_length, List.map_map]
          rfl
        subst this
        push_cast []
        exact .sh (kk _ (PlanOk.ask hg0 (List.length_map _) hp1 (fun y hy => by
          obtain ⟨_, _, rfl⟩ := List.mem_map.mp hy
          exact hp1) hz))
    · push_cast []
      refine ite2 (fun h => ?_) (fun h => ?_)
      · push_cast [cut_to, cut_from, cr, spGrD]
        have l2 : 1 < g.length := by omega
        have pr := pot_len r hr0
        refine ⟨lenOk_of (by simp; omega), many, g.take cu :: g.drop cu :: r, rfl, m8, fun x hx => ?_, ?_, by omega, fun p hp => ⟨p, rfl, hp⟩⟩
        · rcases List.mem_cons.mp hx with e | hx
          · rw [e]; exact hg0.take (by omega)
          · rcases List.mem_cons.mp hx with e | hx
            · rw [e]; exact hg0.drop (by omega)
            · exact hr0 x hx
        · show (2 * (g.take cu).length - 1) + ((2 * (g.drop cu).length - 1) + pot r) ≤ N
          rw [List.length_take, List.length_drop]
          omega
      · push_cast []
        exact ⟨_, rfl, PlanOk.fin many N⟩
theorem groups_0 (T : Txt K mg base A) : FnOk P w K mg base CX0 1 A._law_groups A.d__law_groups ["_law_groups_here"] (spD K am0 (spGrD 0)) := by
  refine T.F__law_groups.ok sc__law_groups (fun vs H Q E h => by
    obtain ⟨_, ws, Qd, _, _, _, hv, hsp, _⟩ := h
    obtain ⟨many, gs, rfl, _⟩ := hsp
    exact hv.len.symm) (fun cdv A' outer s H vs Q E hr h => ?_)
  have hu := hu_of hr
  refine spD_run (td := ?td) h (qs_cons (q_if (q_cmp (op_eqD (X := _) hr.units) (qv 0) (pe_lst pa_nil) (nomark _)) (pss_one (ps_ret (pe_tup (pa_cons pe_str pa_nil)))) pss_nil)
    (qs_cons (ps_set (i := 1) sc__law_groups.nd rfl (Or.inl rfl) (pe_ix ix_L (qv 0) pe_int (fun _ _ => rfl)))
    (qs_cons ps_never
    (qs_cons (ps_set (i := 3) sc__law_groups.nd rfl (Or.inl rfl) (pe_op o_sub (pe_callB c_len (by rfl) T.m_len (by decide +kernel) (pa_cons (qv 1) pa_nil)) (pe_op o_fdiv (pe_callB c_len (by rfl) T.m_len (by decide +kernel) (pa_cons (qv 1) pa_nil)) pe_int)))
    (qs_cons (ps_set (i := 4) sc__law_groups.nd rfl (Or.inl rfl) (pe_tup (pa_cons pe_str pa_nil)))
    (qs_cons ps_never
    (pss_one (ps_ret (pe_tup (pa_cons pe_str (pa_cons (qv 1) (pa_cons (qv 2) (pa_cons (pe_callTy c_tupL (by rfl) T.m_tuple (by decide +kernel) (pa_cons (q_lc (own := [("_law_number", 5)]) (g := gName 5) (tt := tYes) rfl sc__law_groups.nd (qi_tup (qv 1)) (blkOk_by (own := [("_law_number", 5)]) (N := ["_law_groups_here", "_law_group", "_law_behind", "_law_cut", "_law_noise", "_law_number"]) (sc := defScope s__law_groups) (by decide +kernel)) (fun _ _ _ _ _ => (pg_name (i := 5) sc__law_groups.nd rfl (Or.inl rfl))) (fun _ _ _ _ _ => pts_nil) (fun _ _ _ _ _ => (qv 2))) pa_nil)) (pa_cons (qv 4) pa_nil)))))))))))))) ?hs ?hD
  case hs => (try simp only [cx_K, cx_prog, cx_w, blkK]); exact inferInstance
  rintro ws Qd ⟨many, gs, rfl, ⟨m8, hg, hp, h20⟩, kk⟩
  have := pot_len gs hg
  obtain rfl : gs = [] := List.eq_nil_of_length_eq_zero (by omega)
  push_cast [spGrD]
  refine ⟨rfl, by decide, rfl, by decide, ?_⟩
  rw [if_pos (show (pdD (D.lst [])).eqv (pdD (D.lst [])) = true by decide)]
  push_cast []
  exact .sh (kk _ (PlanOk.fin many _))
theorem ok_groups (T : Txt K mg base A) : ∀ N, FnOk P w K mg base CX0 (N + 1) A._law_groups A.d__law_groups ["_law_groups_here"] (spD K am0 (spGrD N))
  | 0 => groups_0 T
  | N + 1 => ok__law_groups T N (ok_groups T N)
end
end P
end OA

namespace OA
namespace P
open PySem L2
local macro_rules
  | `(tactic| push_cast only [$a,*]) => `(tactic| simp -implicitDefEqProofs only [Int.toNat_natCast, List.cons.injEq, W.sh.injEq, D.int.injEq, D.str.injEq, D.bl.injEq, D.tup.injEq, D.lst.injEq, W.pt.injEq, and_assoc, exists_eq_left', exists_eq_left, exists_and_left, true_implies, dIsi, tn_n, tn_b, tn_i, tn_s, tn_t, tn_nt, tn_l, kr_NoneType_bool, kr_NoneType_int, kr_NoneType_str, kr_NoneType_list, kr_NoneType_tuple, kr_NoneType_dict, kr_bool_bool, kr_bool_int, kr_bool_str, kr_bool_list, kr_bool_tuple, kr_bool_dict, kr_int_bool, kr_int_int, kr_int_str, kr_int_list, kr_int_tuple, kr_int_dict, kr_str_bool, kr_str_int, kr_str_str, kr_str_list, kr_str_tuple, kr_str_dict, kr_list_bool, kr_list_int, kr_list_str, kr_list_list, kr_list_tuple, kr_list_dict, kr_tuple_bool, kr_tuple_int, kr_tuple_str, kr_tuple_list, kr_tuple_tuple, kr_tuple_dict, kr_dict_bool, kr_dict_int, kr_dict_str, kr_dict_list, kr_dict_tuple, kr_dict_dict, dVar, dC_n, dC_b, dC_i, dC_s, dC_t, dC_r, dOp, dUn, dNil, dCons, dStar, dStarT, dTup, dLst, dLstO, dAnd, dOr, dNot, dIf, dTest, dYes, dChain, dCall, dNext, dCut, dSeq, dDrop, dRet, dRetN, dIfS, dName, sgnil_e, sgcons_e, dGtup, dAsg, dAug, dWhile, dFor, dLc, dLcO, dLc2, dDc, dI0, dIC, dEq, dIsN, isNonW, noPy, dAddS, dMulS, dCat, dCatT, dInT, dInLI, dInTI, dInS, dIxL, dIxT, dIxS, dNeg, dNoPart, dPart, dSl, dSlL, dSlT, dSlS, dRev, dDGet, dDIn, dDNew, dDNewS, dsDPut, dgSub, dSetL, isLW, dLM, dLM0, dAppend, dPopAt, dExtend, dPop, dLen, dTupL, dLstL, dAbs, dIntB, dMin2, dMax2, dMaxL, dCKw, dMaxT, dFn, dList, dTupI, dStrI, dR1, dR2, dEnum, dTAnd, dTOr, dTNot, varR_e, intW_e, blW_e, strW_e, shW_e, tyW_e, tupW_e, tupW_n, tup0W_e, lookL_e, lookD_e, lookR_e, lookR_l, seqW_e, seqW_p, dicW_e, dicW_p, ownL_p, ownD_p, keyW_i, keyW_s, one1W_e, two2W_e, shsW_nil, shsW_cons, shsW_app, shsW_map, intsD_nil, intsD_cons, intsD_map, strsD_map, cWR_n, cWR_b, cWR_i, cWR_s, flW_n, flW_b, flW_i, flW_s, fls_nil, fls_n, fls_b, fls_i, fls_s, lenW_l, lenW_d, lenW_t, lenW_n, lenW_s, lenW_p, lenO'_l, lenO'_d, atR_0, atR_1, atR_2, atR_3, atR_4, lenOk_0, lenOk_1, lenOk_2, lenOk_3, lenOk_4, lenOk_5, look_hd, put_c, put_n, notins_nil, startG, scal, List.map, List.replicate, List.length_cons, List.length_nil, List.cons_append, List.nil_append, List.append_nil, List.getElem?_cons_zero, List.getElem?_cons_succ, List.set_cons_zero, List.set_cons_succ, wipeG, true_and, and_true, if_true, if_false, decide_eq_true_eq, reduceCtorEq, reduceIte, Bool.false_eq_true, decide_true, decide_false, Bool.true_and, Bool.false_and, Bool.and_true, Bool.and_false, Bool.not_true, Bool.not_false, V.int.injEq, V.str.injEq, V.bl.injEq, Nat.reduceAdd, Nat.reduceSub, Nat.reduceLT, Int.reduceEq, Int.reduceLT, Int.reduceLE, Int.reduceAdd, Int.reduceSub, Int.cast_ofNat_Int, dForK, dOff, dMany, dMixed, dAlike, dDcO, dLstVals, dEqLI, dDictO, dSortP, dLstK, dNeD0, dRep, dLstRg, dSortPT, dTupF, dTupDF, dTupRgF, dSlF, dTIx, dLstT, dLstTO, dRevI, dRemI, ntW_e, D.nt.injEq, dShapeP, P.dAreN, dTupT, dNotInLT, dIndexLT, dEqP, pdW_s, pdW_p, dSortI, dInsert0, dCatO, dLcK, $a,*])
  | `(tactic| push_cast [$a,*]) => `(tactic| ((repeat refine LaterD.mk ?_); push_cast only [$a,*]; repeat ((refine LaterD.mk ?_); (repeat refine LaterD.mk ?_); push_cast only [$a,*])))
section
variable {P : Program} {w : World} {K : PySem.W.Frag} {mg : Str → Option Value} {base : Heap} {A : Ad}
theorem sc__law_some_plan : FnScope ["_law_d", "_law_many_here", "_law_kind", "_law_numbers", "_law_plan_here", "_law_at"] ["_law_d", "_law_many_here"] (defScope s__law_some_plan) := ⟨rfl, rfl, rfl, by decide +kernel, rfl, by decide +kernel, by decide +kernel⟩
theorem ok__law_some_plan (T : Txt K mg base A) : FnOk P w K mg base CX0 11 A._law_some_plan A.d__law_some_plan ["_law_d", "_law_many_here"] (spDr K (fun d ws Q => ∃ (many : Nat), ws = [.pt d, .sh (.int (many : Nat))] ∧ (1 ≤ many ∧ many ≤ 8) ∧ ∀ p, PlanOk many 10 p → Q (.sh p) [])) := by
  refine T.F__law_some_plan.ok sc__law_some_plan (fun vs H Q E h => by
    obtain ⟨_, _, ws, Qd, _, _, _, hv, hsp, _⟩ := h
    obtain ⟨many, rfl, _⟩ := hsp
    exact hv.len.symm) (fun cdv A' outer s H vs Q E hr h => ?_)
  have hu := hu_of hr
  obtain ⟨d, h⟩ := h
  refine spD_run (td := ?td) h (qs_cons (ps_set (i := 2) sc__law_some_plan.nd rfl (Or.inl rfl) (q_call (ok__law_off T) (hr.mono (by decide)) rfl T.g__law_off T.k__law_off T.b__law_off pass0 (pa_cons (qv 0) (pa_cons pe_int pa_nil))))
    (qs_cons (q_if (q_cmp op_eq (qv 2) pe_int (nomark _)) (pss_one (ps_ret (q_call (ok_plan T 4) (hr.mono (by decide)) rfl T.g__law_plan T.k__law_plan T.b__law_plan pass0 (pa_cons (qv 0) (pa_cons (qv 1) (pa_cons pe_int pa_nil)))))) pss_nil)
    (qs_cons (ps_set (i := 3) sc__law_some_plan.nd rfl (Or.inl rfl) (q_call (ok__law_mixed T) (hr.mono (by decide)) rfl T.g__law_mixed T.k__law_mixed T.b__law_mixed pass0 (pa_cons (qv 0) (pa_cons (q_listRg rfl rfl T.m_list rfl T.m_range (qv 1)) pa_nil))))
    (qs_cons (q_if (q_cmp op_eq (qv 2) pe_int (nomark _)) (pss_one (ps_ret (q_call (ok__law_each T) (hr.mono (by decide)) rfl T.g__law_each T.k__law_each T.b__law_each pass0 (pa_cons (qv 0) (pa_cons (pe_slice sl_L (qv 3) po_none (q_some (pe_callB (c_min2 rfl) (by rfl) T.m_min (by decide +kernel) (pa_cons pe_int (pa_cons (pe_op o_add pe_int (q_call (ok__law_off T) (hr.mono (by decide)) rfl T.g__law_off T.k__law_off T.b__law_off pass0 (pa_cons (qv 0) (pa_cons (qv 1) pa_nil)))) pa_nil))))) pa_nil))))) pss_nil)
    (qs_cons (q_if (q_cmp op_eq (qv 2) pe_int (nomark _)) (pss_one (ps_ret (pe_ifExp (q_cmp o_lt (qv 1) pe_int (nomark _)) (q_call (ok_groups T 9) (hr.mono (by decide)) rfl T.g__law_groups T.k__law_groups T.b__law_groups pass0 (pa_cons (pe_lst (pa_cons (pe_tupRgF rfl rfl T.m_tuple rfl T.m_range (qv 1)) pa_nil)) pa_nil)) (q_call (ok__law_each T) (hr.mono (by decide)) rfl T.g__law_each T.k__law_each T.b__law_each pass0 (pa_cons (qv 0) (pa_cons (pe_slice sl_L (qv 3) po_none (q_some pe_int)) pa_nil)))))) pss_nil)
    (qs_cons (ps_set (i := 4) sc__law_some_plan.nd rfl (Or.inl rfl) (q_call (ok_groups T 9) (hr.mono (by decide)) rfl T.g__law_groups T.k__law_groups T.b__law_groups pass0 (pa_cons (pe_lst (pa_cons (pe_callTy c_tupF (by rfl) T.m_tuple (by decide +kernel) (pa_cons (pe_callB cr_sortedI (by rfl) T.m_sorted (by decide +kernel) (pa_cons (pe_slice sl_L (qv 3) po_none (q_some pe_int)) pa_nil)) pa_nil)) pa_nil)) pa_nil)))
    (qs_cons (ps_set (i := 5) sc__law_some_plan.nd rfl (Or.inl rfl) (pe_ix ix_L (qv 3) (q_call (ok__law_off T) (hr.mono (by decide)) rfl T.g__law_off T.k__law_off T.b__law_off pass0 (pa_cons (qv 0) (pa_cons (qv 1) pa_nil))) (fun _ _ => rfl)))
    (pss_one (ps_ret (pe_tup (pa_cons pe_str (pa_cons (pe_tupF (pa_cons (qv 5) pa_nil)) (pa_cons (qv 4) (pa_cons (pe_tup (pa_cons (q_call (ok_plan T 4) (hr.mono (by decide)) rfl T.g__law_plan T.k__law_plan T.b__law_plan pass0 (pa_cons (qv 0) (pa_cons (qv 1) (pa_cons pe_int pa_nil)))) pa_nil)) (pa_cons (pe_tup (pa_cons pe_str pa_nil)) pa_nil))))))))))))))) ?hs ?hD
  case hs => (try simp only [cx_K, cx_prog, cx_w, blkK]); exact inferInstance
  rintro ws Qd ⟨many, rfl, ⟨m1, m8⟩, kk⟩
  push_cast [spPlanD]
  intro kd hkd
  refine .mk ?_
  push_cast only []
  refine ite2 (fun z => ?_) (fun z => ?_)
  · push_cast [spPlanD]
    exact ⟨many, rfl, 4, rfl, m1, m8, by decide, fun p hp => .sh (kk p (hp.mono (by decide)))⟩
  · push_cast []
    have eD : List.map (fun (i : Nat) => D.int (i : Nat)) (List.range many) = ((List.range many).map fun (n : Nat) => (n : Int)).map D.int := by rw [List.map_map]; rfl
    rw [eD, intsD_map]
    refine ⟨by omega, by omega, by simp; omega, fun ms pm => ?_⟩
    have ml : ms.length = many := by rw [pm.length_eq]; simp
    have mb : ∀ n ∈ ms, 0 ≤ n ∧ n < (many : Int) := fun n hn => by
      obtain ⟨j, hj, rfl⟩ := List.mem_map.mp (pm.mem_iff.mp hn)
      have := List.mem_range.mp hj
      omega
    have mnd : ms.Nodup := pm.nodup_iff.mpr (List.pairwise_map.mpr (List.nodup_range.imp fun h e => h (by omega)))
    have tk : ∀ k : Nat, cutA (List.map D.int ms) none (some ((k : Nat) : Int)) = (ms.take k).map D.int := fun k => by rw [cut_to, List.map_take]
    have each : ∀ k : Nat, k ≤ 4 → (∀ n ∈ ms.take k, 0 ≤ n ∧ n < (many : Int)) ∧ (ms.take k).length ≤ 8 ∧ 2 * (ms.take k).length ≤ 10 := fun k hk => by
      have := List.length_take_le k ms
      exact ⟨fun n hn => mb n (List.mem_of_mem_take hn), by omega, by omega⟩
    refine .mk ?_
    push_cast only []
    refine ite2 (fun z => ?_) (fun z => ?_)
    · push_cast []
      refine ⟨by omega, by omega, fun x hx => ?_⟩
      have em : (if (1 : Int) + (x : Int) < 4 then 1 + (x : Int) else 4) = ((if 1 + x < 4 then 1 + x else 4 : Nat) : Int) := by
        by_cases z : 1 + x < 4
        · rw [if_pos z, if_pos (by omega)]
          omega
        · rw [if_neg z, if_neg (by omega)]
          rfl
      have h4 : (if 1 + x < 4 then 1 + x else 4) ≤ 4 := by split <;> omega
      push_cast [em]
      generalize (if 1 + x < 4 then 1 + x else 4) = k at *
      rw [tk]
      obtain ⟨a1, a2, a3⟩ := each k h4
      exact ⟨many, ms.take k, rfl, m8, a1, a2, fun p hp => .sh (kk p (hp.mono a3))⟩
    · push_cast []
      refine ite2 (fun z => ?_) (fun z => ?_)
      · push_cast [spGrD]
        refine ite2 (fun h => ?_) (fun h => ?_)
        · have rn : NumsOk many ((List.range many).map fun (i : Nat) => (i : Int)) := ⟨fun z => by
            have : ((List.range many).map fun (i : Nat) => (i : Int)).length = 0 := by rw [z]; rfl
            rw [List.length_map, List.length_range] at this
            omega, List.pairwise_map.mpr (List.pairwise_lt_range.imp fun h => by omega), fun n hn => by
            obtain ⟨j, hj, rfl⟩ := List.mem_map.mp hn
            have := List.mem_range.mp hj
            omega⟩
          refine ⟨by omega, by omega, many, [(List.range many).map fun (i : Nat) => (i : Int)], rfl, m8, fun g hg => by rw [List.mem_singleton.mp hg]; exact rn, ?_, by decide, fun p hp => .sh (kk p (hp.mono (by decide)))⟩
          show (2 * ((List.range many).map fun (i : Nat) => (i : Int)).length - 1) + 0 ≤ 9
          rw [List.length_map, List.length_range]
          omega
        · obtain ⟨a1, a2, a3⟩ := each 4 (by decide)
          exact ⟨many, ms.take 4, tk 4, m8, a1, a2, fun p hp => .sh (kk p (hp.mono a3))⟩
      · push_cast [spGrD, spPlanD]
        rw [show cutA (List.map D.int ms) none (some 3) = (ms.take 3).map D.int from tk 3, intsD_map]
        intro qs pq pw
        have ql : qs.length = min 3 ms.length := by rw [pq.length_eq, List.length_take]
        have qn : qs.Nodup := pq.nodup_iff.mpr (mnd.sublist (List.take_sublist _ _))
        have qo : NumsOk many qs := ⟨fun z => by
          rw [z] at ql
          have ql : 0 = min 3 ms.length := ql
          omega, (pw.and qn).imp fun h => by
          have := h.1
          have := h.2
          omega, fun n hn => mb n (List.mem_of_mem_take (pq.mem_iff.mp hn))⟩
        refine ⟨many, [qs], rfl, m8, fun g hg => by rw [List.mem_singleton.mp hg]; exact qo, ?_, by decide, fun p hp => ?_⟩
        · show (2 * qs.length - 1) + 0 ≤ 9
          omega
        · push_cast []
          refine ⟨by omega, by omega, fun x hx => ?_⟩
          have hx : x < ms.length := by omega
          have ea : L2.atI (List.map W.sh (List.map D.int ms)) ((x : Nat) : Int) = some (.sh (.int ms[x])) := atI_nat (by rw [List.getElem?_map, List.getElem?_map, List.getElem?_eq_getElem hx]; rfl)
          rw [atR_some ea]
          push_cast [spPlanD]
          refine ⟨many, rfl, 3, rfl, m1, m8, by decide, fun p2 hp2 => ?_⟩
          push_cast []
          exact .sh (kk _ (PlanOk.ask (n := 9) (.one (mb _ (List.getElem_mem hx))) rfl hp (fun h hh => by
            rw [List.mem_singleton.mp hh]
            exact hp2.mono (by decide)) (.fin many 9)))
def spLawT (K : PySem.W.Frag) (A : Ad) : Sp := fun vs H Q _ => ∃ (a : Addr) (ns : List Int), vs = [.ref a] ∧ SqL K H a (ns.map V.int) ∧ ns.length ≤ 63 ∧ GxR.TabG H A.p_are_numbers ∧ ∀ H', Q (.bl true) H'
theorem law_goT {X : Cx} {body : List Stmt} {ts : TS} {E0 E1 : XK} {N : List Str} {vs : List V} {H : Hp} {Q : VK} (h : spLawT K A vs H Q E1) (hP : PSs X body (vSeq (tAsg (vCall (spDice K) E0 (tCons (vVar 0) (tCons (tC (.int 0)) tNil))) (gName 1)) ts))
    (hN : 2 ≤ N.length) (hD : ∀ d, ∃ td : DS, SS K (amAnd (amD d) (amN A)) ts td ∧ td lawN (lawG N d) []) :
    ∃ t, PSs X body t ∧ t { nx := fun _ H' => Q .non H', rt := Q } (start N vs) H := by
  obtain ⟨a, ns, rfl, hS, hl, hT, kk⟩ := h
  refine ⟨_, hP, ?_⟩
  refine (show spDice K [.ref a, .int 0] H (fun v H1 => Later (ts { nx := fun _ H' => Q .non H', rt := Q }) ((start N [.ref a]).set 1 (some v)) H1) E0 from ⟨a, ns, rfl, hS, hl, fun d H' sm hd dr => Later.mk ?_⟩)
  let c : Cq (amAnd (amD d) (amN A)) := ⟨(amAnd (amD d) (amN A)).M, fun b m => m, H'⟩
  have hT' : GxR.TabG H' A.p_are_numbers := tabN_same sm hT
  have inv : (amAnd (amD d) (amN A)).I H' := ⟨dr, hT', fun x z y => by
    have z : x = d := z
    have y : x = A.p_are_numbers := y
    obtain ⟨ps, h1, _⟩ := hT
    rw [← y, z, hd] at h1
    cases h1⟩
  have e0 : DEnv K c [] ((start N [.ref a]).set 1 (some (.ref d))) (lawG N d) [] H' := by
    refine ⟨?_, fun i w hw => ?_, fun t ht => by simp at ht, fun q hq => by simp at hq, List.nodup_nil, fun p hp => by simp at hp, fun b hb => (amAnd (amD d) (amN A)).ex H' b inv hb, fun b o _ hb => hb, inv⟩
    · rw [List.length_set]
      unfold lawG L2.start
      simp
      omega
    · unfold lawG at hw
      rw [List.getElem?_set] at hw
      split at hw
      · rename_i z
        subst z
        split at hw
        · rename_i hl
          cases hw
          refine ⟨.ref d, ?_, rfl⟩
          rw [List.getElem?_set, if_pos rfl, if_pos]
          unfold L2.start
          simp
          omega
        · cases hw
      · rw [List.getElem?_replicate] at hw
        split at hw <;> cases hw
  obtain ⟨td, hs, hD⟩ := hD d
  refine hs.run (c := c) (T := []) e0 hD ⟨fun _ _ _ _ z _ => z.elim, fun v w σ Γ Ω H2 q e => ?_, fun _ _ _ _ z _ => z.elim, fun _ _ _ _ z _ => z.elim⟩
  have q : w = .sh (.bl true) := q
  subst q
  rw [show v = .bl true from e.hd]
  exact kk H2
theorem alk_tI {l : List Int} (h : l.length ≤ 100) : AlkD 1 (tI l) := .tup (by rw [List.length_map]; omega) fun x hx => by
  obtain ⟨j, _, rfl⟩ := List.mem_map.mp hx
  exact .int
theorem alk_jud {d : D} : ∀ (gs : List (List Int)) (g : Nat) (s : List Int), (∀ x ∈ gs, x.length ≤ 8) → s.length ≤ 8 → AlkD 2 (judP d gs g s)
  | [], g, s, _, hs => .tup (by show 3 ≤ 10000; decide) fun z hz => by
    rcases List.mem_cons.mp hz with e | hz
    · rw [e]; exact .str
    · rcases List.mem_cons.mp hz with e | hz
      · rw [e]; exact .int
      · rw [List.mem_singleton.mp hz]
        exact alk_tI (by omega)
  | x :: r, g, s, h, hs => by
    have hx := h x List.mem_cons_self
    have hr : ∀ y ∈ r, y.length ≤ 8 := fun y hy => h y (List.mem_cons_of_mem _ hy)
    rw [judP_c]
    split
    · split
      · exact alk_jud r _ _ hr hx
      · exact alk_jud r _ _ hr hs
    · have := folP_len 20 d x
      refine .tup (by show 3 ≤ 10000; decide) fun z hz => ?_
      rcases List.mem_cons.mp hz with e | hz
      · rw [e]; exact .str
      · rcases List.mem_cons.mp hz with e | hz
        · rw [e]; exact alk_tI (by omega)
        · rw [List.mem_singleton.mp hz]
          exact alk_tI (by omega)
end
end P
end OA

namespace OA
open PySem PySem.Spec PyProof.Rows L2
local macro_rules
  | `(tactic| push_cast only [$a,*]) => `(tactic| simp -implicitDefEqProofs only [Int.toNat_natCast, List.cons.injEq, W.sh.injEq, D.int.injEq, D.str.injEq, D.bl.injEq, D.tup.injEq, D.lst.injEq, W.pt.injEq, and_assoc, exists_eq_left', exists_eq_left, exists_and_left, true_implies, dIsi, tn_n, tn_b, tn_i, tn_s, tn_t, tn_nt, tn_l, kr_NoneType_bool, kr_NoneType_int, kr_NoneType_str, kr_NoneType_list, kr_NoneType_tuple, kr_NoneType_dict, kr_bool_bool, kr_bool_int, kr_bool_str, kr_bool_list, kr_bool_tuple, kr_bool_dict, kr_int_bool, kr_int_int, kr_int_str, kr_int_list, kr_int_tuple, kr_int_dict, kr_str_bool, kr_str_int, kr_str_str, kr_str_list, kr_str_tuple, kr_str_dict, kr_list_bool, kr_list_int, kr_list_str, kr_list_list, kr_list_tuple, kr_list_dict, kr_tuple_bool, kr_tuple_int, kr_tuple_str, kr_tuple_list, kr_tuple_tuple, kr_tuple_dict, kr_dict_bool, kr_dict_int, kr_dict_str, kr_dict_list, kr_dict_tuple, kr_dict_dict, dVar, dC_n, dC_b, dC_i, dC_s, dC_t, dC_r, dOp, dUn, dNil, dCons, dStar, dStarT, dTup, dLst, dLstO, dAnd, dOr, dNot, dIf, dTest, dYes, dChain, dCall, dNext, dCut, dSeq, dDrop, dRet, dRetN, dIfS, dName, sgnil_e, sgcons_e, dGtup, dAsg, dAug, dWhile, dFor, dLc, dLcO, dLc2, dDc, dI0, dIC, dEq, dIsN, isNonW, noPy, dAddS, dMulS, dCat, dCatT, dInT, dInLI, dInTI, dInS, dIxL, dIxT, dIxS, dNeg, dNoPart, dPart, dSl, dSlL, dSlT, dSlS, dRev, dDGet, dDIn, dDNew, dDNewS, dsDPut, dgSub, dSetL, isLW, dLM, dLM0, dAppend, dPopAt, dExtend, dPop, dLen, dTupL, dLstL, dAbs, dIntB, dMin2, dMax2, dMaxL, dCKw, dMaxT, dFn, dList, dTupI, dStrI, dR1, dR2, dEnum, dTAnd, dTOr, dTNot, varR_e, intW_e, blW_e, strW_e, shW_e, tyW_e, tupW_e, tupW_n, tup0W_e, lookL_e, lookD_e, lookR_e, lookR_l, seqW_e, seqW_p, dicW_e, dicW_p, ownL_p, ownD_p, keyW_i, keyW_s, one1W_e, two2W_e, shsW_nil, shsW_cons, shsW_app, shsW_map, intsD_nil, intsD_cons, intsD_map, strsD_map, cWR_n, cWR_b, cWR_i, cWR_s, flW_n, flW_b, flW_i, flW_s, fls_nil, fls_n, fls_b, fls_i, fls_s, lenW_l, lenW_d, lenW_t, lenW_n, lenW_s, lenW_p, lenO'_l, lenO'_d, atR_0, atR_1, atR_2, atR_3, atR_4, lenOk_0, lenOk_1, lenOk_2, lenOk_3, lenOk_4, lenOk_5, look_hd, put_c, put_n, notins_nil, startG, scal, List.map, List.replicate, List.length_cons, List.length_nil, List.cons_append, List.nil_append, List.append_nil, List.getElem?_cons_zero, List.getElem?_cons_succ, List.set_cons_zero, List.set_cons_succ, wipeG, true_and, and_true, if_true, if_false, decide_eq_true_eq, reduceCtorEq, reduceIte, Bool.false_eq_true, decide_true, decide_false, Bool.true_and, Bool.false_and, Bool.and_true, Bool.and_false, Bool.not_true, Bool.not_false, V.int.injEq, V.str.injEq, V.bl.injEq, Nat.reduceAdd, Nat.reduceSub, Nat.reduceLT, Int.reduceEq, Int.reduceLT, Int.reduceLE, Int.reduceAdd, Int.reduceSub, Int.cast_ofNat_Int, dForK, dOff, dMany, dMixed, dAlike, dDcO, dLstVals, dEqLI, dDictO, dSortP, dLstK, dNeD0, dRep, dLstRg, dSortPT, dDGet2, dSortDW, dFnM, dTupF, dTupDF, dTupRgF, dSlF, dTIx, dLstT, dLstTO, dRevI, dRemI, ntW_e, D.nt.injEq, dShapeP, P.dAreN, dSum, dDNewT, dsDPutT, dGet2T, dLstDT, dInLD, dInLB, dtW_p, lookT_e, keyTW, keysD_nil, keysD_i, bolsD_map, dLcN, dZipI, dRepT, dTupT, dNotInLT, dIndexLT, dEqP, pdW_s, pdW_p, dSortI, dInsert0, dCatO, dLcK, $a,*])
  | `(tactic| push_cast [$a,*]) => `(tactic| ((repeat refine LaterD.mk ?_); push_cast only [$a,*]; repeat ((refine LaterD.mk ?_); (repeat refine LaterD.mk ?_); push_cast only [$a,*])))
/-! the first draw -/
def wIxDr : R2 := wIxL
theorem ix_Dr {X : Cx} : IxR X wIxDr := ix_L
section
variable {K : PySem.W.Frag} {am : Am} {d : Addr}
def dIxDr (d : Addr) (x y : W) (Ω : Om) (Q : DQ) : Prop := x = .pt d ∧ y = .sh (.int 0) ∧ ∀ n : Int, Q (.sh (.int n)) Ω
instance r_ixDr [s : DrawsIn d am] : SR2 K am wIxDr (dIxDr d) := ⟨fun {c T σ Γ Ω H x y wx wy Q R} e hx hy h k => by
  obtain ⟨rfl, rfl, q⟩ := h
  obtain rfl : x = .ref d := hx
  obtain rfl : y = .int 0 := hy
  obtain ⟨ns, e1, ok⟩ := s.get _ e.inv
  show lstO (H d) _
  rw [e1]
  cases ns with
  | nil =>
    have := ok.l2
    simp at this
  | cons n ns =>
    show optR (L2.atI (V.int n :: ns.map V.int) 0) _
    rw [atI_zero]
    exact k _ _ _ _ (q n) (e.addv rfl)⟩
end
theorem AlkD.up {n : Nat} {d : D} (h : AlkD n d) : AlkD (n + 1) d := by
  induction h with
  | non => exact .non
  | bl => exact .bl
  | int => exact .int
  | str => exact .str
  | tup hl _ ih => exact .tup hl ih
  | lst hl _ ih => exact .lst hl ih
  | nt hl => exact .nt hl
theorem flat_one {α : Type} (k : Nat) (x : α) : (List.replicate k [x]).flatten = List.replicate k x := by
  induction k with
  | zero => rfl
  | succ k ih => rw [List.replicate_succ, List.flatten_cons, ih]; rfl
/-! an expression's value, told by parts (the whole nest at once is too much for the kernel) -/
def Ev (t : DT) (Γ : Gm) (Ω : Om) (d : D) : Prop := ∀ Q : DQ, Q (.sh d) Ω → t Γ Ω Q
theorem ev_var {i : Nat} {Γ : Gm} {Ω : Om} {d : D} (h : Γ[i]? = some (some (.sh d))) : Ev (dVar i) Γ Ω d := fun Q q => by
  unfold dVar
  rw [h]
  exact q
theorem ev_str {s : Str} {Γ : Gm} {Ω : Om} : Ev (dC (.str s)) Γ Ω (.str s) := fun Q q => q
theorem ev_tup1 {a : DT} {Γ : Gm} {Ω : Om} {x : D} (h : Ev a Γ Ω x) : Ev (dTup (dCons a dNil)) Γ Ω (.tup [x]) := fun Q q => h _ ⟨lenOk_of (by show 1 ≤ _; decide), q⟩
theorem ev_tup5 {a b c d e : DT} {Γ : Gm} {Ω : Om} {x y z u v : D} (ha : Ev a Γ Ω x) (hb : Ev b Γ Ω y) (hc : Ev c Γ Ω z) (hd : Ev d Γ Ω u) (he : Ev e Γ Ω v) : Ev (dTup (dCons a (dCons b (dCons c (dCons d (dCons e dNil)))))) Γ Ω (.tup [x, y, z, u, v]) :=
  fun Q q => ha _ (hb _ (hc _ (hd _ (he _ ⟨lenOk_of (by show 5 ≤ _; decide), q⟩))))
theorem ev_rep {a b : DT} {Γ : Gm} {Ω : Om} {x : D} {many : Nat} (ha : Ev a Γ Ω (.tup [x])) (hb : Ev b Γ Ω (.int (many : Nat))) (m1 : 1 ≤ many) (m8 : many ≤ 8) : Ev (dOp dRepT a b) Γ Ω (.tup (List.replicate many x)) := fun Q q =>
  ha _ (hb _ ⟨⟨by simp, by omega, by omega, by show 1 ≤ 1000; decide⟩, by rw [Int.toNat_natCast, flat_one]; exact q⟩)
namespace P
theorem alk_plan {many : Nat} (m8 : many ≤ 8) : ∀ {n : Nat} {d : D}, PlanOk many n d → AlkD (2 * n + 1) d
  | 0, d, h => by
    rw [show d = endD from h]
    exact .tup (by show 1 ≤ 10000; decide) fun z hz => by
      rw [List.mem_singleton.mp hz]
      exact .str
  | n + 1, d, h => by
    rcases h with rfl | ⟨ns, q, hs, nz, rfl, h2, h3, h4, h5, h6⟩
    · exact .tup (by show 1 ≤ 10000; decide) fun z hz => by
        rw [List.mem_singleton.mp hz]
        exact .str
    · have nl := h2.len
      show AlkD (2 * n + 1 + 1 + 1) _
      refine .tup (by show 5 ≤ 10000; decide) fun z hz => ?_
      simp only [List.mem_cons, List.not_mem_nil, or_false] at hz
      rcases hz with rfl | rfl | rfl | rfl | rfl
      · exact .str
      · exact .nt (by omega)
      · exact (alk_plan m8 h4).up
      · exact .tup (by omega) fun x hx => alk_plan m8 (h5 x hx)
      · exact (alk_plan m8 h6).up
theorem pd_tI (l : List Int) : pdD (tI l) = .tuple (l.map PyData.int) := by
  have : ∀ l : List Int, pdL (l.map D.int) = l.map PyData.int := fun l => by
    induction l with
    | nil => rfl
    | cons n l ih =>
      rw [List.map_cons]
      unfold pdL
      rw [ih]
      rfl
  show pdD (.tup (l.map D.int)) = _
  unfold pdD
  rw [this]
theorem eqv_tI (l : List Int) : PyData.eqv (pdD (tI l)) (pdD (tI l)) = true := by
  rw [pd_tI]
  unfold PyData.eqv
  rw [eqvInts]
  exact decide_eq_true rfl
theorem miss_ok (x l : List Int) : plD (.tup [.str "missed", tI x, tI l]) = true ∧ (pdD (.tup [.str "missed", tI x, tI l])).depth ≤ 64 ∧ PyData.eqv (pdD (.tup [.str "missed", tI x, tI l])) (pdD (.tup [.str "missed", tI x, tI l])) = true := by
  refine ⟨?_, ?_, ?_⟩
  · have e : plD (.tup [.str "missed", tI x, tI l]) = (PyData.strOk "missed" && (plD (tI x) && (plD (tI l) && true))) := rfl
    rw [e, pl_tI, pl_tI]
    decide +kernel
  · have e : pdD (.tup [.str "missed", tI x, tI l]) = .tuple [.str "missed", pdD (tI x), pdD (tI l)] := rfl
    rw [e, pd_tI, pd_tI]
    have d : ∀ l : List Int, PyData.depthAll (l.map PyData.int) ≤ 1 := fun l => by
      induction l with
      | nil => exact Nat.zero_le _
      | cons n l ih =>
        rw [List.map_cons]
        unfold PyData.depthAll PyData.depth
        omega
    have h1 := d x
    have h2 := d l
    simp only [PyData.depth, PyData.depthAll]
    omega
  · have e : pdD (.tup [.str "missed", tI x, tI l]) = .tuple [.str "missed", pdD (tI x), pdD (tI l)] := rfl
    rw [e]
    unfold PyData.eqv
    unfold PyData.eqvAll
    unfold PyData.eqvAll
    unfold PyData.eqvAll
    rw [eqv_tI, eqv_tI]
    simp [PyData.eqv, PyData.eqvAll]
theorem both_ok {many : Nat} {ns : List Int} {q : D} (rn : NumsOk many ns) (hl : many = ns.length) {n : Nat} (hq : PlanOk many n q) : PlanOk many (n + 2) (askD ns q (List.replicate many q) (askD ns endD (List.replicate many endD) q)) := by
  refine .ask rn (by rw [List.length_replicate, hl]) hq.up (fun h hh => ?_) (.ask rn (by rw [List.length_replicate, hl]) (.fin many n) (fun h hh => ?_) hq)
  · rw [List.eq_of_mem_replicate hh]; exact hq.up
  · rw [List.eq_of_mem_replicate hh]; exact .fin many n
section
variable {P : Program} {w : World} {K : PySem.W.Frag} {mg : Str → Option Value} {base : Heap} {A : Ad}
theorem sc_law : FnScope ["_law_script", "_law_d", "_law_many_here", "_law_turn", "_law_plan_here", "_law_most", "_law_every", "_law_found", "_law_some", "_law_met", "_law_left", "_law_fewer", "_law_rest", "_law_both"] ["_law_script"] (defScope s_law) := ⟨rfl, rfl, rfl, by decide +kernel, rfl, by decide +kernel, by decide +kernel⟩
theorem ok_law (T : Txt K mg base A) : FnOk P w K mg base CX0 60 A.law A.d_law ["_law_script"] (spLawT K A) := by
  refine T.F_law.ok sc_law (fun vs H Q E h => ?_) (fun cdv A' outer s H vs Q E hr h => ?_)
  · obtain ⟨a, ns, rfl, _⟩ := h
    rfl
  have hu := hu_of hr
  refine law_goT h (qs_cons (ps_set (i := 1) sc_law.nd rfl (Or.inl rfl) (q_call (ok__law_dice T) (hr.mono (by decide)) rfl T.g__law_dice T.k__law_dice T.b__law_dice pass0 (pa_cons (qv 0) (pa_cons pe_int pa_nil))))
    (qs_cons (ps_set (i := 2) sc_law.nd rfl (Or.inl rfl) (q_call (ok__law_many T) (hr.mono (by decide)) rfl T.g__law_many T.k__law_many T.b__law_many pass0 (pa_cons (qv 1) pa_nil)))
    (qs_cons (q_for PassesOwn.never rfl (qi_r1 (by rfl) T.m_range (pa_cons pe_int pa_nil)) (pg_name (i := 3) sc_law.nd rfl (Or.inl rfl)) (qs_cons (ps_set (i := 4) sc_law.nd rfl (Or.inl rfl) (q_call (ok__law_some_plan T) (hr.mono (by decide)) rfl T.g__law_some_plan T.k__law_some_plan T.b__law_some_plan pass0 (pa_cons (qv 1) (pa_cons (qv 2) pa_nil))))
    (qs_cons (ps_set (i := 5) sc_law.nd rfl (Or.inl rfl) (pe_op o_add pe_int (q_call (ok__law_off T) (hr.mono (by decide)) rfl T.g__law_off T.k__law_off T.b__law_off pass0 (pa_cons (qv 1) (pa_cons (qv 2) pa_nil)))))
    (qs_cons (q_cut (q_if (q_cmp op_eq (pe_op o_mod (pe_op o_fdiv (pe_ix ix_Dr (qv 1) pe_int (fun _ _ => rfl)) pe_int) pe_int) pe_int (nomark _)) (qs_cons (ps_set (i := 4) sc_law.nd rfl (Or.inl rfl) (q_call (ok_groups T 15) (hr.mono (by decide)) rfl T.g__law_groups T.k__law_groups T.b__law_groups pass0 (pa_cons (pe_lst (pa_cons (pe_tupRgF rfl rfl T.m_tuple rfl T.m_range (qv 2)) pa_nil)) pa_nil)))
    (pss_one (ps_set (i := 5) sc_law.nd rfl (Or.inl rfl) (pe_callB (c_min2 rfl) (by rfl) T.m_min (by decide +kernel) (pa_cons (qv 5) (pa_cons pe_int pa_nil)))))) pss_nil))
    (qs_cons (q_cut (q_if (PW.pt (pw_and (q_cmp op_eq (q_call (ok__law_off T) (hr.mono (by decide)) rfl T.g__law_off T.k__law_off T.b__law_off pass0 (pa_cons (qv 1) (pa_cons pe_int pa_nil))) pe_int (nomark _)) (pw_and1 (q_cmp o_lt (q_call (all_parts T 20) (hr.mono (by decide)) rfl T.g__law_parts T.k__law_parts T.b__law_parts pass0 (pa_cons (qv 4) pa_nil)) pe_int (nomark _))))) (qs_cons (ps_set (i := 6) sc_law.nd rfl (Or.inl rfl) (pe_tupRgF rfl rfl T.m_tuple rfl T.m_range (qv 2)))
    (pss_one (ps_set (i := 4) sc_law.nd rfl (Or.inl rfl) (pe_tup (pa_cons pe_str (pa_cons (qv 6) (pa_cons (qv 4) (pa_cons (pe_op o_repT (pe_tup (pa_cons (qv 4) pa_nil)) (qv 2)) (pa_cons (pe_tup (pa_cons pe_str (pa_cons (qv 6) (pa_cons (pe_tup (pa_cons pe_str pa_nil)) (pa_cons (pe_op o_repT (pe_tup (pa_cons (pe_tup (pa_cons pe_str pa_nil)) pa_nil)) (qv 2)) (pa_cons (qv 4) pa_nil)))))) pa_nil))))))))) pss_nil))
    (qs_cons (ps_set (i := 7) sc_law.nd rfl (Or.inl rfl) (q_call (ok_trimmed T) (hr.mono (by decide)) rfl T.g_trimmed T.k_trimmed T.b_trimmed pass0 (pa_cons (qv 4) (pa_cons (qv 2) (pa_cons (qv 5) pa_nil)))))
    (qs_cons (q_if (pt_not (q_val (q_call (ok_alike T 41) (hr.mono (by decide)) rfl T.g__law_alike T.k__law_alike T.b__law_alike pass0 (pa_cons (qv 7) (pa_cons (q_call (all_trim T 20) (hr.mono (by decide)) rfl T.g__law_trim T.k__law_trim T.b__law_trim pass0 (pa_cons (qv 4) (pa_cons (pe_op o_cat (pe_lst (pa_cons (pe_tup pa_nil) pa_nil)) (q_call (ok__law_sets T) (hr.mono (by decide)) rfl T.g__law_sets T.k__law_sets T.b__law_sets pass0 (pa_cons (qv 2) (pa_cons (qv 5) pa_nil)))) pa_nil))) pa_nil))))) (pss_one (ps_ret pe_bl)) pss_nil)
    (qs_cons (q_for PassesOwn.never rfl (qi_list (pe_op o_cat (pe_lst (pa_cons (pe_tup pa_nil) pa_nil)) (q_call (ok__law_sets T) (hr.mono (by decide)) rfl T.g__law_sets T.k__law_sets T.b__law_sets pass0 (pa_cons (qv 2) (pa_cons (qv 5) pa_nil))))) (pg_name (i := 8) sc_law.nd rfl (Or.inl rfl)) (qs_cons (ps_asg (q_call (ok__law_followed T) (hr.mono (by decide)) rfl T.g__law_followed T.k__law_followed T.b__law_followed pass0 (pa_cons (qv 4) (pa_cons (qv 8) pa_nil))) (q_gtup (n := 2) rfl (q_gcons (pg_name (i := 9) sc_law.nd rfl (Or.inl rfl)) (q_gcons (pg_name (i := 10) sc_law.nd rfl (Or.inl rfl)) q_gnil))))
    (qs_cons (ps_asg (q_call (ok__law_followed T) (hr.mono (by decide)) rfl T.g__law_followed T.k__law_followed T.b__law_followed pass0 (pa_cons (qv 7) (pa_cons (qv 8) pa_nil))) (q_gtup (n := 2) rfl (q_gcons (pg_name (i := 11) sc_law.nd rfl (Or.inl rfl)) (q_gcons (pg_name (i := 12) sc_law.nd rfl (Or.inl rfl)) q_gnil))))
    (pss_one (q_if (PW.pt (pw_or (q_cmp (op_neD hr.units) (qv 12) (qv 10) (nomark _)) (pw_or1 (q_cmp o_gt (pe_callB c_len (by rfl) T.m_len (by decide +kernel) (pa_cons (qv 11) pa_nil)) (pe_callB c_len (by rfl) T.m_len (by decide +kernel) (pa_cons (qv 9) pa_nil)) (nomark _))))) (pss_one (ps_ret pe_bl)) pss_nil)))))
    (qs_cons (q_if (PW.pt (pw_or (q_val (q_call (all_idle T 20) (hr.mono (by decide)) rfl T.g__law_idle T.k__law_idle T.b__law_idle pass0 (pa_cons (qv 7) (pa_cons (pe_op o_cat (pe_lst (pa_cons (pe_tup pa_nil) pa_nil)) (q_call (ok__law_sets T) (hr.mono (by decide)) rfl T.g__law_sets T.k__law_sets T.b__law_sets pass0 (pa_cons (qv 2) (pa_cons (qv 5) pa_nil)))) pa_nil)))) (pw_or1 (q_cmp o_gt (q_call (all_parts T 20) (hr.mono (by decide)) rfl T.g__law_parts T.k__law_parts T.b__law_parts pass0 (pa_cons (qv 7) pa_nil)) (q_call (all_parts T 20) (hr.mono (by decide)) rfl T.g__law_parts T.k__law_parts T.b__law_parts pass0 (pa_cons (qv 4) pa_nil)) (nomark _))))) (pss_one (ps_ret pe_bl)) pss_nil)
    (qs_cons (q_if (pt_not (q_val (q_call (ok_alike T 41) (hr.mono (by decide)) rfl T.g__law_alike T.k__law_alike T.b__law_alike pass0 (pa_cons (q_call (ok_trimmed T) (hr.mono (by decide)) rfl T.g_trimmed T.k_trimmed T.b_trimmed pass0 (pa_cons (qv 7) (pa_cons (qv 2) (pa_cons (qv 5) pa_nil)))) (pa_cons (qv 7) pa_nil))))) (pss_one (ps_ret pe_bl)) pss_nil)
    (qs_cons (ps_set (i := 13) sc_law.nd rfl (Or.inl rfl) (pe_lst (pa_cons (q_call (ok_judged T) (hr.mono (by decide)) rfl T.g_judged T.k_judged T.b_judged pass0 (pa_cons (qv 4) (pa_cons (qv 2) (pa_cons (qv 5) pa_nil)))) (pa_cons (q_call (ok_judged T) (hr.mono (by decide)) rfl T.g_judged T.k_judged T.b_judged pass0 (pa_cons (qv 7) (pa_cons (qv 2) (pa_cons (qv 5) pa_nil)))) pa_nil))))
    (pss_one (q_if (PW.pt (pw_or (q_cmp op_ne (pe_ix ix_T (pe_ix ix_L (qv 13) pe_int (fun _ _ => rfl)) pe_int (fun _ _ => rfl)) (pe_ix ix_T (pe_ix ix_L (qv 13) pe_int (fun _ _ => rfl)) pe_int (fun _ _ => rfl)) (nomark _)) (pw_or1 (PW.pt (pw_and (q_cmp op_eq (pe_ix ix_T (pe_ix ix_L (qv 13) pe_int (fun _ _ => rfl)) pe_int (fun _ _ => rfl)) pe_str (nomark _)) (pw_and1 (q_cmp (op_neD hr.units) (pe_ix ix_L (qv 13) pe_int (fun _ _ => rfl)) (pe_ix ix_L (qv 13) pe_int (fun _ _ => rfl)) (nomark _)))))))) (pss_one (ps_ret pe_bl)) pss_nil)))))))))))))
    (pss_one (ps_ret pe_bl))))) (by decide) (fun d => ?_)
  refine ⟨?td, ?hs, ?hD⟩
  case hs => (try simp only [cx_K, cx_prog, cx_w, blkK]); exact inferInstance
  push_cast [lawG, lawN]
  intro many m1 m8
  push_cast []
  refine ⟨by decide, by decide, fun i Γ Ω => ∃ (v3 v4 v5 v6 v7 v8 v9 v10 v11 v12 v13 : Option W), Γ = [none, some (.pt d), some (.sh (.int (many : Nat))), v3, v4, v5, v6, v7, v8, v9, v10, v11, v12, v13] ∧ Ω = [], ⟨_, _, _, _, _, _, _, _, _, _, _, rfl, rfl⟩, ?_, ?_⟩
  · rintro i w Γ Ω hw ⟨v3, v4, v5, v6, v7, v8, v9, v10, v11, v12, v13, rfl, rfl⟩
    push_cast []
    refine ⟨many, rfl, m1, m8, fun p hp => ?_⟩
    push_cast []
    refine ⟨by omega, by omega, fun mo hmo => ?_⟩
    have e1 : (1 : Int) + (mo : Int) = ((1 + mo : Nat) : Int) := by omega
    push_cast [e1]
    generalize hmost : 1 + mo = most
    have s1 : 1 ≤ most := by omega
    have s8 : most ≤ many := by omega
    have rn : NumsOk many ((List.range many).map fun (i : Nat) => (i : Int)) := ⟨fun z => by
      have : ((List.range many).map fun (i : Nat) => (i : Int)).length = 0 := by rw [z]; rfl
      rw [List.length_map, List.length_range] at this
      omega, List.pairwise_map.mpr (List.pairwise_lt_range.imp fun h => by omega), fun n hn => by
      obtain ⟨j, hj, rfl⟩ := List.mem_map.mp hn
      have := List.mem_range.mp hj
      omega⟩
    refine ⟨fun Γ Ω => ∃ (p : D) (most : Nat), Γ = [none, some (.pt d), some (.sh (.int (many : Nat))), some w, some (.sh p), some (.sh (.int (most : Nat))), v6, v7, v8, v9, v10, v11, v12, v13] ∧ Ω = [] ∧ PlanOk many 15 p ∧ 1 ≤ most ∧ most ≤ many, ?_, ?_⟩
    · clear hp p s1 s8 hmost most e1 hmo mo
      rintro Γ Ω ⟨p, most, rfl, rfl, hp, s1, s8⟩
      push_cast []
      refine ⟨fun Γ Ω => ∃ (p : D) (v6 : Option W), Γ = [none, some (.pt d), some (.sh (.int (many : Nat))), some w, some (.sh p), some (.sh (.int (most : Nat))), v6, v7, v8, v9, v10, v11, v12, v13] ∧ Ω = [] ∧ PlanOk many 17 p, ?_, ?_⟩
      · clear hp p
        rintro Γ Ω ⟨p, v6, rfl, rfl, hp⟩
        push_cast []
        refine ⟨many, rfl, most, rfl, hp.mono (by decide), m1, m8, s1, s8, ?_⟩
        have em : (D.tup [] :: List.map tD (setsN many 1 most)) = (gsI many most).map tI := by
          rw [← gs_map, sets_0]
          rfl
        have em2 : (W.sh (D.tup []) :: List.map W.sh (List.map tD (setsN many 1 most))) = (gsI many most).map fun x => W.sh (tI x) := by
          have : List.map W.sh (D.tup [] :: List.map tD (setsN many 1 most)) = List.map W.sh ((gsI many most).map tI) := by rw [em]
          rw [List.map_map] at this
          exact this
        have egl : (List.map W.sh (List.map tD (setsN many 1 most))).length + 1 = (gsI many most).length := by
          have eg : gsI many most = [] :: (setsN many 1 most).map fun g => g.map fun (n : Nat) => (n : Int) := by
            unfold gsI
            rw [sets_0]
            rfl
          rw [eg, List.length_cons, List.length_map, List.length_map, List.length_map]
        have gl : (gsI many most).length ≤ 5000 := by
          have := sets_len (many := many) (least := 0) m8 (most + 1) (by omega)
          unfold gsI
          rw [List.length_map]
          unfold setsN
          omega
        have gok : ∀ x ∈ gsI many most, x.length ≤ 8 ∧ x.Nodup := fun x hx => by
          have := (gs_ok hx).2.2
          exact ⟨by omega, (gs_ok hx).1⟩
        have lok : lenOk (D.tup [] :: List.map tD (setsN many 1 most)) := by
          rw [em]
          exact lenOk_of (by rw [List.length_map]; omega)
        push_cast []
        refine ⟨many, rfl, most, rfl, m8, by omega, lok, ?_⟩
        rw [em]
        push_cast [spTrD]
        refine ⟨many, 20, gsI many most, rfl, hp.mono (by decide), by decide, m8, gl, fun l hl => (gok l hl).1, ?_⟩
        have p17 : PlanOk many 20 p := hp.mono (by decide)
        have ft : ∀ x ∈ gsI many most, (folP 20 (trimP 20 p (gsI many most)) x).2 = (folP 20 p x).2 ∧ (folP 20 (trimP 20 p (gsI many most)) x).1 ≤ (folP 20 p x).1 := fun x hx => trim_fol 20 p _ x p17 hx
        have tok : PlanOk many 20 (trimP 20 p (gsI many most)) := trim_ok _ p17
        have tag : trimP 20 (trimP 20 p (gsI many most)) (gsI many most) = trimP 20 p (gsI many most) := trim_again 20 p _ p17
        have tidl : idleP 20 (trimP 20 p (gsI many most)) (gsI many most) = false := trim_idle 20 p _ p17
        have tpar : partsP 20 (trimP 20 p (gsI many most)) ≤ partsP 20 p := trim_parts 20 p _ p17
        generalize ht : trimP 20 p (gsI many most) = t at ft tok tag tidl tpar ⊢
        have talk : AlkD 41 t := alk_plan m8 tok
        refine ⟨.inl ⟨_, rfl, rfl, talk⟩, ?_⟩
        push_cast []
        refine ⟨many, rfl, most, rfl, m8, by omega, lok, ?_⟩
        rw [em2]
        refine ⟨fun i Γ Ω => ∃ (v8 v9 v10 v11 v12 v13 : Option W), Γ = [none, some (.pt d), some (.sh (.int (many : Nat))), some w, some (.sh p), some (.sh (.int (most : Nat))), v6, some (.sh t), v8, v9, v10, v11, v12, v13] ∧ Ω = [], ⟨_, _, _, _, _, _, rfl, rfl⟩, ?_, ?_⟩
        · rintro i u Γ Ω hu ⟨v8, v9, v10, v11, v12, v13, rfl, rfl⟩
          rw [List.getElem?_map] at hu
          obtain ⟨x, hx, rfl⟩ := Option.map_eq_some_iff.mp hu
          have hxm : x ∈ gsI many most := List.mem_of_getElem? hx
          obtain ⟨f1, f2⟩ := ft x hxm
          obtain ⟨x8, xnd⟩ := gok x hxm
          push_cast []
          refine ⟨many, 20, x, rfl, p17, by decide, m8, x8, xnd, fun ms hms => ?_⟩
          push_cast []
          refine ⟨many, 20, x, rfl, tok, by decide, m8, x8, xnd, fun ms2 hms2 => ?_⟩
          push_cast []
          refine ⟨pl_tI _, dp_tI _, pl_tI _, dp_tI _, ?_⟩
          rw [f1, eqv_tI]
          push_cast []
          rw [if_neg (by omega)]
          push_cast []
          exact ⟨_, rfl⟩
        · rintro Γ Ω ⟨v8, v9, v10, v11, v12, v13, rfl, rfl⟩
          push_cast []
          refine ⟨many, rfl, most, rfl, m8, by omega, lok, ?_⟩
          rw [em]
          push_cast [spIdD]
          refine ⟨many, 20, gsI many most, rfl, tok, by decide, m8, gl, fun l hl => (gok l hl).1, ?_⟩
          rw [tidl]
          push_cast [spPtD]
          refine ⟨many, 20, tok, by decide, m8, ?_⟩
          generalize htp : partsP 20 t = tp at tpar
          push_cast []
          refine ⟨many, 20, p17, by decide, m8, ?_⟩
          generalize hpp : partsP 20 p = pp at tpar
          push_cast []
          rw [if_neg (by omega)]
          push_cast []
          refine ⟨many, rfl, most, rfl, tok, m1, m8, s1, s8, ?_⟩
          rw [tag]
          push_cast []
          refine ⟨.inl ⟨_, rfl, rfl, talk⟩, ?_⟩
          push_cast []
          refine ⟨many, rfl, most, rfl, p17, m1, m8, s1, s8, ?_⟩
          push_cast []
          refine ⟨many, rfl, most, rfl, tok, m1, m8, s1, s8, ?_⟩
          have jb := jud_both (d := p) (t := t) (gsI many most) 0 0 [] [] fun x hx => (ft x hx).1
          rcases jb with ⟨a, b, a', b', e1, e2⟩ | ⟨x, l, e1, e2⟩
          · rw [e1, e2]
            push_cast []
            exact ⟨_, rfl⟩
          · rw [e1, e2]
            push_cast []
            obtain ⟨q1, q2, q3⟩ := miss_ok x l
            refine ⟨q1, q2, q1, q2, ?_⟩
            rw [q3]
            push_cast []
            exact ⟨_, rfl⟩
      · push_cast []
        intro x hx
        refine ite2 (fun _ => ?_) (fun _ => ?_)
        · push_cast [spPtD]
          refine ⟨many, 15, hp, by decide, m8, ?_⟩
          generalize partsP 15 p = np
          push_cast []
          refine ite2 (fun _ => ?_) (fun _ => ?_)
          · push_cast []
            refine ⟨by omega, by omega, ?_⟩
            have h17 := both_ok rn (by rw [List.length_map, List.length_range]) hp
            refine LaterD.mk (ev_tup5 ev_str (ev_var rfl) (ev_var rfl) (ev_rep (ev_tup1 (ev_var rfl)) (ev_var rfl) m1 m8) (ev_tup5 ev_str (ev_var rfl) (ev_tup1 ev_str) (ev_rep (ev_tup1 (ev_tup1 ev_str)) (ev_var rfl) m1 m8) (ev_var rfl)) _ ?_)
            exact ⟨_, _, rfl, rfl, h17⟩
          · push_cast []
            exact ⟨p, rfl, hp.mono (by decide)⟩
        · push_cast []
          exact ⟨p, rfl, hp.mono (by decide)⟩
    · push_cast []
      refine ⟨rfl, rfl, fun n => ?_⟩
      push_cast []
      refine ⟨⟨by decide, by decide⟩, ?_⟩
      refine ite2 (fun _ => ?_) (fun _ => ?_)
      · push_cast [spGrD]
        refine ⟨by omega, by omega, many, [(List.range many).map fun (i : Nat) => (i : Int)], rfl, m8, fun g hg => by rw [List.mem_singleton.mp hg]; exact rn, ?_, by decide, fun p' hp' => ?_⟩
        · show (2 * ((List.range many).map fun (i : Nat) => (i : Int)).length - 1) + 0 ≤ 15
          rw [List.length_map, List.length_range]
          omega
        · have em : (if (3 : Int) < (most : Int) then 3 else (most : Int)) = ((if 3 < most then 3 else most : Nat) : Int) := by
            by_cases z : 3 < most
            · rw [if_pos z, if_pos (by omega)]
              rfl
            · rw [if_neg z, if_neg (by omega)]
          have h4 : 1 ≤ (if 3 < most then 3 else most) ∧ (if 3 < most then 3 else most) ≤ many := by split <;> omega
          push_cast [em]
          exact ⟨p', rfl, _, rfl, hp', h4.1, h4.2⟩
      · push_cast []
        exact ⟨p, rfl, most, rfl, hp.mono (by decide), s1, s8⟩
  · rintro Γ Ω ⟨v3, v4, v5, v6, v7, v8, v9, v10, v11, v12, v13, rfl, rfl⟩
    push_cast []
end
end P
end OA

namespace OA
namespace P
open PySem L2
set_option maxHeartbeats 0
theorem all_mk {l : PySem.W.OpenLaw} {w : World} {K : PySem.W.Frag} {h : Heap} {mg : Str → Option Value} {fa : Addr} (X : K.In h) (G : h.Ns mainGlobals mg) (hfa : mg "law" = some (.ref fa))
  {f_is_whole : Addr} {od_is_whole an_is_whole : Option Addr} {sl_is_whole : Array (Option Value)} {oc_is_whole kV_is_whole dc_is_whole pm_is_whole cd_is_whole ct_is_whole : Value}
  {f_check_many : Addr} {od_check_many an_check_many : Option Addr} {sl_check_many : Array (Option Value)} {oc_check_many kV_check_many dc_check_many pm_check_many cd_check_many ct_check_many : Value}
  {f_check_numbers : Addr} {od_check_numbers an_check_numbers : Option Addr} {sl_check_numbers : Array (Option Value)} {oc_check_numbers kV_check_numbers dc_check_numbers pm_check_numbers cd_check_numbers ct_check_numbers : Value}
  {f_has_shape : Addr} {od_has_shape an_has_shape : Option Addr} {sl_has_shape : Array (Option Value)} {oc_has_shape kV_has_shape dc_has_shape pm_has_shape cd_has_shape ct_has_shape : Value}
  {f_sets_of : Addr} {od_sets_of an_sets_of : Option Addr} {sl_sets_of : Array (Option Value)} {oc_sets_of kV_sets_of dc_sets_of pm_sets_of cd_sets_of ct_sets_of : Value}
  {f_judged : Addr} {od_judged an_judged : Option Addr} {sl_judged : Array (Option Value)} {oc_judged kV_judged dc_judged pm_judged cd_judged ct_judged : Value}
  {f_trimmed : Addr} {od_trimmed an_trimmed : Option Addr} {sl_trimmed : Array (Option Value)} {oc_trimmed kV_trimmed dc_trimmed pm_trimmed cd_trimmed ct_trimmed : Value}
  {f_check_plan : Addr} {od_check_plan an_check_plan : Option Addr} {sl_check_plan : Array (Option Value)} {oc_check_plan kV_check_plan dc_check_plan pm_check_plan cd_check_plan ct_check_plan : Value}
  {f_fault_of_plan : Addr} {od_fault_of_plan an_fault_of_plan : Option Addr} {sl_fault_of_plan : Array (Option Value)} {oc_fault_of_plan kV_fault_of_plan dc_fault_of_plan pm_fault_of_plan cd_fault_of_plan ct_fault_of_plan : Value}
  {f_are_numbers : Addr} {od_are_numbers an_are_numbers : Option Addr} {sl_are_numbers : Array (Option Value)} {oc_are_numbers kV_are_numbers dc_are_numbers pm_are_numbers cd_are_numbers ct_are_numbers : Value}
  {f_plans_behind : Addr} {od_plans_behind an_plans_behind : Option Addr} {sl_plans_behind : Array (Option Value)} {oc_plans_behind kV_plans_behind dc_plans_behind pm_plans_behind cd_plans_behind ct_plans_behind : Value}
  {f_behind_ask : Addr} {od_behind_ask an_behind_ask : Option Addr} {sl_behind_ask : Array (Option Value)} {oc_behind_ask kV_behind_ask dc_behind_ask pm_behind_ask cd_behind_ask ct_behind_ask : Value}
  {f_followed : Addr} {od_followed an_followed : Option Addr} {sl_followed : Array (Option Value)} {oc_followed kV_followed dc_followed pm_followed cd_followed ct_followed : Value}
  {f_trimmed_for : Addr} {od_trimmed_for an_trimmed_for : Option Addr} {sl_trimmed_for : Array (Option Value)} {oc_trimmed_for kV_trimmed_for dc_trimmed_for pm_trimmed_for cd_trimmed_for ct_trimmed_for : Value}
  {f__law_dice : Addr} {od__law_dice an__law_dice : Option Addr} {sl__law_dice : Array (Option Value)} {oc__law_dice kV__law_dice dc__law_dice pm__law_dice cd__law_dice ct__law_dice : Value}
  {f__law_off : Addr} {od__law_off an__law_off : Option Addr} {sl__law_off : Array (Option Value)} {oc__law_off kV__law_off dc__law_off pm__law_off cd__law_off ct__law_off : Value}
  {f__law_alike : Addr} {od__law_alike an__law_alike : Option Addr} {sl__law_alike : Array (Option Value)} {oc__law_alike kV__law_alike dc__law_alike pm__law_alike cd__law_alike ct__law_alike : Value}
  {f__law_mixed : Addr} {od__law_mixed an__law_mixed : Option Addr} {sl__law_mixed : Array (Option Value)} {oc__law_mixed kV__law_mixed dc__law_mixed pm__law_mixed cd__law_mixed ct__law_mixed : Value}
  {f__law_many : Addr} {od__law_many an__law_many : Option Addr} {sl__law_many : Array (Option Value)} {oc__law_many kV__law_many dc__law_many pm__law_many cd__law_many ct__law_many : Value}
  {f__law_sets : Addr} {od__law_sets an__law_sets : Option Addr} {sl__law_sets : Array (Option Value)} {oc__law_sets kV__law_sets dc__law_sets pm__law_sets cd__law_sets ct__law_sets : Value}
  {f__law_plan : Addr} {od__law_plan an__law_plan : Option Addr} {sl__law_plan : Array (Option Value)} {oc__law_plan kV__law_plan dc__law_plan pm__law_plan cd__law_plan ct__law_plan : Value}
  {f__law_each : Addr} {od__law_each an__law_each : Option Addr} {sl__law_each : Array (Option Value)} {oc__law_each kV__law_each dc__law_each pm__law_each cd__law_each ct__law_each : Value}
  {f__law_groups : Addr} {od__law_groups an__law_groups : Option Addr} {sl__law_groups : Array (Option Value)} {oc__law_groups kV__law_groups dc__law_groups pm__law_groups cd__law_groups ct__law_groups : Value}
  {f__law_some_plan : Addr} {od__law_some_plan an__law_some_plan : Option Addr} {sl__law_some_plan : Array (Option Value)} {oc__law_some_plan kV__law_some_plan dc__law_some_plan pm__law_some_plan cd__law_some_plan ct__law_some_plan : Value}
  {f__law_followed : Addr} {od__law_followed an__law_followed : Option Addr} {sl__law_followed : Array (Option Value)} {oc__law_followed kV__law_followed dc__law_followed pm__law_followed cd__law_followed ct__law_followed : Value}
  {f__law_parts : Addr} {od__law_parts an__law_parts : Option Addr} {sl__law_parts : Array (Option Value)} {oc__law_parts kV__law_parts dc__law_parts pm__law_parts cd__law_parts ct__law_parts : Value}
  {f__law_trim : Addr} {od__law_trim an__law_trim : Option Addr} {sl__law_trim : Array (Option Value)} {oc__law_trim kV__law_trim dc__law_trim pm__law_trim cd__law_trim ct__law_trim : Value}
  {f__law_idle : Addr} {od__law_idle an__law_idle : Option Addr} {sl__law_idle : Array (Option Value)} {oc__law_idle kV__law_idle dc__law_idle pm__law_idle cd__law_idle ct__law_idle : Value}
  {f_law : Addr} {od_law an_law : Option Addr} {sl_law : Array (Option Value)} {oc_law kV_law dc_law pm_law cd_law ct_law : Value}
  {t_MOST_STATIONS : Tok}
  {t_MOST_ASKS : Tok}
  {v_PLAN_SHAPES : Addr}
  {p_PLAN_SHAPES_0_0 : Addr}
  {p_PLAN_SHAPES_0_1 : Addr}
  {od_PLAN_SHAPES_0 : Option Addr} {n_PLAN_SHAPES_0 : Nat} {sl_PLAN_SHAPES_0 : Array (Option Value)}
  {t_PLAN_SHAPES_1_0 : Tok}
  {t_PLAN_SHAPES_1_1 : Tok}
  {od_PLAN_SHAPES_1 : Option Addr} {n_PLAN_SHAPES_1 : Nat} {sl_PLAN_SHAPES_1 : Array (Option Value)}
  {t_PLAN_SHAPES_2_0 : Tok}
  {t_PLAN_SHAPES_2_1 : Tok}
  {od_PLAN_SHAPES_2 : Option Addr} {n_PLAN_SHAPES_2 : Nat} {sl_PLAN_SHAPES_2 : Array (Option Value)}
  (a_is_whole : PySem.W.nsIn K mainGlobals "is_whole" = some (some (.ref f_is_whole)))
  (l_is_whole : K.lookup f_is_whole = some ⟨oc_is_whole, od_is_whole, .func (PySem.W.fnOf "is_whole" "is_whole" (defArgs s_is_whole) (defBody s_is_whole) (defScope s_is_whole) .none kV_is_whole dc_is_whole pm_is_whole an_is_whole cd_is_whole ct_is_whole), sl_is_whole⟩)
  (c_is_whole : PySem.W.codeIn K cd_is_whole "is_whole" = true)
  (k_is_whole : PySem.W.keepIn K (.ref f_is_whole) = true)
  (a_check_many : PySem.W.nsIn K mainGlobals "check_many" = some (some (.ref f_check_many)))
  (l_check_many : K.lookup f_check_many = some ⟨oc_check_many, od_check_many, .func (PySem.W.fnOf "check_many" "check_many" (defArgs s_check_many) (defBody s_check_many) (defScope s_check_many) .none kV_check_many dc_check_many pm_check_many an_check_many cd_check_many ct_check_many), sl_check_many⟩)
  (c_check_many : PySem.W.codeIn K cd_check_many "check_many" = true)
  (k_check_many : PySem.W.keepIn K (.ref f_check_many) = true)
  (a_check_numbers : PySem.W.nsIn K mainGlobals "check_numbers" = some (some (.ref f_check_numbers)))
  (l_check_numbers : K.lookup f_check_numbers = some ⟨oc_check_numbers, od_check_numbers, .func (PySem.W.fnOf "check_numbers" "check_numbers" (defArgs s_check_numbers) (defBody s_check_numbers) (defScope s_check_numbers) .none kV_check_numbers dc_check_numbers pm_check_numbers an_check_numbers cd_check_numbers ct_check_numbers), sl_check_numbers⟩)
  (c_check_numbers : PySem.W.codeIn K cd_check_numbers "check_numbers" = true)
  (k_check_numbers : PySem.W.keepIn K (.ref f_check_numbers) = true)
  (a_has_shape : PySem.W.nsIn K mainGlobals "has_shape" = some (some (.ref f_has_shape)))
  (l_has_shape : K.lookup f_has_shape = some ⟨oc_has_shape, od_has_shape, .func (PySem.W.fnOf "has_shape" "has_shape" (defArgs s_has_shape) (defBody s_has_shape) (defScope s_has_shape) .none kV_has_shape dc_has_shape pm_has_shape an_has_shape cd_has_shape ct_has_shape), sl_has_shape⟩)
  (c_has_shape : PySem.W.codeIn K cd_has_shape "has_shape" = true)
  (k_has_shape : PySem.W.keepIn K (.ref f_has_shape) = true)
  (a_sets_of : PySem.W.nsIn K mainGlobals "sets_of" = some (some (.ref f_sets_of)))
  (l_sets_of : K.lookup f_sets_of = some ⟨oc_sets_of, od_sets_of, .func (PySem.W.fnOf "sets_of" "sets_of" (defArgs s_sets_of) (defBody s_sets_of) (defScope s_sets_of) .none kV_sets_of dc_sets_of pm_sets_of an_sets_of cd_sets_of ct_sets_of), sl_sets_of⟩)
  (c_sets_of : PySem.W.codeIn K cd_sets_of "sets_of" = true)
  (k_sets_of : PySem.W.keepIn K (.ref f_sets_of) = true)
  (a_judged : PySem.W.nsIn K mainGlobals "judged" = some (some (.ref f_judged)))
  (l_judged : K.lookup f_judged = some ⟨oc_judged, od_judged, .func (PySem.W.fnOf "judged" "judged" (defArgs s_judged) (defBody s_judged) (defScope s_judged) .none kV_judged dc_judged pm_judged an_judged cd_judged ct_judged), sl_judged⟩)
  (c_judged : PySem.W.codeIn K cd_judged "judged" = true)
  (k_judged : PySem.W.keepIn K (.ref f_judged) = true)
  (a_trimmed : PySem.W.nsIn K mainGlobals "trimmed" = some (some (.ref f_trimmed)))
  (l_trimmed : K.lookup f_trimmed = some ⟨oc_trimmed, od_trimmed, .func (PySem.W.fnOf "trimmed" "trimmed" (defArgs s_trimmed) (defBody s_trimmed) (defScope s_trimmed) .none kV_trimmed dc_trimmed pm_trimmed an_trimmed cd_trimmed ct_trimmed), sl_trimmed⟩)
  (c_trimmed : PySem.W.codeIn K cd_trimmed "trimmed" = true)
  (k_trimmed : PySem.W.keepIn K (.ref f_trimmed) = true)
  (a_check_plan : PySem.W.nsIn K mainGlobals "check_plan" = some (some (.ref f_check_plan)))
  (l_check_plan : K.lookup f_check_plan = some ⟨oc_check_plan, od_check_plan, .func (PySem.W.fnOf "check_plan" "check_plan" (defArgs s_check_plan) (defBody s_check_plan) (defScope s_check_plan) .none kV_check_plan dc_check_plan pm_check_plan an_check_plan cd_check_plan ct_check_plan), sl_check_plan⟩)
  (c_check_plan : PySem.W.codeIn K cd_check_plan "check_plan" = true)
  (k_check_plan : PySem.W.keepIn K (.ref f_check_plan) = true)
  (a_fault_of_plan : PySem.W.nsIn K mainGlobals "fault_of_plan" = some (some (.ref f_fault_of_plan)))
  (l_fault_of_plan : K.lookup f_fault_of_plan = some ⟨oc_fault_of_plan, od_fault_of_plan, .func (PySem.W.fnOf "fault_of_plan" "fault_of_plan" (defArgs s_fault_of_plan) (defBody s_fault_of_plan) (defScope s_fault_of_plan) .none kV_fault_of_plan dc_fault_of_plan pm_fault_of_plan an_fault_of_plan cd_fault_of_plan ct_fault_of_plan), sl_fault_of_plan⟩)
  (c_fault_of_plan : PySem.W.codeIn K cd_fault_of_plan "fault_of_plan" = true)
  (k_fault_of_plan : PySem.W.keepIn K (.ref f_fault_of_plan) = true)
  (a_are_numbers : PySem.W.nsIn K mainGlobals "are_numbers" = some (some (.ref f_are_numbers)))
  (l_are_numbers : K.lookup f_are_numbers = some ⟨oc_are_numbers, od_are_numbers, .func (PySem.W.fnOf "are_numbers" "are_numbers" (defArgs s_are_numbers) (defBody s_are_numbers) (defScope s_are_numbers) .none kV_are_numbers dc_are_numbers pm_are_numbers an_are_numbers cd_are_numbers ct_are_numbers), sl_are_numbers⟩)
  (c_are_numbers : PySem.W.codeIn K cd_are_numbers "are_numbers" = true)
  (k_are_numbers : PySem.W.keepIn K (.ref f_are_numbers) = true)
  (a_plans_behind : PySem.W.nsIn K mainGlobals "plans_behind" = some (some (.ref f_plans_behind)))
  (l_plans_behind : K.lookup f_plans_behind = some ⟨oc_plans_behind, od_plans_behind, .func (PySem.W.fnOf "plans_behind" "plans_behind" (defArgs s_plans_behind) (defBody s_plans_behind) (defScope s_plans_behind) .none kV_plans_behind dc_plans_behind pm_plans_behind an_plans_behind cd_plans_behind ct_plans_behind), sl_plans_behind⟩)
  (c_plans_behind : PySem.W.codeIn K cd_plans_behind "plans_behind" = true)
  (k_plans_behind : PySem.W.keepIn K (.ref f_plans_behind) = true)
  (a_behind_ask : PySem.W.nsIn K mainGlobals "behind_ask" = some (some (.ref f_behind_ask)))
  (l_behind_ask : K.lookup f_behind_ask = some ⟨oc_behind_ask, od_behind_ask, .func (PySem.W.fnOf "behind_ask" "behind_ask" (defArgs s_behind_ask) (defBody s_behind_ask) (defScope s_behind_ask) .none kV_behind_ask dc_behind_ask pm_behind_ask an_behind_ask cd_behind_ask ct_behind_ask), sl_behind_ask⟩)
  (c_behind_ask : PySem.W.codeIn K cd_behind_ask "behind_ask" = true)
  (k_behind_ask : PySem.W.keepIn K (.ref f_behind_ask) = true)
  (a_followed : PySem.W.nsIn K mainGlobals "followed" = some (some (.ref f_followed)))
  (l_followed : K.lookup f_followed = some ⟨oc_followed, od_followed, .func (PySem.W.fnOf "followed" "followed" (defArgs s_followed) (defBody s_followed) (defScope s_followed) .none kV_followed dc_followed pm_followed an_followed cd_followed ct_followed), sl_followed⟩)
  (c_followed : PySem.W.codeIn K cd_followed "followed" = true)
  (k_followed : PySem.W.keepIn K (.ref f_followed) = true)
  (a_trimmed_for : PySem.W.nsIn K mainGlobals "trimmed_for" = some (some (.ref f_trimmed_for)))
  (l_trimmed_for : K.lookup f_trimmed_for = some ⟨oc_trimmed_for, od_trimmed_for, .func (PySem.W.fnOf "trimmed_for" "trimmed_for" (defArgs s_trimmed_for) (defBody s_trimmed_for) (defScope s_trimmed_for) .none kV_trimmed_for dc_trimmed_for pm_trimmed_for an_trimmed_for cd_trimmed_for ct_trimmed_for), sl_trimmed_for⟩)
  (c_trimmed_for : PySem.W.codeIn K cd_trimmed_for "trimmed_for" = true)
  (k_trimmed_for : PySem.W.keepIn K (.ref f_trimmed_for) = true)
  (a__law_dice : PySem.W.nsIn K mainGlobals "_law_dice" = some (some (.ref f__law_dice)))
  (l__law_dice : K.lookup f__law_dice = some ⟨oc__law_dice, od__law_dice, .func (PySem.W.fnOf "_law_dice" "_law_dice" (defArgs s__law_dice) (defBody s__law_dice) (defScope s__law_dice) .none kV__law_dice dc__law_dice pm__law_dice an__law_dice cd__law_dice ct__law_dice), sl__law_dice⟩)
  (c__law_dice : PySem.W.codeIn K cd__law_dice "_law_dice" = true)
  (k__law_dice : PySem.W.keepIn K (.ref f__law_dice) = true)
  (a__law_off : PySem.W.nsIn K mainGlobals "_law_off" = some (some (.ref f__law_off)))
  (l__law_off : K.lookup f__law_off = some ⟨oc__law_off, od__law_off, .func (PySem.W.fnOf "_law_off" "_law_off" (defArgs s__law_off) (defBody s__law_off) (defScope s__law_off) .none kV__law_off dc__law_off pm__law_off an__law_off cd__law_off ct__law_off), sl__law_off⟩)
  (c__law_off : PySem.W.codeIn K cd__law_off "_law_off" = true)
  (k__law_off : PySem.W.keepIn K (.ref f__law_off) = true)
  (a__law_alike : PySem.W.nsIn K mainGlobals "_law_alike" = some (some (.ref f__law_alike)))
  (l__law_alike : K.lookup f__law_alike = some ⟨oc__law_alike, od__law_alike, .func (PySem.W.fnOf "_law_alike" "_law_alike" (defArgs s__law_alike) (defBody s__law_alike) (defScope s__law_alike) .none kV__law_alike dc__law_alike pm__law_alike an__law_alike cd__law_alike ct__law_alike), sl__law_alike⟩)
  (c__law_alike : PySem.W.codeIn K cd__law_alike "_law_alike" = true)
  (k__law_alike : PySem.W.keepIn K (.ref f__law_alike) = true)
  (a__law_mixed : PySem.W.nsIn K mainGlobals "_law_mixed" = some (some (.ref f__law_mixed)))
  (l__law_mixed : K.lookup f__law_mixed = some ⟨oc__law_mixed, od__law_mixed, .func (PySem.W.fnOf "_law_mixed" "_law_mixed" (defArgs s__law_mixed) (defBody s__law_mixed) (defScope s__law_mixed) .none kV__law_mixed dc__law_mixed pm__law_mixed an__law_mixed cd__law_mixed ct__law_mixed), sl__law_mixed⟩)
  (c__law_mixed : PySem.W.codeIn K cd__law_mixed "_law_mixed" = true)
  (k__law_mixed : PySem.W.keepIn K (.ref f__law_mixed) = true)
  (a__law_many : PySem.W.nsIn K mainGlobals "_law_many" = some (some (.ref f__law_many)))
  (l__law_many : K.lookup f__law_many = some ⟨oc__law_many, od__law_many, .func (PySem.W.fnOf "_law_many" "_law_many" (defArgs s__law_many) (defBody s__law_many) (defScope s__law_many) .none kV__law_many dc__law_many pm__law_many an__law_many cd__law_many ct__law_many), sl__law_many⟩)
  (c__law_many : PySem.W.codeIn K cd__law_many "_law_many" = true)
  (k__law_many : PySem.W.keepIn K (.ref f__law_many) = true)
  (a__law_sets : PySem.W.nsIn K mainGlobals "_law_sets" = some (some (.ref f__law_sets)))
  (l__law_sets : K.lookup f__law_sets = some ⟨oc__law_sets, od__law_sets, .func (PySem.W.fnOf "_law_sets" "_law_sets" (defArgs s__law_sets) (defBody s__law_sets) (defScope s__law_sets) .none kV__law_sets dc__law_sets pm__law_sets an__law_sets cd__law_sets ct__law_sets), sl__law_sets⟩)
  (c__law_sets : PySem.W.codeIn K cd__law_sets "_law_sets" = true)
  (k__law_sets : PySem.W.keepIn K (.ref f__law_sets) = true)
  (a__law_plan : PySem.W.nsIn K mainGlobals "_law_plan" = some (some (.ref f__law_plan)))
  (l__law_plan : K.lookup f__law_plan = some ⟨oc__law_plan, od__law_plan, .func (PySem.W.fnOf "_law_plan" "_law_plan" (defArgs s__law_plan) (defBody s__law_plan) (defScope s__law_plan) .none kV__law_plan dc__law_plan pm__law_plan an__law_plan cd__law_plan ct__law_plan), sl__law_plan⟩)
  (c__law_plan : PySem.W.codeIn K cd__law_plan "_law_plan" = true)
  (k__law_plan : PySem.W.keepIn K (.ref f__law_plan) = true)
  (a__law_each : PySem.W.nsIn K mainGlobals "_law_each" = some (some (.ref f__law_each)))
  (l__law_each : K.lookup f__law_each = some ⟨oc__law_each, od__law_each, .func (PySem.W.fnOf "_law_each" "_law_each" (defArgs s__law_each) (defBody s__law_each) (defScope s__law_each) .none kV__law_each dc__law_each pm__law_each an__law_each cd__law_each ct__law_each), sl__law_each⟩)
  (c__law_each : PySem.W.codeIn K cd__law_each "_law_each" = true)
  (k__law_each : PySem.W.keepIn K (.ref f__law_each) = true)
  (a__law_groups : PySem.W.nsIn K mainGlobals "_law_groups" = some (some (.ref f__law_groups)))
  (l__law_groups : K.lookup f__law_groups = some ⟨oc__law_groups, od__law_groups, .func (PySem.W.fnOf "_law_groups" "_law_groups" (defArgs s__law_groups) (defBody s__law_groups) (defScope s__law_groups) .none kV__law_groups dc__law_groups pm__law_groups an__law_groups cd__law_groups ct__law_groups), sl__law_groups⟩)
  (c__law_groups : PySem.W.codeIn K cd__law_groups "_law_groups" = true)
  (k__law_groups : PySem.W.keepIn K (.ref f__law_groups) = true)
  (a__law_some_plan : PySem.W.nsIn K mainGlobals "_law_some_plan" = some (some (.ref f__law_some_plan)))
  (l__law_some_plan : K.lookup f__law_some_plan = some ⟨oc__law_some_plan, od__law_some_plan, .func (PySem.W.fnOf "_law_some_plan" "_law_some_plan" (defArgs s__law_some_plan) (defBody s__law_some_plan) (defScope s__law_some_plan) .none kV__law_some_plan dc__law_some_plan pm__law_some_plan an__law_some_plan cd__law_some_plan ct__law_some_plan), sl__law_some_plan⟩)
  (c__law_some_plan : PySem.W.codeIn K cd__law_some_plan "_law_some_plan" = true)
  (k__law_some_plan : PySem.W.keepIn K (.ref f__law_some_plan) = true)
  (a__law_followed : PySem.W.nsIn K mainGlobals "_law_followed" = some (some (.ref f__law_followed)))
  (l__law_followed : K.lookup f__law_followed = some ⟨oc__law_followed, od__law_followed, .func (PySem.W.fnOf "_law_followed" "_law_followed" (defArgs s__law_followed) (defBody s__law_followed) (defScope s__law_followed) .none kV__law_followed dc__law_followed pm__law_followed an__law_followed cd__law_followed ct__law_followed), sl__law_followed⟩)
  (c__law_followed : PySem.W.codeIn K cd__law_followed "_law_followed" = true)
  (k__law_followed : PySem.W.keepIn K (.ref f__law_followed) = true)
  (a__law_parts : PySem.W.nsIn K mainGlobals "_law_parts" = some (some (.ref f__law_parts)))
  (l__law_parts : K.lookup f__law_parts = some ⟨oc__law_parts, od__law_parts, .func (PySem.W.fnOf "_law_parts" "_law_parts" (defArgs s__law_parts) (defBody s__law_parts) (defScope s__law_parts) .none kV__law_parts dc__law_parts pm__law_parts an__law_parts cd__law_parts ct__law_parts), sl__law_parts⟩)
  (c__law_parts : PySem.W.codeIn K cd__law_parts "_law_parts" = true)
  (k__law_parts : PySem.W.keepIn K (.ref f__law_parts) = true)
  (a__law_trim : PySem.W.nsIn K mainGlobals "_law_trim" = some (some (.ref f__law_trim)))
  (l__law_trim : K.lookup f__law_trim = some ⟨oc__law_trim, od__law_trim, .func (PySem.W.fnOf "_law_trim" "_law_trim" (defArgs s__law_trim) (defBody s__law_trim) (defScope s__law_trim) .none kV__law_trim dc__law_trim pm__law_trim an__law_trim cd__law_trim ct__law_trim), sl__law_trim⟩)
  (c__law_trim : PySem.W.codeIn K cd__law_trim "_law_trim" = true)
  (k__law_trim : PySem.W.keepIn K (.ref f__law_trim) = true)
  (a__law_idle : PySem.W.nsIn K mainGlobals "_law_idle" = some (some (.ref f__law_idle)))
  (l__law_idle : K.lookup f__law_idle = some ⟨oc__law_idle, od__law_idle, .func (PySem.W.fnOf "_law_idle" "_law_idle" (defArgs s__law_idle) (defBody s__law_idle) (defScope s__law_idle) .none kV__law_idle dc__law_idle pm__law_idle an__law_idle cd__law_idle ct__law_idle), sl__law_idle⟩)
  (c__law_idle : PySem.W.codeIn K cd__law_idle "_law_idle" = true)
  (k__law_idle : PySem.W.keepIn K (.ref f__law_idle) = true)
  (a_law : PySem.W.nsIn K mainGlobals "law" = some (some (.ref f_law)))
  (l_law : K.lookup f_law = some ⟨oc_law, od_law, .func (PySem.W.fnOf "law" "law" (defArgs s_law) (defBody s_law) (defScope s_law) .none kV_law dc_law pm_law an_law cd_law ct_law), sl_law⟩)
  (c_law : PySem.W.codeIn K cd_law "law" = true)
  (k_law : PySem.W.keepIn K (.ref f_law) = true)
  (z_abs : PySem.W.nsIn K mainGlobals "abs" = some none)
  (z_all : PySem.W.nsIn K mainGlobals "all" = some none)
  (z_bool : PySem.W.nsIn K mainGlobals "bool" = some none)
  (z_dict : PySem.W.nsIn K mainGlobals "dict" = some none)
  (z_int : PySem.W.nsIn K mainGlobals "int" = some none)
  (z_isinstance : PySem.W.nsIn K mainGlobals "isinstance" = some none)
  (z_len : PySem.W.nsIn K mainGlobals "len" = some none)
  (z_list : PySem.W.nsIn K mainGlobals "list" = some none)
  (z_max : PySem.W.nsIn K mainGlobals "max" = some none)
  (z_min : PySem.W.nsIn K mainGlobals "min" = some none)
  (z_range : PySem.W.nsIn K mainGlobals "range" = some none)
  (z_reversed : PySem.W.nsIn K mainGlobals "reversed" = some none)
  (z_set : PySem.W.nsIn K mainGlobals "set" = some none)
  (z_sorted : PySem.W.nsIn K mainGlobals "sorted" = some none)
  (z_str : PySem.W.nsIn K mainGlobals "str" = some none)
  (z_sum : PySem.W.nsIn K mainGlobals "sum" = some none)
  (z_tuple : PySem.W.nsIn K mainGlobals "tuple" = some none)
  (z_zip : PySem.W.nsIn K mainGlobals "zip" = some none)
  (q_MOST_STATIONS : PySem.W.nsIn K mainGlobals "MOST_STATIONS" = some (some (.int 8 t_MOST_STATIONS)))
  (q_MOST_ASKS : PySem.W.nsIn K mainGlobals "MOST_ASKS" = some (some (.int 20 t_MOST_ASKS)))
  (q_PLAN_SHAPES : PySem.W.nsIn K mainGlobals "PLAN_SHAPES" = some (some (.ref v_PLAN_SHAPES)))
  (l_PLAN_SHAPES_0 : K.lookup v_PLAN_SHAPES = some ⟨.type "tuple", od_PLAN_SHAPES_0, .seq #[.ref p_PLAN_SHAPES_0_0, .ref p_PLAN_SHAPES_0_1] n_PLAN_SHAPES_0, sl_PLAN_SHAPES_0⟩)
  (l_PLAN_SHAPES_1 : K.lookup p_PLAN_SHAPES_0_0 = some ⟨.type "tuple", od_PLAN_SHAPES_1, .seq #[.str "end" t_PLAN_SHAPES_1_0, .int 1 t_PLAN_SHAPES_1_1] n_PLAN_SHAPES_1, sl_PLAN_SHAPES_1⟩)
  (l_PLAN_SHAPES_2 : K.lookup p_PLAN_SHAPES_0_1 = some ⟨.type "tuple", od_PLAN_SHAPES_2, .seq #[.str "ask" t_PLAN_SHAPES_2_0, .int 5 t_PLAN_SHAPES_2_1] n_PLAN_SHAPES_2, sl_PLAN_SHAPES_2⟩)
  (e_are_numbers : cd_are_numbers = .ref 128)
  (nT_are_numbers : K.lookup 124 = none)
  (T_are_numbers : h.get? 124 = some { cls := .none, data := .fields #[] })
  (C_are_numbers : PySem.W.CodeHd h 128 124) :
  LamX.LawAtS l w K CX0 60 63 "_law_script" mg fa h := by
  have e : f_law = fa := by
    have z := (PySem.W.mg_of X G a_law).symm.trans hfa
    cases z
    rfl
  subst e
  let A : Ad := { is_whole := f_is_whole, d_is_whole := PySem.W.fnOf "is_whole" "is_whole" (defArgs s_is_whole) (defBody s_is_whole) (defScope s_is_whole) .none kV_is_whole dc_is_whole pm_is_whole an_is_whole cd_is_whole ct_is_whole, check_many := f_check_many, d_check_many := PySem.W.fnOf "check_many" "check_many" (defArgs s_check_many) (defBody s_check_many) (defScope s_check_many) .none kV_check_many dc_check_many pm_check_many an_check_many cd_check_many ct_check_many, check_numbers := f_check_numbers, d_check_numbers := PySem.W.fnOf "check_numbers" "check_numbers" (defArgs s_check_numbers) (defBody s_check_numbers) (defScope s_check_numbers) .none kV_check_numbers dc_check_numbers pm_check_numbers an_check_numbers cd_check_numbers ct_check_numbers, has_shape := f_has_shape, d_has_shape := PySem.W.fnOf "has_shape" "has_shape" (defArgs s_has_shape) (defBody s_has_shape) (defScope s_has_shape) .none kV_has_shape dc_has_shape pm_has_shape an_has_shape cd_has_shape ct_has_shape, sets_of := f_sets_of, d_sets_of := PySem.W.fnOf "sets_of" "sets_of" (defArgs s_sets_of) (defBody s_sets_of) (defScope s_sets_of) .none kV_sets_of dc_sets_of pm_sets_of an_sets_of cd_sets_of ct_sets_of, judged := f_judged, d_judged := PySem.W.fnOf "judged" "judged" (defArgs s_judged) (defBody s_judged) (defScope s_judged) .none kV_judged dc_judged pm_judged an_judged cd_judged ct_judged, trimmed := f_trimmed, d_trimmed := PySem.W.fnOf "trimmed" "trimmed" (defArgs s_trimmed) (defBody s_trimmed) (defScope s_trimmed) .none kV_trimmed dc_trimmed pm_trimmed an_trimmed cd_trimmed ct_trimmed, check_plan := f_check_plan, d_check_plan := PySem.W.fnOf "check_plan" "check_plan" (defArgs s_check_plan) (defBody s_check_plan) (defScope s_check_plan) .none kV_check_plan dc_check_plan pm_check_plan an_check_plan cd_check_plan ct_check_plan, fault_of_plan := f_fault_of_plan, d_fault_of_plan := PySem.W.fnOf "fault_of_plan" "fault_of_plan" (defArgs s_fault_of_plan) (defBody s_fault_of_plan) (defScope s_fault_of_plan) .none kV_fault_of_plan dc_fault_of_plan pm_fault_of_plan an_fault_of_plan cd_fault_of_plan ct_fault_of_plan, are_numbers := f_are_numbers, d_are_numbers := PySem.W.fnOf "are_numbers" "are_numbers" (defArgs s_are_numbers) (defBody s_are_numbers) (defScope s_are_numbers) .none kV_are_numbers dc_are_numbers pm_are_numbers an_are_numbers cd_are_numbers ct_are_numbers, plans_behind := f_plans_behind, d_plans_behind := PySem.W.fnOf "plans_behind" "plans_behind" (defArgs s_plans_behind) (defBody s_plans_behind) (defScope s_plans_behind) .none kV_plans_behind dc_plans_behind pm_plans_behind an_plans_behind cd_plans_behind ct_plans_behind, behind_ask := f_behind_ask, d_behind_ask := PySem.W.fnOf "behind_ask" "behind_ask" (defArgs s_behind_ask) (defBody s_behind_ask) (defScope s_behind_ask) .none kV_behind_ask dc_behind_ask pm_behind_ask an_behind_ask cd_behind_ask ct_behind_ask, followed := f_followed, d_followed := PySem.W.fnOf "followed" "followed" (defArgs s_followed) (defBody s_followed) (defScope s_followed) .none kV_followed dc_followed pm_followed an_followed cd_followed ct_followed, trimmed_for := f_trimmed_for, d_trimmed_for := PySem.W.fnOf "trimmed_for" "trimmed_for" (defArgs s_trimmed_for) (defBody s_trimmed_for) (defScope s_trimmed_for) .none kV_trimmed_for dc_trimmed_for pm_trimmed_for an_trimmed_for cd_trimmed_for ct_trimmed_for, _law_dice := f__law_dice, d__law_dice := PySem.W.fnOf "_law_dice" "_law_dice" (defArgs s__law_dice) (defBody s__law_dice) (defScope s__law_dice) .none kV__law_dice dc__law_dice pm__law_dice an__law_dice cd__law_dice ct__law_dice, _law_off := f__law_off, d__law_off := PySem.W.fnOf "_law_off" "_law_off" (defArgs s__law_off) (defBody s__law_off) (defScope s__law_off) .none kV__law_off dc__law_off pm__law_off an__law_off cd__law_off ct__law_off, _law_alike := f__law_alike, d__law_alike := PySem.W.fnOf "_law_alike" "_law_alike" (defArgs s__law_alike) (defBody s__law_alike) (defScope s__law_alike) .none kV__law_alike dc__law_alike pm__law_alike an__law_alike cd__law_alike ct__law_alike, _law_mixed := f__law_mixed, d__law_mixed := PySem.W.fnOf "_law_mixed" "_law_mixed" (defArgs s__law_mixed) (defBody s__law_mixed) (defScope s__law_mixed) .none kV__law_mixed dc__law_mixed pm__law_mixed an__law_mixed cd__law_mixed ct__law_mixed, _law_many := f__law_many, d__law_many := PySem.W.fnOf "_law_many" "_law_many" (defArgs s__law_many) (defBody s__law_many) (defScope s__law_many) .none kV__law_many dc__law_many pm__law_many an__law_many cd__law_many ct__law_many, _law_sets := f__law_sets, d__law_sets := PySem.W.fnOf "_law_sets" "_law_sets" (defArgs s__law_sets) (defBody s__law_sets) (defScope s__law_sets) .none kV__law_sets dc__law_sets pm__law_sets an__law_sets cd__law_sets ct__law_sets, _law_plan := f__law_plan, d__law_plan := PySem.W.fnOf "_law_plan" "_law_plan" (defArgs s__law_plan) (defBody s__law_plan) (defScope s__law_plan) .none kV__law_plan dc__law_plan pm__law_plan an__law_plan cd__law_plan ct__law_plan, _law_each := f__law_each, d__law_each := PySem.W.fnOf "_law_each" "_law_each" (defArgs s__law_each) (defBody s__law_each) (defScope s__law_each) .none kV__law_each dc__law_each pm__law_each an__law_each cd__law_each ct__law_each, _law_groups := f__law_groups, d__law_groups := PySem.W.fnOf "_law_groups" "_law_groups" (defArgs s__law_groups) (defBody s__law_groups) (defScope s__law_groups) .none kV__law_groups dc__law_groups pm__law_groups an__law_groups cd__law_groups ct__law_groups, _law_some_plan := f__law_some_plan, d__law_some_plan := PySem.W.fnOf "_law_some_plan" "_law_some_plan" (defArgs s__law_some_plan) (defBody s__law_some_plan) (defScope s__law_some_plan) .none kV__law_some_plan dc__law_some_plan pm__law_some_plan an__law_some_plan cd__law_some_plan ct__law_some_plan, _law_followed := f__law_followed, d__law_followed := PySem.W.fnOf "_law_followed" "_law_followed" (defArgs s__law_followed) (defBody s__law_followed) (defScope s__law_followed) .none kV__law_followed dc__law_followed pm__law_followed an__law_followed cd__law_followed ct__law_followed, _law_parts := f__law_parts, d__law_parts := PySem.W.fnOf "_law_parts" "_law_parts" (defArgs s__law_parts) (defBody s__law_parts) (defScope s__law_parts) .none kV__law_parts dc__law_parts pm__law_parts an__law_parts cd__law_parts ct__law_parts, _law_trim := f__law_trim, d__law_trim := PySem.W.fnOf "_law_trim" "_law_trim" (defArgs s__law_trim) (defBody s__law_trim) (defScope s__law_trim) .none kV__law_trim dc__law_trim pm__law_trim an__law_trim cd__law_trim ct__law_trim, _law_idle := f__law_idle, d__law_idle := PySem.W.fnOf "_law_idle" "_law_idle" (defArgs s__law_idle) (defBody s__law_idle) (defScope s__law_idle) .none kV__law_idle dc__law_idle pm__law_idle an__law_idle cd__law_idle ct__law_idle, law := f_law, d_law := PySem.W.fnOf "law" "law" (defArgs s_law) (defBody s_law) (defScope s_law) .none kV_law dc_law pm_law an_law cd_law ct_law, v_PLAN_SHAPES := v_PLAN_SHAPES, t_are_numbers := 128, p_are_numbers := 124 }
  have F_is_whole : Fun K "is_whole" "is_whole" s_is_whole A.is_whole A.d_is_whole := fun_mk (st := s_is_whole) l_is_whole c_is_whole k_is_whole
  have F_check_many : Fun K "check_many" "check_many" s_check_many A.check_many A.d_check_many := fun_mk (st := s_check_many) l_check_many c_check_many k_check_many
  have F_check_numbers : Fun K "check_numbers" "check_numbers" s_check_numbers A.check_numbers A.d_check_numbers := fun_mk (st := s_check_numbers) l_check_numbers c_check_numbers k_check_numbers
  have F_has_shape : Fun K "has_shape" "has_shape" s_has_shape A.has_shape A.d_has_shape := fun_mk (st := s_has_shape) l_has_shape c_has_shape k_has_shape
  have F_sets_of : Fun K "sets_of" "sets_of" s_sets_of A.sets_of A.d_sets_of := fun_mk (st := s_sets_of) l_sets_of c_sets_of k_sets_of
  have F_judged : Fun K "judged" "judged" s_judged A.judged A.d_judged := fun_mk (st := s_judged) l_judged c_judged k_judged
  have F_trimmed : Fun K "trimmed" "trimmed" s_trimmed A.trimmed A.d_trimmed := fun_mk (st := s_trimmed) l_trimmed c_trimmed k_trimmed
  have F_check_plan : Fun K "check_plan" "check_plan" s_check_plan A.check_plan A.d_check_plan := fun_mk (st := s_check_plan) l_check_plan c_check_plan k_check_plan
  have F_fault_of_plan : Fun K "fault_of_plan" "fault_of_plan" s_fault_of_plan A.fault_of_plan A.d_fault_of_plan := fun_mk (st := s_fault_of_plan) l_fault_of_plan c_fault_of_plan k_fault_of_plan
  have F_are_numbers : Fun K "are_numbers" "are_numbers" s_are_numbers A.are_numbers A.d_are_numbers := fun_mk (st := s_are_numbers) l_are_numbers c_are_numbers k_are_numbers
  have F_plans_behind : Fun K "plans_behind" "plans_behind" s_plans_behind A.plans_behind A.d_plans_behind := fun_mk (st := s_plans_behind) l_plans_behind c_plans_behind k_plans_behind
  have F_behind_ask : Fun K "behind_ask" "behind_ask" s_behind_ask A.behind_ask A.d_behind_ask := fun_mk (st := s_behind_ask) l_behind_ask c_behind_ask k_behind_ask
  have F_followed : Fun K "followed" "followed" s_followed A.followed A.d_followed := fun_mk (st := s_followed) l_followed c_followed k_followed
  have F_trimmed_for : Fun K "trimmed_for" "trimmed_for" s_trimmed_for A.trimmed_for A.d_trimmed_for := fun_mk (st := s_trimmed_for) l_trimmed_for c_trimmed_for k_trimmed_for
  have F__law_dice : Fun K "_law_dice" "_law_dice" s__law_dice A._law_dice A.d__law_dice := fun_mk (st := s__law_dice) l__law_dice c__law_dice k__law_dice
  have F__law_off : Fun K "_law_off" "_law_off" s__law_off A._law_off A.d__law_off := fun_mk (st := s__law_off) l__law_off c__law_off k__law_off
  have F__law_alike : Fun K "_law_alike" "_law_alike" s__law_alike A._law_alike A.d__law_alike := fun_mk (st := s__law_alike) l__law_alike c__law_alike k__law_alike
  have F__law_mixed : Fun K "_law_mixed" "_law_mixed" s__law_mixed A._law_mixed A.d__law_mixed := fun_mk (st := s__law_mixed) l__law_mixed c__law_mixed k__law_mixed
  have F__law_many : Fun K "_law_many" "_law_many" s__law_many A._law_many A.d__law_many := fun_mk (st := s__law_many) l__law_many c__law_many k__law_many
  have F__law_sets : Fun K "_law_sets" "_law_sets" s__law_sets A._law_sets A.d__law_sets := fun_mk (st := s__law_sets) l__law_sets c__law_sets k__law_sets
  have F__law_plan : Fun K "_law_plan" "_law_plan" s__law_plan A._law_plan A.d__law_plan := fun_mk (st := s__law_plan) l__law_plan c__law_plan k__law_plan
  have F__law_each : Fun K "_law_each" "_law_each" s__law_each A._law_each A.d__law_each := fun_mk (st := s__law_each) l__law_each c__law_each k__law_each
  have F__law_groups : Fun K "_law_groups" "_law_groups" s__law_groups A._law_groups A.d__law_groups := fun_mk (st := s__law_groups) l__law_groups c__law_groups k__law_groups
  have F__law_some_plan : Fun K "_law_some_plan" "_law_some_plan" s__law_some_plan A._law_some_plan A.d__law_some_plan := fun_mk (st := s__law_some_plan) l__law_some_plan c__law_some_plan k__law_some_plan
  have F__law_followed : Fun K "_law_followed" "_law_followed" s__law_followed A._law_followed A.d__law_followed := fun_mk (st := s__law_followed) l__law_followed c__law_followed k__law_followed
  have F__law_parts : Fun K "_law_parts" "_law_parts" s__law_parts A._law_parts A.d__law_parts := fun_mk (st := s__law_parts) l__law_parts c__law_parts k__law_parts
  have F__law_trim : Fun K "_law_trim" "_law_trim" s__law_trim A._law_trim A.d__law_trim := fun_mk (st := s__law_trim) l__law_trim c__law_trim k__law_trim
  have F__law_idle : Fun K "_law_idle" "_law_idle" s__law_idle A._law_idle A.d__law_idle := fun_mk (st := s__law_idle) l__law_idle c__law_idle k__law_idle
  have F_law : Fun K "law" "law" s_law A.law A.d_law := fun_mk (st := s_law) l_law c_law k_law
  refine ⟨A.d_law, [(128, 124)], spLawT K A, (List.forall_mem_cons.mpr ⟨T_are_numbers, (fun _ hp => nomatch hp)⟩), (List.forall_mem_cons.mpr ⟨nT_are_numbers, (fun _ hp => nomatch hp)⟩), (List.forall_mem_cons.mpr ⟨C_are_numbers, (fun _ hp => nomatch hp)⟩), fun s v => .of_eq rfl, fun H a ns hl _ hH hS => ⟨a, ns, rfl, hS, hl, ⟨#[], hH (128, 124) (by simp), True.intro⟩, fun _ => rfl⟩, fun base _ _ hTB => ?_⟩
  have T : Txt K mg base A := { F_is_whole := F_is_whole, b_is_whole := F_is_whole.binds (ps := ["number", "least", "most"]) fun _ _ _ _ _ _ us hl => match us, hl with | [_, _, _], _ => rfl, g_is_whole := PySem.W.mg_of X G a_is_whole, k_is_whole := k_is_whole, F_check_many := F_check_many, b_check_many := F_check_many.binds (ps := ["many"]) fun _ _ _ _ _ _ us hl => match us, hl with | [_], _ => rfl, g_check_many := PySem.W.mg_of X G a_check_many, k_check_many := k_check_many, F_check_numbers := F_check_numbers, b_check_numbers := F_check_numbers.binds (ps := ["many", "most"]) fun _ _ _ _ _ _ us hl => match us, hl with | [_, _], _ => rfl, g_check_numbers := PySem.W.mg_of X G a_check_numbers, k_check_numbers := k_check_numbers, F_has_shape := F_has_shape, b_has_shape := F_has_shape.binds (ps := ["parts", "shapes"]) fun _ _ _ _ _ _ us hl => match us, hl with | [_, _], _ => rfl, g_has_shape := PySem.W.mg_of X G a_has_shape, k_has_shape := k_has_shape, F_sets_of := F_sets_of, b_sets_of := F_sets_of.binds (ps := ["many", "least", "most"]) fun _ _ _ _ _ _ us hl => match us, hl with | [_, _, _], _ => rfl, g_sets_of := PySem.W.mg_of X G a_sets_of, k_sets_of := k_sets_of, F_judged := F_judged, b_judged := F_judged.binds (ps := ["plan", "many", "most"]) fun _ _ _ _ _ _ us hl => match us, hl with | [_, _, _], _ => rfl, g_judged := PySem.W.mg_of X G a_judged, k_judged := k_judged, F_trimmed := F_trimmed, b_trimmed := F_trimmed.binds (ps := ["plan", "many", "most"]) fun _ _ _ _ _ _ us hl => match us, hl with | [_, _, _], _ => rfl, g_trimmed := PySem.W.mg_of X G a_trimmed, k_trimmed := k_trimmed, F_check_plan := F_check_plan, b_check_plan := F_check_plan.binds (ps := ["plan", "many"]) fun _ _ _ _ _ _ us hl => match us, hl with | [_, _], _ => rfl, g_check_plan := PySem.W.mg_of X G a_check_plan, k_check_plan := k_check_plan, F_fault_of_plan := F_fault_of_plan, b_fault_of_plan := F_fault_of_plan.binds (ps := ["plan", "many"]) fun _ _ _ _ _ _ us hl => match us, hl with | [_, _], _ => rfl, g_fault_of_plan := PySem.W.mg_of X G a_fault_of_plan, k_fault_of_plan := k_fault_of_plan, F_are_numbers := F_are_numbers, b_are_numbers := F_are_numbers.binds (ps := ["numbers", "many"]) fun _ _ _ _ _ _ us hl => match us, hl with | [_, _], _ => rfl, g_are_numbers := PySem.W.mg_of X G a_are_numbers, k_are_numbers := k_are_numbers, F_plans_behind := F_plans_behind, b_plans_behind := F_plans_behind.binds (ps := ["plan"]) fun _ _ _ _ _ _ us hl => match us, hl with | [_], _ => rfl, g_plans_behind := PySem.W.mg_of X G a_plans_behind, k_plans_behind := k_plans_behind, F_behind_ask := F_behind_ask, b_behind_ask := F_behind_ask.binds (ps := ["numbers", "left"]) fun _ _ _ _ _ _ us hl => match us, hl with | [_, _], _ => rfl, g_behind_ask := PySem.W.mg_of X G a_behind_ask, k_behind_ask := k_behind_ask, F_followed := F_followed, b_followed := F_followed.binds (ps := ["plan", "group"]) fun _ _ _ _ _ _ us hl => match us, hl with | [_, _], _ => rfl, g_followed := PySem.W.mg_of X G a_followed, k_followed := k_followed, F_trimmed_for := F_trimmed_for, b_trimmed_for := F_trimmed_for.binds (ps := ["plan", "lefts"]) fun _ _ _ _ _ _ us hl => match us, hl with | [_, _], _ => rfl, g_trimmed_for := PySem.W.mg_of X G a_trimmed_for, k_trimmed_for := k_trimmed_for, F__law_dice := F__law_dice, b__law_dice := F__law_dice.binds (ps := ["_law_script", "_law_k"]) fun _ _ _ _ _ _ us hl => match us, hl with | [_, _], _ => rfl, g__law_dice := PySem.W.mg_of X G a__law_dice, k__law_dice := k__law_dice, F__law_off := F__law_off, b__law_off := F__law_off.binds (ps := ["_law_d", "_law_most"]) fun _ _ _ _ _ _ us hl => match us, hl with | [_, _], _ => rfl, g__law_off := PySem.W.mg_of X G a__law_off, k__law_off := k__law_off, F__law_alike := F__law_alike, b__law_alike := F__law_alike.binds (ps := ["_law_found", "_law_due"]) fun _ _ _ _ _ _ us hl => match us, hl with | [_, _], _ => rfl, g__law_alike := PySem.W.mg_of X G a__law_alike, k__law_alike := k__law_alike, F__law_mixed := F__law_mixed, b__law_mixed := F__law_mixed.binds (ps := ["_law_d", "_law_row"]) fun _ _ _ _ _ _ us hl => match us, hl with | [_, _], _ => rfl, g__law_mixed := PySem.W.mg_of X G a__law_mixed, k__law_mixed := k__law_mixed, F__law_many := F__law_many, b__law_many := F__law_many.binds (ps := ["_law_d"]) fun _ _ _ _ _ _ us hl => match us, hl with | [_], _ => rfl, g__law_many := PySem.W.mg_of X G a__law_many, k__law_many := k__law_many, F__law_sets := F__law_sets, b__law_sets := F__law_sets.binds (ps := ["_law_many_here", "_law_most"]) fun _ _ _ _ _ _ us hl => match us, hl with | [_, _], _ => rfl, g__law_sets := PySem.W.mg_of X G a__law_sets, k__law_sets := k__law_sets, F__law_plan := F__law_plan, b__law_plan := F__law_plan.binds (ps := ["_law_d", "_law_many_here", "_law_deep"]) fun _ _ _ _ _ _ us hl => match us, hl with | [_, _, _], _ => rfl, g__law_plan := PySem.W.mg_of X G a__law_plan, k__law_plan := k__law_plan, F__law_each := F__law_each, b__law_each := F__law_each.binds (ps := ["_law_d", "_law_numbers"]) fun _ _ _ _ _ _ us hl => match us, hl with | [_, _], _ => rfl, g__law_each := PySem.W.mg_of X G a__law_each, k__law_each := k__law_each, F__law_groups := F__law_groups, b__law_groups := F__law_groups.binds (ps := ["_law_groups_here"]) fun _ _ _ _ _ _ us hl => match us, hl with | [_], _ => rfl, g__law_groups := PySem.W.mg_of X G a__law_groups, k__law_groups := k__law_groups, F__law_some_plan := F__law_some_plan, b__law_some_plan := F__law_some_plan.binds (ps := ["_law_d", "_law_many_here"]) fun _ _ _ _ _ _ us hl => match us, hl with | [_, _], _ => rfl, g__law_some_plan := PySem.W.mg_of X G a__law_some_plan, k__law_some_plan := k__law_some_plan, F__law_followed := F__law_followed, b__law_followed := F__law_followed.binds (ps := ["_law_plan_here", "_law_some"]) fun _ _ _ _ _ _ us hl => match us, hl with | [_, _], _ => rfl, g__law_followed := PySem.W.mg_of X G a__law_followed, k__law_followed := k__law_followed, F__law_parts := F__law_parts, b__law_parts := F__law_parts.binds (ps := ["_law_plan_here"]) fun _ _ _ _ _ _ us hl => match us, hl with | [_], _ => rfl, g__law_parts := PySem.W.mg_of X G a__law_parts, k__law_parts := k__law_parts, F__law_trim := F__law_trim, b__law_trim := F__law_trim.binds (ps := ["_law_plan_here", "_law_lefts"]) fun _ _ _ _ _ _ us hl => match us, hl with | [_, _], _ => rfl, g__law_trim := PySem.W.mg_of X G a__law_trim, k__law_trim := k__law_trim, F__law_idle := F__law_idle, b__law_idle := F__law_idle.binds (ps := ["_law_plan_here", "_law_lefts"]) fun _ _ _ _ _ _ us hl => match us, hl with | [_, _], _ => rfl, g__law_idle := PySem.W.mg_of X G a__law_idle, k__law_idle := k__law_idle, F_law := F_law, b_law := F_law.binds (ps := ["_law_script"]) fun _ _ _ _ _ _ us hl => match us, hl with | [_], _ => rfl, g_law := PySem.W.mg_of X G a_law, k_law := k_law, m_abs := PySem.W.mg_none_of X G z_abs, m_all := PySem.W.mg_none_of X G z_all, m_bool := PySem.W.mg_none_of X G z_bool, m_dict := PySem.W.mg_none_of X G z_dict, m_int := PySem.W.mg_none_of X G z_int, m_isinstance := PySem.W.mg_none_of X G z_isinstance, m_len := PySem.W.mg_none_of X G z_len, m_list := PySem.W.mg_none_of X G z_list, m_max := PySem.W.mg_none_of X G z_max, m_min := PySem.W.mg_none_of X G z_min, m_range := PySem.W.mg_none_of X G z_range, m_reversed := PySem.W.mg_none_of X G z_reversed, m_set := PySem.W.mg_none_of X G z_set, m_sorted := PySem.W.mg_none_of X G z_sorted, m_str := PySem.W.mg_none_of X G z_str, m_sum := PySem.W.mg_none_of X G z_sum, m_tuple := PySem.W.mg_none_of X G z_tuple, m_zip := PySem.W.mg_none_of X G z_zip, c_MOST_STATIONS := ⟨_, PySem.W.mg_of X G q_MOST_STATIONS⟩, c_MOST_ASKS := ⟨_, PySem.W.mg_of X G q_MOST_ASKS⟩, c_PLAN_SHAPES := PySem.W.mg_of X G q_PLAN_SHAPES, x_PLAN_SHAPES := fun H => (.tup (xs := [V.ref p_PLAN_SHAPES_0_0, V.ref p_PLAN_SHAPES_0_1]) (.inr ⟨_, _, _, l_PLAN_SHAPES_0, rfl, rfl, (by rw [sizeLine_eq]; show 2 ≤ _; decide), (.cons rfl (.cons rfl .nil))⟩) (.cons (.tup (xs := [V.str "end", V.int 1]) (.inr ⟨_, _, _, l_PLAN_SHAPES_1, rfl, rfl, (by rw [sizeLine_eq]; show 2 ≤ _; decide), (.cons ⟨_, rfl⟩ (.cons ⟨_, rfl⟩ .nil))⟩) (.cons (.str _) (.cons (.int _) .nil))) (.cons (.tup (xs := [V.str "ask", V.int 5]) (.inr ⟨_, _, _, l_PLAN_SHAPES_2, rfl, rfl, (by rw [sizeLine_eq]; show 2 ≤ _; decide), (.cons ⟨_, rfl⟩ (.cons ⟨_, rfl⟩ .nil))⟩) (.cons (.str _) (.cons (.int _) .nil))) .nil))), h_are_numbers := e_are_numbers, q_are_numbers := ⟨(hTB (128, 124) (by simp)).code, (hTB (128, 124) (by simp)).bm, (hTB (128, 124) (by simp)).gP⟩ }
  exact ok_law T
theorem walk {l : PySem.W.OpenLaw} {q : Program} {loose : List Str} {XP : (Str → Option Value) → Heap → Prop} {YP : World → Heap → Prop} {d : DefRec} {K : Params → PySem.W.Frag} (hn : l.most = some 63) (hdf : d.params.defaults = [])
    (hY : ∀ (w : World) (h : Heap), YP w h → (K w.params).In h)
    (F : ∀ (w : World) (mg : Str → Option Value) (fa : Addr) (h : Heap), YP w h → (K w.params).In h → h.Ns mainGlobals mg → mg d.name = some (.ref fa) → LamX.LawAtS l w (K w.params) CX0 60 63 "_law_script" mg fa h) :
    PySem.W.WalkO q loose XP YP l.row.toRowW d [] (fun f vs => PySem.call f vs) :=
  LamX.walk_ofTs (n := 63) (k := 60) (x := "_law_script") (CX := fun _ => CX0) hn (by decide) hdf ⟨rfl, by decide, by decide⟩ hY F fun _ _ _ _ _ z => z
end P
end OA
open PySem PySem.W PyProof.Rows
local macro_rules
  | `(tactic| o_head ($f:ident $k $a $p)) => `(tactic| o_head ((PySem.W.kmHook $k $a $p [124])))
set_option maxRecDepth 100000 in
set_option maxHeartbeats 0 in
theorem PySem.Challenge.cw_oneair_k15_whole_without_idle_asks_holds : PySem.Challenge.rw_oneair_k15_whole_without_idle_asks.Holds := by
  w_on; o_law; k_head; (case hw => w_witness2)
  k_fill
  refine OA.P.walk (l := PySem.Challenge.rw_oneair_k15_whole_without_idle_asks) rfl rfl (fun w h Y => PySem.W.km_in_of Y) ?F
  case F =>
    intro w mg fa h Y KX G hmg
    have hT8 := PySem.W.km_tabs_of Y
    refine' OA.P.all_mk KX G hmg ?a_is_whole ?l_is_whole ?c_is_whole ?k_is_whole ?a_check_many ?l_check_many ?c_check_many ?k_check_many ?a_check_numbers ?l_check_numbers ?c_check_numbers ?k_check_numbers ?a_has_shape ?l_has_shape ?c_has_shape ?k_has_shape ?a_sets_of ?l_sets_of ?c_sets_of ?k_sets_of ?a_judged ?l_judged ?c_judged ?k_judged ?a_trimmed ?l_trimmed ?c_trimmed ?k_trimmed ?a_check_plan ?l_check_plan ?c_check_plan ?k_check_plan ?a_fault_of_plan ?l_fault_of_plan ?c_fault_of_plan ?k_fault_of_plan ?a_are_numbers ?l_are_numbers ?c_are_numbers ?k_are_numbers ?a_plans_behind ?l_plans_behind ?c_plans_behind ?k_plans_behind ?a_behind_ask ?l_behind_ask ?c_behind_ask ?k_behind_ask ?a_followed ?l_followed ?c_followed ?k_followed ?a_trimmed_for ?l_trimmed_for ?c_trimmed_for ?k_trimmed_for ?a__law_dice ?l__law_dice ?c__law_dice ?k__law_dice ?a__law_off ?l__law_off ?c__law_off ?k__law_off ?a__law_alike ?l__law_alike ?c__law_alike ?k__law_alike ?a__law_mixed ?l__law_mixed ?c__law_mixed ?k__law_mixed ?a__law_many ?l__law_many ?c__law_many ?k__law_many ?a__law_sets ?l__law_sets ?c__law_sets ?k__law_sets ?a__law_plan ?l__law_plan ?c__law_plan ?k__law_plan ?a__law_each ?l__law_each ?c__law_each ?k__law_each ?a__law_groups ?l__law_groups ?c__law_groups ?k__law_groups ?a__law_some_plan ?l__law_some_plan ?c__law_some_plan ?k__law_some_plan ?a__law_followed ?l__law_followed ?c__law_followed ?k__law_followed ?a__law_parts ?l__law_parts ?c__law_parts ?k__law_parts ?a__law_trim ?l__law_trim ?c__law_trim ?k__law_trim ?a__law_idle ?l__law_idle ?c__law_idle ?k__law_idle ?a_law ?l_law ?c_law ?k_law ?z_abs ?z_all ?z_bool ?z_dict ?z_int ?z_isinstance ?z_len ?z_list ?z_max ?z_min ?z_range ?z_reversed ?z_set ?z_sorted ?z_str ?z_sum ?z_tuple ?z_zip ?q_MOST_STATIONS ?q_MOST_ASKS ?q_PLAN_SHAPES ?l_PLAN_SHAPES_0 ?l_PLAN_SHAPES_1 ?l_PLAN_SHAPES_2 ?e_are_numbers ?nT_are_numbers (hT8 124 (by simp)) (PySem.W.codeHd_of_K KX (by kernel_rfl))
    (case a_is_whole => k_is); (case l_is_whole => k_is); (case c_is_whole => k_is); (case k_is_whole => k_is); (case a_check_many => k_is); (case l_check_many => k_is)
    (case c_check_many => k_is); (case k_check_many => k_is); (case a_check_numbers => k_is); (case l_check_numbers => k_is); (case c_check_numbers => k_is); (case k_check_numbers => k_is)
    (case a_has_shape => k_is); (case l_has_shape => k_is); (case c_has_shape => k_is); (case k_has_shape => k_is); (case a_sets_of => k_is); (case l_sets_of => k_is)
    (case c_sets_of => k_is); (case k_sets_of => k_is); (case a_judged => k_is); (case l_judged => k_is); (case c_judged => k_is); (case k_judged => k_is)
    (case a_trimmed => k_is); (case l_trimmed => k_is); (case c_trimmed => k_is); (case k_trimmed => k_is); (case a_check_plan => k_is); (case l_check_plan => k_is)
    (case c_check_plan => k_is); (case k_check_plan => k_is); (case a_fault_of_plan => k_is); (case l_fault_of_plan => k_is); (case c_fault_of_plan => k_is); (case k_fault_of_plan => k_is)
    (case a_are_numbers => k_is); (case l_are_numbers => k_is); (case c_are_numbers => k_is); (case k_are_numbers => k_is); (case a_plans_behind => k_is); (case l_plans_behind => k_is)
    (case c_plans_behind => k_is); (case k_plans_behind => k_is); (case a_behind_ask => k_is); (case l_behind_ask => k_is); (case c_behind_ask => k_is); (case k_behind_ask => k_is)
    (case a_followed => k_is); (case l_followed => k_is); (case c_followed => k_is); (case k_followed => k_is); (case a_trimmed_for => k_is); (case l_trimmed_for => k_is)
    (case c_trimmed_for => k_is); (case k_trimmed_for => k_is); (case a__law_dice => k_is); (case l__law_dice => k_is); (case c__law_dice => k_is); (case k__law_dice => k_is)
    (case a__law_off => k_is); (case l__law_off => k_is); (case c__law_off => k_is); (case k__law_off => k_is); (case a__law_alike => k_is); (case l__law_alike => k_is)
    (case c__law_alike => k_is); (case k__law_alike => k_is); (case a__law_mixed => k_is); (case l__law_mixed => k_is); (case c__law_mixed => k_is); (case k__law_mixed => k_is)
    (case a__law_many => k_is); (case l__law_many => k_is); (case c__law_many => k_is); (case k__law_many => k_is); (case a__law_sets => k_is); (case l__law_sets => k_is)
    (case c__law_sets => k_is); (case k__law_sets => k_is); (case a__law_plan => k_is); (case l__law_plan => k_is); (case c__law_plan => k_is); (case k__law_plan => k_is)
    (case a__law_each => k_is); (case l__law_each => k_is); (case c__law_each => k_is); (case k__law_each => k_is); (case a__law_groups => k_is); (case l__law_groups => k_is)
    (case c__law_groups => k_is); (case k__law_groups => k_is); (case a__law_some_plan => k_is); (case l__law_some_plan => k_is); (case c__law_some_plan => k_is); (case k__law_some_plan => k_is)
    (case a__law_followed => k_is); (case l__law_followed => k_is); (case c__law_followed => k_is); (case k__law_followed => k_is); (case a__law_parts => k_is); (case l__law_parts => k_is)
    (case c__law_parts => k_is); (case k__law_parts => k_is); (case a__law_trim => k_is); (case l__law_trim => k_is); (case c__law_trim => k_is); (case k__law_trim => k_is)
    (case a__law_idle => k_is); (case l__law_idle => k_is); (case c__law_idle => k_is); (case k__law_idle => k_is); (case a_law => k_is); (case l_law => k_is)
    (case c_law => k_is); (case k_law => k_is); (case z_abs => k_is); (case z_all => k_is); (case z_bool => k_is); (case z_dict => k_is)
    (case z_int => k_is); (case z_isinstance => k_is); (case z_len => k_is); (case z_list => k_is); (case z_max => k_is); (case z_min => k_is)
    (case z_range => k_is); (case z_reversed => k_is); (case z_set => k_is); (case z_sorted => k_is); (case z_str => k_is); (case z_sum => k_is)
    (case z_tuple => k_is); (case z_zip => k_is); (case q_MOST_STATIONS => k_is); (case q_MOST_ASKS => k_is); (case q_PLAN_SHAPES => k_is); (case l_PLAN_SHAPES_0 => k_is)
    (case l_PLAN_SHAPES_1 => k_is); (case l_PLAN_SHAPES_2 => k_is); (case e_are_numbers => rfl); (case nT_are_numbers => kernel_rfl)
